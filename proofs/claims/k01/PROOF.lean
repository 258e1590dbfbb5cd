import PyProof.Rows.All
import Wide.All
import OpenK.AllK
import Wide.FinOn
import HandS.ForMost
import HandS.Wide
import HandS.ClsMeth
import HandS.Property
import HandS.ListItems
import HandS.SortOrd
import HandS.SortRule
import HandS.More
import HandS.Conv
import HandS.Codes
import HandS.Style
import HandS.IsInst
import HandS.OwnEq
import HandS.MakeKwOnly
import HandS.Words
import HandS.Defaults
import HandS.ForExc
import HandS.Lambda
import HandS.ExcIs
import HandS.EndTab
import KE.KNestM
import PySem.Challenge.RW_devicewindows_k01_runs_made_and_refused
set_option Elab.async false
set_option linter.all false
set_option maxRecDepth 100000
set_option maxHeartbeats 4000000
/-! Two rules of one's own: storing to a slice of a list; sorting the items of a dict with int keys and bool values. -/
namespace Ln
open PySem PySem.Spec PyProof.Rows L2
/-! ### xs[a:c] = ys -/
/-- the target's reading: the list at l, its bounds, the other list at b -/
def gSlice (to tl th : TE) : TG := fun v σ H Q => to σ H fun x H1 => tl σ H1 fun y H2 => th σ H2 fun z H3 =>
  ∃ (l b : Addr) (xs ys : List V) (a c : Int), x = .ref l ∧ v = .ref b ∧ y = .int a ∧ z = .int c ∧ H3 l = some (.lst xs) ∧ H3 b = some (.lst ys) ∧ l ≠ b ∧ 0 ≤ a ∧ a ≤ c ∧ c ≤ xs.length ∧ xs.length + ys.length ≤ sizeLine ∧
    Q σ (upd H3 l (.lst (xs.take a.toNat ++ ys ++ xs.drop c.toNat)))
section
variable {X : Cx} {pos : Pos}
theorem pg_slice {o lo hi : Expr} {p2 : Pos} {to tl th : TE} (ho : PE X o to) (hl : PE X lo tl) (hh : PE X hi th)
    (ha : ∀ v, assign (.Subscript o (.Slice (some lo) (some hi) none p2) pos) X.env v = (do
      let ov ← holding [v] (eval o X.env)
      let iv ← holding [v, ov] (eval (.Slice (some lo) (some hi) none p2) X.env)
      standAt pos
      holding [v, ov, iv] (setItem ov iv v)
      release [iv, v, ov] []) := by intro _; rfl) : PG X (.Subscript o (.Slice (some lo) (some hi) none p2) pos) (gSlice to tl th) := by
  refine ⟨fun pins s σ H v u Q I r h => ?_⟩
  rw [ha]
  refine wpAny_bind (wpAny_holding (thn (ho.run pins s σ H _ I h) fun ov s1 ⟨x, H1, I1, r1, q1⟩ => ?_))
  refine wpAny_bind (wpAny_holding (wpAny_Slice ?_))
  rw [evalPart_some, evalPart_some]
  refine thn (hl.run pins s1 σ H1 _ I1 q1) fun vl s2 ⟨y, H2, I2, r2, q2⟩ => ?_
  refine thn (hh.run pins s2 σ H2 _ I2 q2) fun vu s3 ⟨z, H3, I3, r3, q3⟩ => ?_
  rw [evalPart_none]
  refine wpAny_pure ?_
  obtain ⟨l, b, xs, ys, a, c, rfl, rfl, rfl, rfl, e1, e2, ne, h0, hac, hc, hz, q⟩ := q3
  obtain rfl : ov = Value.ref l := r1
  obtain rfl : u = Value.ref b := r
  have I4 : Inv X pins σ H3 { s3 with heap := s3.heap.push { cls := .type "slice", data := .fields #[vl, vu, .none] } } := I3.kept (t' := s3.toks) fun b ob q => Heap.get?_push_of_some _ q
  refine wpAny_bind (wpAny_standAt (wpAny_bind (wpAny_holding (set_slice I4 e1 e2 ne (Heap.IsSliceOf.new ..) r2 r3 h0 hac hc hz fun s' I' => ?_))))
  exact wpAny_release ⟨σ, _, I', q⟩
end
/-! ### sorted(d.items()): int keys, bool values -/
abbrev ltK (k : Value → Int) (v u : Value) : Bool := decide (k v < k u)
theorem swo_K (k : Value → Int) : SrtO.Swo (ltK k) := by
  refine ⟨fun x y h => ?_, fun x y z h1 h2 => ?_⟩
  · have a : k x < k y := of_decide_eq_true h
    exact decide_eq_false (by omega)
  · have a : ¬ k y < k x := of_decide_eq_false h1
    have b : ¬ k z < k y := of_decide_eq_false h2
    exact decide_eq_false (by omega)
end Ln
namespace Ln
open PySem PySem.Spec PyProof.Rows L2
/-- a view of the items of the dict at d -/
def ViewO (v d : Addr) : HO := .ext fun h => h.get? v = some { cls := .type "dict_items", data := .fields #[.ref d] }
def rItems : V → List V → Hp → VK → Prop := fun x xs H Q => ∃ (d : Addr) (kvs : List (Key × V)), x = .ref d ∧ xs = [] ∧ H d = some (.dK kvs) ∧ ∀ v, H v = none → Q (.ref v) (upd H v (ViewO v d))
section
variable {X : Cx}
theorem mt_items : MtR X "dict.items" rItems := by
  intro pins s σ H x vs v us Q I rx rv h
  obtain ⟨d, kvs, rfl, rfl, hd, q⟩ := h
  cases rx
  have hus := rv.zero
  subst hus
  obtain ⟨hz, hs0, vs, kv, hdo⟩ := I.hok d _ hd
  refine call_meetsIn F.slot_dict_items hdo.typeIs F.entry_dict_items (F.args_dict_items_1 _) (meets_dict_items (mixKind X.prog X.w) d hs0) ⟨⟨vs, hdo⟩, ?_⟩
  refine ⟨.ref s.heap.objs.size, _, I.laid (a := s.heap.objs.size) (t' := s.toks) (fun b ob q => Heap.get?_push_of_some _ q) (Nat.le_refl _) ?_, rfl, q _ (I.hok.fresh (Nat.le_refl _))⟩
  exact ⟨Heap.get?_push_size _ rfl, ⟨_, Heap.get?_push_size _ rfl⟩, fun h1 h2 e k => k _ e⟩
end
/-! pairs of an int and a bool -/
def IsPB (h : Heap) (v : Value) (x : Int) (b : Bool) : Prop := ∃ a o t n, v = .ref a ∧ h.get? a = some o ∧ o.cls = .type "tuple" ∧ o.data = .seq #[.int x t, .bool b] n
theorem IsPB.keeps {h h' : Heap} {v : Value} {x : Int} {b : Bool} (p : IsPB h v x b) (k : ∀ b o, h.get? b = some o → o.cls = .type "tuple" → h'.get? b = some o) : IsPB h' v x b := by
  obtain ⟨a, o, t, n, e, ho, hc, hd⟩ := p
  exact ⟨a, o, t, n, e, k _ _ ho hc, hc, hd⟩
theorem firsts_pb {h : Heap} : ∀ {vs : List Value}, (∀ v ∈ vs, ∃ x y, IsPB h v x y) → ∃ fs : List Value, PySem.W.KatTups h vs fs ∧ fs.length = vs.length ∧ ∀ f ∈ fs, ∃ x t, f = Value.int x t
  | [], _ => ⟨[], PySem.W.KatTups.nil, rfl, fun _ hm => by simp at hm⟩
  | v :: vs, hp => by
    obtain ⟨fs, h1, h2, h3⟩ := firsts_pb (vs := vs) fun v' hm => hp v' (List.mem_cons_of_mem _ hm)
    obtain ⟨x, y, a, o, t, n, e, ho, hc, hd⟩ := hp v (List.mem_cons_self ..)
    subst e
    refine ⟨.int x t :: fs, PySem.W.KatTups.cons ho hc hd rfl h1, by rw [List.length_cons, List.length_cons, h2], fun f hm => ?_⟩
    rcases List.mem_cons.mp hm with rfl | hm
    · exact ⟨x, t, rfl⟩
    · exact h3 f hm
section
variable {prog : Program} {w : World} {A : Around} {s : Shared}
open SrtO in
theorem pb_cmp {vs : List Value} {k : Value → Int} {g : Value → Bool} (hp : ∀ v ∈ vs, IsPB s.heap v (k v) (g v)) (hu : ∀ v ∈ vs, ∀ u ∈ vs, k v = k u → g v = g u) : Cmp prog w A s (tuples' true) (fun p => p.1 ∈ vs) (lt2 (ltK k)) := by
  intro p q hm hm'
  have h1 := hp _ hm
  have h2 := hp _ hm'
  have hg := hu _ hm _ hm'
  show wpAny (model prog w) A (keyLt' (tuples' true) p.1 q.1) (fun r s' => s' = s ∧ r = decide (k p.1 < k q.1)) (fun _ _ => False) s
  generalize k p.1 = x at h1 hg ⊢
  generalize g p.1 = y at h1 hg ⊢
  generalize k q.1 = x' at h2 hg ⊢
  generalize g q.1 = y' at h2 hg ⊢
  obtain ⟨a, o, t, n, e, ho, hc, hd⟩ := h1
  obtain ⟨a', o', t', n', e', ho', hc', hd'⟩ := h2
  rw [e, e']
  refine PySem.W.kat_lt ho hd ho' hd' ?_
  show PySem.W.KatLex prog w A true (decide (2 < 2)) _ [(.int x t, .int x' t'), (.bool y, .bool y')] 0 s
  refine PySem.W.kat_cons (SeqAt.EqAt.int_int x t x' t' prog w _ _ ?_)
  refine PySem.W.kat_go (fun e1 => ?_) (fun e1 => ?_)
  · have ex : x = x' := by simpa using e1
    have ey : y = y' := hg ex
    refine PySem.W.kat_yes (PySem.W.kat_cons (SeqAt.EqAt.bool_bool y y' prog w _ _ ?_))
    refine PySem.W.kat_go (fun e2 => ?_) (fun e2 => ?_)
    · have e3 : decide (x < x') = false := decide_eq_false (by omega)
      exact PySem.W.kat_yes (PySem.W.kat_nil ⟨rfl, e3.symm⟩)
    · rw [ey] at e2
      simp at e2
  · exact PySem.W.kat_no (oneLt_int ⟨rfl, rfl⟩)
open SrtO in
theorem pb_sortable {a : Addr} {vs : List Value} {k : Value → Int} {g : Value → Bool} (h0 : 0 < vs.length) (hp : ∀ v ∈ vs, IsPB s.heap v (k v) (g v)) (hu : ∀ v ∈ vs, ∀ u ∈ vs, k v = k u → g v = g u)
    (ha : ∀ o, s.heap.get? a = some o → o.cls ≠ .type "tuple") : SortableO prog w A s a vs (ltK k) := by
  intro h' keep
  have hp' : ∀ v ∈ vs, IsPB h' v (k v) (g v) := fun v hm => (hp v hm).keeps fun b o e c => keep b o (fun z => by subst z; exact ha o e c) e
  obtain ⟨fs, h1, h2, h3⟩ := firsts_pb fun v hm => ⟨_, _, hp' v hm⟩
  refine ⟨tuples' true, fun Q E hq => ?_, pb_cmp hp' hu⟩
  refine PySem.W.kat_kind (T := .type "int") h1 (by omega) (fun f hm => ?_) (by rfl) ?_
  · obtain ⟨x, t, rfl⟩ := h3 f hm
    exact PySem.W.Looks.now
  · have e : (Value.type "int" != Value.type "tuple") = true := by first | decide +kernel | rfl | decide
    rw [e]
    exact hq
end
/-! the list of the pairs, laid with the tuples -/
section
variable {X : Cx}
theorem pairs_laid {pins : List (Addr × Obj)} {σ : L2.St} {H : Hp} {s : Shared} {h' : Heap} {tk : Nat} {kvs : List (Key × V)} {vs : List (Key × Value)} {as : List Addr} {L : Addr} {ys : List V} {out : List Value} {c : Nat} (I : Inv X pins σ H s) (kv : KV kvs vs)
    (hk : ∀ b o, s.heap.get? b = some o → h'.get? b = some o) (newS : H L = none) (hLb : ∀ b o, s.heap.get? b = some o → b ≠ L) (hLa : L ∉ as) (hS : h'.get? L = some { cls := .type "list", dict := none, data := .seq out.toArray c, slots := #[] }) (hy : Vals ys out) (hyz : ys.length ≤ sizeLine)
    (hl : as.length = vs.length) (hG : PySem.W.KdxG (mixKind X.prog X.w) vs s.heap.objs.size h' as) :
    ∃ H' : Hp, (∀ b o, H b = some o → H' b = some o) ∧ H L = none ∧ (∀ t ∈ as, H t = none) ∧ H' L = some (.lst ys) ∧ Paired (fun (t : Addr) (q : Key × V) => H' t = some (.tup [kV q.1, q.2])) as kvs ∧ Inv X pins σ H' { s with heap := h', toks := tk } := by
  have lk : kvs.length = vs.length := Paired.length kv
  have nd : as.Nodup := List.Pairwise.imp (fun {a b} (h : a < b) => Nat.ne_of_lt h) hG.rise
  have new : ∀ t ∈ as, H t = none := fun t ht => I.hok.fresh (Nat.le_of_lt (hG.above t ht))
  have atP := LiI.putT_at as kvs (upd H L (.lst ys)) (by omega) nd
  have off : ∀ b, b ∉ as → b ≠ L → LiI.putT (upd H L (.lst ys)) as kvs b = H b := fun b h1 h2 => by rw [LiI.putT_off as kvs _ h1, upd_ne h2]
  have low : ∀ b o, s.heap.get? b = some o → b ∉ as ∧ b ≠ L := fun b o e => ⟨fun z => absurd (Heap.lt_size e) (Nat.not_lt.mpr (Nat.le_of_lt (hG.above b z))), hLb b o e⟩
  have kp : ∀ b u, H b = some u → (LiI.putT (upd H L (.lst ys)) as kvs) b = some u := fun b u e => by
    rw [off b (fun z => by rw [new b z] at e; cases e) (fun z => by rw [z, newS] at e; cases e)]
    exact e
  have eS : LiI.putT (upd H L (.lst ys)) as kvs L = some (.lst ys) := by rw [LiI.putT_off as kvs _ hLa, upd_same]
  refine ⟨LiI.putT (upd H L (.lst ys)) as kvs, kp, newS, new, eS, atP, ?_⟩
  refine I.call' (ch := []) rfl ⟨fun b o q _ _ _ => hk b o q, fun b o q _ _ _ => ⟨o.slots, hk b o q⟩, fun b o q n _ => ?_, fun b o q _ => ⟨o, hk b o q⟩, fun b xs q => kp b _ q, fun b o u q => kp b _ q, fun b ps q => ⟨#[], by rw [kp b _ q]; simp⟩⟩ (fun b u q => ?_) I.bare fun b z => by simp at z
  · obtain ⟨z1, z2⟩ := low b o q
    rw [off b z1 z2]
    exact n
  · by_cases hb : b ∈ as
    · obtain ⟨j, pk, e1, e2, e3⟩ := LiI.paired_ix atP hb
      rw [e3] at q
      cases q
      obtain ⟨key, k, x, f1, f2, f3⟩ := hG.pairs j b e1
      obtain ⟨qv, g1, g2, g3⟩ := LiI.paired_get kv e2
      rw [f1] at g1
      cases g1
      have rk : RelV (kV pk.1) key := by
        rw [g2]
        exact relV_key (show keyIs k key = true from f2)
      exact ⟨by show 2 ≤ sizeLine; decide, [key, x], .cons rk (.cons g3 .nil), ⟨_, f3, rfl, _, rfl⟩⟩
    · by_cases hb2 : b = L
      · rw [hb2] at q ⊢
        rw [eS] at q
        cases q
        exact ⟨hyz, out, c, hy, hS⟩
      · rw [off b hb hb2] at q
        exact (I.hok b u q).stay (fun d v _ y => hk d v y) (fun d y => kp d _ y) fun d xs y => kp d _ y
end
/-- the int and the bool of a pair, read off the heap -/
def kOf (h : Heap) : Value → Int
  | .ref a => match h.get? a with
    | some o => match o.data with
      | .seq its _ => match (its[0]? : Option Value) with
        | some (Value.int x _) => x
        | _ => 0
      | _ => 0
    | none => 0
  | _ => 0
def gOf (h : Heap) : Value → Bool
  | .ref a => match h.get? a with
    | some o => match o.data with
      | .seq its _ => match (its[1]? : Option Value) with
        | some (Value.bool x) => x
        | _ => false
      | _ => false
    | none => false
  | _ => false
theorem pb_reads {h : Heap} {v : Value} {x : Int} {b : Bool} (p : IsPB h v x b) : kOf h v = x ∧ gOf h v = b := by
  obtain ⟨a, o, t, n, rfl, ho, hc, hd⟩ := p
  unfold kOf gOf
  simp only [ho, hd]
  exact ⟨rfl, rfl⟩

def kvB (ks : List (Int × Bool)) : List (Key × V) := ks.map fun p => (Sum.inl p.1, V.bl p.2)
def rSortedI : List V → Hp → VK → Prop := fun vs H Q => ∃ (v d : Addr) (ks : List (Int × Bool)), vs = [V.ref v] ∧ H v = some (ViewO v d) ∧ H d = some (.dK (kvB ks)) ∧ (ks.map (·.1)).Nodup ∧
  ∀ (H' : Hp) (p : Addr) (ts : List Addr) (ks' : List (Int × Bool)), (∀ b o, H b = some o → H' b = some o) → H p = none → (∀ t ∈ ts, H t = none) → H' p = some (.lst (ts.map V.ref)) → ks'.Perm ks → ks'.Pairwise (fun a b => a.1 < b.1) →
    Paired (fun (t : Addr) (q : Int × Bool) => H' t = some (.tup [.int q.1, .bl q.2])) ts ks' → Q (.ref p) H'
theorem paired_map {α β γ : Type} {F : α → β → Prop} (f : γ → α) (g : γ → β) : ∀ {l : List γ}, (∀ x ∈ l, F (f x) (g x)) → Paired F (l.map f) (l.map g)
  | [], _ => .nil
  | x :: l, h => .cons (h x List.mem_cons_self) (paired_map f g fun y hy => h y (List.mem_cons_of_mem _ hy))
def unRef : Value → Addr
  | .ref a => a
  | _ => 0
section
variable {X : Cx}
theorem cr_sortedItems (hcalm : X.calm = true) : CallR X (.builtin "sorted") rSortedI := by
  intro pins s σ H xs us Q I r q
  obtain ⟨v, d, ks, rfl, hv, hd, hnd, q⟩ := q
  obtain ⟨u, rfl, ru⟩ := vals1 r
  obtain rfl : u = Value.ref v := ru
  have hview := (I.hok v _ hv).1
  obtain ⟨hz, hs0, vs, kv, hdo⟩ := I.hok d _ hd
  obtain ⟨ep, hat⟩ := hdo.dictAt
  have lk : (kvB ks).length = vs.length := Paired.length kv
  have lks : (kvB ks).length = ks.length := by unfold kvB; rw [List.length_map]
  refine Calls.call_function_entry PyProof.Rows.kind_sorted PyProof.Rows.plain_sorted PyProof.Rows.entry_sorted (PyProof.Rows.args_sorted1 _) ?_
  unfold Builtin.«sorted»
  refine wpAny_bind (m := checkCount "sorted" 1 1 _) (wpAny_pure ?_)
  refine wpAny_bind (PySem.W.kdx_collect (A := X.A.in1) (knd := mixKind X.prog X.w) (kvs := vs) (ep := ep) (I.ok.hd hcalm) ⟨_, hview, rfl, rfl⟩ hat (by omega) fun h' tk as hk hl hG => ?_)
  have hlen : (as.map Value.ref).length ≤ sizeLine := by rw [List.length_map]; omega
  refine wpAny_bind (wpAny_newList ?_ hlen)
  -- the pairs
  have hp : ∀ (j : Nat) (a : Addr), as[j]? = some a → ∃ p, ks[j]? = some p ∧ IsPB h' (.ref a) p.1 p.2 := fun j a hj => by
    obtain ⟨key, kk, x, e1, e2, e3⟩ := hG.pairs j a hj
    have hjl : j < as.length := (List.getElem?_eq_some_iff.mp hj).1
    have hjk : j < ks.length := by omega
    have e4 : (kvB ks)[j]? = some (Sum.inl (ks[j]).1, V.bl (ks[j]).2) := by
      unfold kvB
      rw [List.getElem?_map, List.getElem?_eq_getElem hjk] <;> rfl
    obtain ⟨qv, g1, g2, g3⟩ := LiI.paired_get kv e4
    rw [e1] at g1
    cases g1
    have rk : RelV (kV (Sum.inl (ks[j]).1)) key := by
      have z : kk = Sum.inl (ks[j]).1 := g2.symm
      rw [← z]
      exact relV_key (show keyIs kk key = true from e2)
    obtain ⟨t, rfl⟩ := rk
    obtain rfl : x = Value.bool (ks[j]).2 := g3
    exact ⟨ks[j], List.getElem?_eq_getElem hjk, a, _, t, _, rfl, e3, rfl, rfl⟩
  have hIs : ∀ v ∈ as.map Value.ref, IsPB h' v (kOf h' v) (gOf h' v) := fun v hm => by
    obtain ⟨a, ha, rfl⟩ := List.mem_map.mp hm
    obtain ⟨j, hj⟩ := List.mem_iff_getElem?.mp ha
    obtain ⟨p, _, hpb⟩ := hp j a hj
    obtain ⟨e1, e2⟩ := pb_reads hpb
    rw [e1, e2]
    exact hpb
  have hmap : (as.map Value.ref).map (fun v => (kOf h' v, gOf h' v)) = ks := by
    apply List.ext_getElem?
    intro j
    rw [List.map_map, List.getElem?_map]
    cases e : as[j]? with
    | none =>
      have : as.length ≤ j := List.getElem?_eq_none_iff.mp e
      rw [List.getElem?_eq_none (by omega)]
      rfl
    | some a =>
      obtain ⟨p, e1, hpb⟩ := hp j a e
      obtain ⟨e2, e3⟩ := pb_reads hpb
      rw [e1]
      show some (kOf h' (.ref a), gOf h' (.ref a)) = some p
      rw [e2, e3]
  have hu : ∀ v ∈ as.map Value.ref, ∀ u ∈ as.map Value.ref, kOf h' v = kOf h' u → gOf h' v = gOf h' u := fun v hm u hn e => by
    obtain ⟨i, hi⟩ := List.mem_iff_getElem?.mp hm
    obtain ⟨j, hj⟩ := List.mem_iff_getElem?.mp hn
    have e1 : ks[i]? = some (kOf h' v, gOf h' v) := by rw [← hmap, List.getElem?_map, hi]; rfl
    have e2 : ks[j]? = some (kOf h' u, gOf h' u) := by rw [← hmap, List.getElem?_map, hj]; rfl
    have f1 : (ks.map (·.1))[i]? = some (kOf h' v) := by rw [List.getElem?_map, e1]; rfl
    have f2 : (ks.map (·.1))[j]? = some (kOf h' v) := by rw [List.getElem?_map, e2, e]; rfl
    have ij : i = j := nd_ix hnd f1 f2
    subst ij
    rw [e1] at e2
    exact (Prod.mk.inj (Option.some.inj e2)).2
  have I1 : Inv X pins σ H { s with heap := h', toks := tk } := I.kept hk
  have hoL : (h'.push (seqObj "list" (as.map Value.ref).toArray 0)).get? h'.objs.size = some (seqObj "list" (as.map Value.ref).toArray 0) := Heap.get?_push_size _ rfl
  show wpAny _ _ _ _ _ { s with heap := h'.push (seqObj "list" (as.map Value.ref).toArray 0), toks := tk }
  refine wpAny_bind (wpAny_holding (wpAny_call_entry PyProof.Rows.slot_list_sort ⟨_, hoL, rfl⟩ PyProof.Rows.entry_list_sort
    (SrtO.list_sort_ord (swo_K (kOf h')) hoL hlen (fun h2 => ?_) fun out hs hb => ⟨_, rfl, ?_⟩) (PyProof.Rows.args_list_sort _)))
  · refine pb_sortable (g := gOf h') (by omega) (fun v hm => (hIs v hm).keeps fun b o e _ => Heap.get?_push_of_some _ e) hu fun o e => ?_
    rw [hoL] at e
    cases e
    intro c
    exact absurd (Value.type.inj c) (by decide)
  · have hout : ∀ x ∈ out, ∃ a ∈ as, x = Value.ref a := fun x hx => by
      obtain ⟨a, ha, e⟩ := List.mem_map.mp (hb.perm.mem_iff.mp hx)
      exact ⟨a, ha, e.symm⟩
    have eout : out = (out.map unRef).map Value.ref := by
      rw [List.map_map]
      conv => lhs; rw [← List.map_id out]
      refine List.map_congr_left fun x hx => ?_
      obtain ⟨a, _, rfl⟩ := hout x hx
      rfl
    obtain ⟨e', he'⟩ := PyProof.Rows.sortedHeap_at (vs := as.map Value.ref) (out := out.toArray) hoL
    have hkk : ∀ b o, h'.get? b = some o → (sortedHeap (h'.push (seqObj "list" (as.map Value.ref).toArray 0)) h'.objs.size (as.map Value.ref) out.toArray).get? b = some o := fun b u e => by
      have hb : b < h'.objs.size := Heap.lt_size e
      rw [PyProof.Rows.sortedHeap_old (Nat.ne_of_lt hb) (by rw [size_push']; exact Nat.lt_succ_of_lt hb)]
      exact Heap.get?_push_of_some _ e
    have hLa : h'.objs.size ∉ as := fun z => Nat.lt_irrefl _ (hG.there z)
    have hG3 : PySem.W.KdxG (mixKind X.prog X.w) vs s.heap.objs.size (sortedHeap (h'.push (seqObj "list" (as.map Value.ref).toArray 0)) h'.objs.size (as.map Value.ref) out.toArray) as := ⟨hG.rise, hG.above, fun j a hj => by
      obtain ⟨key, kk, x, e1, e2, e3⟩ := hG.pairs j a hj
      exact ⟨key, kk, x, e1, e2, hkk _ _ e3⟩⟩
    have hyv : Vals ((out.map unRef).map V.ref) out := by
      have z : Vals ((out.map unRef).map V.ref) ((out.map unRef).map Value.ref) := LiI.vals_refs _
      rw [← eout] at z
      exact z
    have hyz : ((out.map unRef).map V.ref).length ≤ sizeLine := by
      rw [List.length_map, List.length_map, hb.perm.length_eq]
      exact hlen
    obtain ⟨H', k1, k2, k3, k4, k5, J⟩ := pairs_laid (tk := tk) I kv (fun b o e => hkk b o (hk b o e)) (I1.hok.fresh (Nat.le_refl _)) (fun b o e => Nat.ne_of_lt (Heap.lt_size (hk b o e))) hLa he' hyv hyz hl hG3
    have kper : (out.map fun v => (kOf h' v, gOf h' v)).Perm ks := by
      have z := hb.perm.map fun v => (kOf h' v, gOf h' v)
      rw [hmap] at z
      exact z
    refine wpAny_pure ⟨_, rfl, .ref h'.objs.size, H', J, rfl, q H' _ (out.map unRef) (out.map fun v => (kOf h' v, gOf h' v)) k1 k2 (fun t ht => ?_) k4 kper ?_ ?_⟩
    · obtain ⟨x, hx, rfl⟩ := List.mem_map.mp ht
      obtain ⟨a, ha, rfl⟩ := hout x hx
      exact k3 a ha
    · have nd2 : ((out.map fun v => (kOf h' v, gOf h' v)).map (·.1)).Nodup := (kper.map (·.1)).nodup_iff.mpr hnd
      have nd3 : out.Pairwise fun v u => kOf h' v ≠ kOf h' u := by
        rw [List.map_map] at nd2
        exact List.pairwise_map.mp nd2
      refine List.pairwise_map.mpr ?_
      have hs' : out.Pairwise fun x y => ltK (kOf h') y x = false := hs
      refine List.Pairwise.imp (fun {a b} (h : ltK (kOf h') b a = false ∧ kOf h' a ≠ kOf h' b) => ?_) (List.pairwise_and_iff.mpr ⟨hs', nd3⟩)
      have h1 : ¬ kOf h' b < kOf h' a := of_decide_eq_false h.1
      have h2 := h.2
      show kOf h' a < kOf h' b
      omega
    · refine paired_map unRef (fun v => (kOf h' v, gOf h' v)) fun x hx => ?_
      obtain ⟨a, ha, rfl⟩ := hout x hx
      obtain ⟨j, hj⟩ := List.mem_iff_getElem?.mp ha
      obtain ⟨qv, g1, g2⟩ := LiI.paired_get k5 hj
      obtain ⟨p, e1, hpb⟩ := hp j a hj
      obtain ⟨e2, e3⟩ := pb_reads hpb
      have g3 : (kvB ks)[j]? = some (Sum.inl p.1, V.bl p.2) := by
        unfold kvB
        rw [List.getElem?_map, e1] <;> rfl
      rw [g3] at g1
      cases g1
      show H' a = some (.tup [.int (kOf h' (.ref a)), .bl (gOf h' (.ref a))])
      rw [e2, e3]
      exact g2
end
end Ln
/-! Rules of one's own: a class called by a local name, static methods, operators of own classes. -/
namespace Ow
open PySem PySem.Spec PyProof.Rows L2
/-- an own def called at some around -/
theorem run_own {X : Cx} {CX : CXT} {k : Nat} {f : Addr} {fd : FuncData} {ps : List Str} {sp : Sp} {E : XK} {A : Around} {pins : List (Addr × Obj)} {σ : L2.St} {H : Hp} {s : Shared} {Q : VK} {us : List Value} {vs : List V}
    (F : FnOk X.prog X.w X.K X.mg X.base CX k f fd ps sp) (hr : Room k A) (e0 : Env0 X.prog X.w X.K X.mg X.base A X.stack s H) (hb : Binds X.K fd ps []) (hx : Passes CX X E) (I : Inv X pins σ H s) (r : Vals vs us) (h : sp vs H Q E) :
    wpAny (model X.prog X.w) A (call (.ref f) us) (EP X pins σ Q) X.xe s := by
  have hl : us.length = ps.length := by rw [← r.length]; exact F.len _ _ _ _ h
  refine wpAny_call (codeAny_mono (F.run A X.stack s H ⟨us, []⟩ us vs Q E hr e0 (by
    have z := hb s us I.kIn (by simpa using hl)
    simpa using z) r h) fun q s' hq => ?_)
  cases q with
  | error e => exact hx pins σ H s e s' I hq
  | ok fl =>
    cases fl with
    | ret w => exact I.after hq
    | next => exact False.elim hq
    | brk => exact False.elim hq
    | cont => exact False.elim hq
section
variable {X : Cx} {CX : CXT} {k i : Nat} {f C p g : Addr} {mc : Value} {fd : FuncData} {ps : List Str} {sp : Sp} {dvs : List V} {ds : List Value} {E : XK} {x m : Str} {px pos apos : Pos} {o e : Expr} {es : List Expr} {ta : TE} {t : TA} {pl : Sem Bool}
/-- x(e, ..), the i-th slot holds the class at C -/
def tMakeL (i : Nat) (C : Addr) (sp : Sp) (dvs : List V) (E : XK) (t : TA) : TE := fun σ H Q => σ[i]? = some (some (.ref C)) ∧ tMake C sp dvs E t σ H Q
theorem pe_makeL (M : Mk X.K C f) (F : FnOk X.prog X.w X.K X.mg X.base CX k f fd ps sp) (hr : Room (k + 1) X.A) (hN : X.N[i]? = some x) (hv : Vis X.env.scope x) (hb : Binds X.K fd ps ds) (hd : Vals dvs ds) (hx : Passes CX X E)
    (ha : PA X (e :: es) t) (hdb : (x == ("__debug__" : Str)) = false := by decide) (hcd : (x == ("__classdict__" : Str)) = false := by decide) (he : starEach (e :: es) X.env = (false, eval e X.env) :: starEach es X.env := by rfl) (hpl : (backTo pos (starEach es X.env)).any (·.1) = false := by rfl) :
    PE X (.Call (.Name x px) (e :: es) [] pos) (tMakeL i C sp dvs E t) := by
  refine ⟨fun pins s σ H Q I h => ?_⟩
  obtain ⟨hs, ht⟩ := h
  refine wpAny_Call_Name_kw (thn ((pe_var (pos := px) hN hv hdb hcd).run pins s σ H (fun v H1 => v = .ref C ∧ H1 = H) I ⟨.ref C, hs, rfl, rfl⟩) fun u s1 ⟨v, H1, I1, r1, q1⟩ => ?_)
  obtain ⟨rfl, rfl⟩ := q1
  cases r1
  refine PySem.W.callWith_K (h₀ := X.base) I1.ok.mod.kin M.kp (thn (ha.run pos pins s1 σ _ _ I1 ht) fun us s2 ⟨vs, H2, I2, r, q⟩ => ⟨I2.kIn, ?_⟩) he hpl
  exact run_make M F hr hb hd hx I2 r q
/-- C.m is a static method: its record at p, its def at g -/
structure SMet (K : PySem.W.Frag) (C : Addr) (mc : Value) (m : Str) (p g : Addr) : Prop where
  at_ : PySem.W.findCls K (.ref C) mc m = some (.get (.builtin "staticmethod.__get__") (.ref p) .none (.ref C))
  rc : ∃ rest, PySem.W.recIn K p "staticmethod" = some (.ref g :: rest)
  kp : PySem.W.keepIn K (.ref g) = true
def tSMeth (C : Addr) (sp : Sp) (dvs : List V) (E : XK) (ta : TE) (t : TA) : TE := fun σ H Q => ta σ H fun x H1 => x = .ref C ∧ t σ H1 fun vs H2 => sp (vs ++ dvs) H2 Q E
theorem pe_smeth (he : PE X o ta) (r : ClX.CRead X.K C mc) (c : SMet X.K C mc m p g) (F : FnOk X.prog X.w X.K X.mg X.base CX k g fd ps sp) (hr : Room k X.A) (hb : Binds X.K fd ps ds) (hd : Vals dvs ds) (hx : Passes CX X E) (ha : PA X (e :: es) t)
    (hst : starEach (e :: es) X.env = (false, eval e X.env) :: starEach es X.env := by rfl) (hpl : (backTo pos (starEach es X.env)).any (·.1) = false := by rfl)
    (ht : eval (.Call (.Attribute o m apos) (e :: es) [] pos) X.env = (do
      let ov ← eval o X.env
      standAt apos.atName
      let (f, first) ← holding [ov] (getMethod ov m pl)
      callWith pos f first (backTo pos (starEach (e :: es) X.env)) (backToKw pos (keywordEach [] X.env))) := by rfl) :
    PE X (.Call (.Attribute o m apos) (e :: es) [] pos) (tSMeth C sp dvs E ta t) := by
  refine ⟨fun pins s σ H Q I h => ?_⟩
  refine PySem.W.methodCall_KW (pl := pl) (thn (he.run pins s σ H _ I h) fun u s1 ⟨x, H1, I1, rx, ex, q⟩ => ?_) ht
  subst ex
  obtain rfl : u = Value.ref C := rx
  obtain ⟨rest, hp⟩ := c.rc
  refine PySem.W.method_cls I1.kIn r.ga (PySem.W.cls_bind I1.kIn r.rd c.at_ (wpAny_call (PySem.W.sm_get (s := { s1 with toks := s1.toks + 1 }) I1.kIn hp (PySem.W.handed_on rfl ?_))))
  have I2 := I1.tok (s1.toks + 1)
  refine PySem.W.callWith_K (h₀ := X.base) I2.ok.mod.kin c.kp (thn (ha.run pos pins _ σ H1 _ I2 q) fun us s2 ⟨vs, H2, I3, r, q2⟩ => ⟨I3.kIn, ?_⟩) hst hpl
  exact run_fn F hr hb hd hx I3 r q2
end
/-! ### operators of an own class -/
section
variable {X : Cx} {CX : CXT} {k : Nat} {C f : Addr} {fd : FuncData} {ps : List Str} {sp : Sp} {E : XK}
/-- a op b, both instances of C, C has the method -/
def rBin (C : Addr) (sp : Sp) (E : XK) : R2 := fun x y H Q => ∃ a b dx dy fs gs, x = .ref a ∧ y = .ref b ∧ H a = some (.ins C dx fs) ∧ H b = some (.ins C dy gs) ∧ sp [.ref a, .ref b] H (fun v H' => (∀ c, v ≠ .ty c) ∧ Q v H') E
/-- len(o) -/
def rLenO (C : Addr) (sp : Sp) (E : XK) : List V → Hp → VK → Prop := fun xs H Q => ∃ a dx fs, xs = [.ref a] ∧ H a = some (.ins C dx fs) ∧ sp [.ref a] H (fun v H' => ∃ n : Int, v = .int n ∧ 0 ≤ n ∧ n < 2 ^ 63 ∧ Q (.int n) H') E
theorem call_lenO (F : FnOk X.prog X.w X.K X.mg X.base CX k f fd ps sp) (hr : Room (k + 1) X.A) (hs : PySem.W.findIn X.K (.ref C) "__len__" = some (some (.ref f))) (hf : PySem.W.isFn X.K (.ref f) = true) (hb : Binds X.K fd ps []) (hx : Passes CX X E) :
    CallR X (.builtin "len") (rLenO C sp E) := by
  intro pins s σ H xs us Q I r h
  obtain ⟨a, dx, fs, rfl, ha, q⟩ := h
  obtain ⟨u, rfl, ru⟩ := vals1 r
  obtain rfl : u = Value.ref a := ru
  obtain ⟨mA, J, _⟩ := ins_get I.hok ha
  obtain ⟨od, J, _⟩ := J.look
  obtain ⟨m, hF⟩ := I.fr
  refine PySem.W.len_K hF I.ok.mod.kin J hs hf (wpAny_mono (run_own F hr.in1 I.env0.in1 hb hx I (vs := [.ref a]) (.cons (show RelV (.ref a) (.ref a) from rfl) .nil) q) (fun v s' hq => ?_) fun _ _ z => z)
  obtain ⟨w, H', I', rw', n, rfl, n0, n1, q'⟩ := hq
  obtain ⟨t, rfl⟩ := rw'
  exact ⟨⟨n0, n1⟩, .int n, H', I'.tok _, ⟨_, rfl⟩, q'⟩
/-- x in o -/
def rInO (C : Addr) (sp : Sp) (E : XK) : R2 := fun x y H Q => ∃ a dx fs, y = .ref a ∧ H a = some (.ins C dx fs) ∧ sp [.ref a, x] H (fun v H' => ∃ b, v = .bl b ∧ Q (.bl b) H') E
theorem op_inO (F : FnOk X.prog X.w X.K X.mg X.base CX k f fd ps sp) (hr : Room k X.A) (hs : PySem.W.findIn X.K (.ref C) "__contains__" = some (some (.ref f))) (hf : PySem.W.isFn X.K (.ref f) = true) (hb : Binds X.K fd ps []) (hx : Passes CX X E) :
    OpR X (compareOp .In) (rInO C sp E) := by
  intro pins s σ H x y v u Q I rx ry h
  obtain ⟨a, dx, fs, rfl, ha, q⟩ := h
  obtain rfl : u = Value.ref a := ry
  obtain ⟨mA, J, _⟩ := ins_get I.hok ha
  obtain ⟨od, J, _⟩ := J.look
  obtain ⟨m, hF⟩ := I.fr
  refine PySem.W.in_K hF I.ok.mod.kin J hs hf (wpAny_mono (run_own F hr I.env0 hb hx I (vs := [.ref a, x]) (.cons (show RelV (.ref a) (.ref a) from rfl) (.cons rx .nil)) q) (fun v s' hq => ?_) fun _ _ z => z)
  obtain ⟨w, H', I', rw', b, rfl, q'⟩ := hq
  cases rw'
  exact wpAny_truthy_bool ⟨.bl b, H', I', rfl, q'⟩
/-- a op b of two instances of C by C's own method -/
theorem op_bin {op : Operator} (F : FnOk X.prog X.w X.K X.mg X.base CX k f fd ps sp) (hr : Room k X.A) (hc : PySem.W.selfFirst X.K C = true) (hs : PySem.W.findIn X.K (.ref C) (PySem.dunder op.info.2) = some (some (.ref f))) (hf : PySem.W.isFn X.K (.ref f) = true) (hb : Binds X.K fd ps []) (hx : Passes CX X E) :
    OpR X (binaryOp op) (rBin C sp E) := by
  intro pins s σ H x y v u Q I rx ry h
  obtain ⟨a, b, dx, dy, fs, gs, rfl, rfl, ha, hb', q⟩ := h
  obtain rfl : v = Value.ref a := rx
  obtain rfl : u = Value.ref b := ry
  obtain ⟨mA, J, _⟩ := ins_get I.hok ha
  obtain ⟨mB, J', _⟩ := ins_get I.hok hb'
  obtain ⟨od, J, _⟩ := J.look
  obtain ⟨od', J', _⟩ := J'.look
  obtain ⟨m, hF⟩ := I.fr
  refine PySem.W.binop_K hF I.ok.mod.kin J J'.type hc hs hf (wpAny_mono (run_own F hr I.env0 hb hx I (vs := [.ref a, .ref b]) (.cons (show RelV (.ref a) (.ref a) from rfl) (.cons (show RelV (.ref b) (.ref b) from rfl) .nil)) q) (fun w s' hq => ?_) fun _ _ z => z)
  obtain ⟨z, H', I', rw', nt, q'⟩ := hq
  cases z with
  | ty c => exact absurd rfl (nt c)
  | non => cases rw'; exact ⟨.non, H', I', rfl, q'⟩
  | bl c => cases rw'; exact ⟨.bl c, H', I', rfl, q'⟩
  | int n => obtain ⟨t, rfl⟩ := rw'; exact ⟨.int n, H', I', ⟨t, rfl⟩, q'⟩
  | str n => obtain ⟨t, rfl⟩ := rw'; exact ⟨.str n, H', I', ⟨t, rfl⟩, q'⟩
  | byt n => obtain ⟨t, rfl⟩ := rw'; exact ⟨.byt n, H', I', ⟨t, rfl⟩, q'⟩
  | flt n => obtain ⟨t, rfl⟩ := rw'; exact ⟨.flt n, H', I', ⟨t, rfl⟩, q'⟩
  | ref c => cases rw'; exact ⟨.ref c, H', I', rfl, q'⟩
/-- a == y, a an instance of C with its own __eq__, y of a type that does not go first -/
def rEqO (K : PySem.W.Frag) (C : Addr) (sp : Sp) (E : XK) : R2 := fun x y H Q => ∃ a dx fs t, x = .ref a ∧ H a = some (.ins C dx fs) ∧ TyX K H y t ∧ PySem.W.notFirst K C t = true ∧ sp [.ref a, y] H (fun v H' => ∃ b, v = .bl b ∧ Q (.bl b) H') E
theorem op_eqO (F : FnOk X.prog X.w X.K X.mg X.base CX k f fd ps sp) (hr : Room k X.A) (hs : PySem.W.findIn X.K (.ref C) "__eq__" = some (some (.ref f))) (hf : PySem.W.isFn X.K (.ref f) = true) (hb : Binds X.K fd ps []) (hx : Passes CX X E) :
    OpR X (compareOp .Eq) (rEqO X.K C sp E) := by
  intro pins s σ H x y v u Q I rx ry h
  obtain ⟨a, dx, fs, t, rfl, ha, ty, hn, q⟩ := h
  obtain rfl : v = Value.ref a := rx
  obtain ⟨mA, J, _⟩ := ins_get I.hok ha
  obtain ⟨od, J, _⟩ := J.look
  obtain ⟨m, hF⟩ := I.fr
  obtain ⟨P, kx, hP, _⟩ := kit_of I ry ty
  show wpAny _ _ (richCompare .Eq (.ref a) u) _ _ _
  refine PySem.W.cmp_K (op := .Eq) (tb := t) hr.units0 hF I.ok.mod.kin J (kx.ty _ _ I.kIn hP) hn hs hf (wpAny_mono (run_own F hr I.env0 hb hx I (vs := [.ref a, y]) (.cons (show RelV (.ref a) (.ref a) from rfl) (.cons ry .nil)) q) (fun w s' hq => ?_) fun _ _ z => z)
  obtain ⟨z, H', I', rw', b, rfl, q'⟩ := hq
  cases rw'
  exact ⟨.bl b, H', I', rfl, q'⟩
end
end Ow
/-! Class methods and classes called by keywords alone; defs without defaults. -/
namespace Kc
open PySem PySem.Spec PyProof.Rows L2
section
variable {K : PySem.W.Frag} {x qual : Str} {st : Stmt} {f : Addr} {fd : FuncData}
/-- one value by its place, two by their names, the later one first -/
theorem kbn_swap {p0 p1 p2 : Str} (F : Fun K x qual st f fd)
    (h : ∀ (kV doc pm : Value) (an : Option Addr) (cdv ct : Value) (u a b : Value), bindArgs (PySem.W.fnOf x qual (defArgs st) (defBody st) (defScope st) .none kV doc pm an cdv ct) ⟨[u], [(p2, a), (p1, b)]⟩ = pure ([p0, p1, p2].zip [u, b, a])) :
    KBn K fd [p0, p1, p2] 1 [p2, p1] (fun us ws => us ++ ws.reverse) (fun vs zs => vs ++ zs.reverse) := by
  obtain ⟨oc, od, kV, doc, pm, an, cdv, ct, osl, rfl, _, _⟩ := F.ex
  refine ⟨fun s us ws _ l1 l2 => ?_, fun r1 r2 => r1.append r2.reverse⟩
  obtain ⟨u, rfl⟩ : ∃ u, us = [u] := List.length_eq_one_iff.mp l1
  obtain ⟨a, b, rfl⟩ : ∃ a b, ws = [a, b] := match ws, l2 with
    | [a, b], _ => ⟨a, b, rfl⟩
  exact .of_eq (h kV doc pm an cdv ct u a b)
end
/-- o.m(k = v, ..), o the class at C, m a classmethod -/
def tCMethK (C : Addr) (n : Nat) (sp : Sp) (gV : List V → List V → List V) (E : XK) (ta : TE) (tk : TA) : TE := fun σ H Q => ta σ H fun x H1 => x = .ref C ∧ tk σ H1 fun zs H2 => zs.length = n ∧ sp (gV [.ref C] zs) H2 Q E
section
variable {X : Cx} {CX : CXT} {k : Nat} {C p g : Addr} {mc : Value} {fd : FuncData} {ps ks : List Str} {sp : Sp} {E : XK} {o : Expr} {kws : List Keyword} {m : Str} {pos apos : Pos} {ta : TE} {tk : TA} {pl : Sem Bool} {gg : List Value → List Value → List Value} {gV : List V → List V → List V}
theorem pe_cmethK0 (he : PE X o ta) (r : ClX.CRead X.K C mc) (c : ClX.CMet X.K C mc m p g) (F : FnOk X.prog X.w X.K X.mg X.base CX k g fd ps sp) (hb : KBn X.K fd ps 1 ks gg gV) (hr : Room k X.A) (hx : Passes CX X E) (hkw : PK X kws tk)
    (hall : (backToKw pos (keywordEach kws X.env)).all (·.1.isSome) = true := by rfl) (hks : (backToKw pos (keywordEach kws X.env)).filterMap (·.1) = ks := by rfl)
    (hpl : ((backTo pos (starEach [] X.env)).any (·.1) || (backToKw pos (keywordEach kws X.env)).any (·.1.isNone)) = false := by rfl)
    (ht : eval (.Call (.Attribute o m apos) [] kws pos) X.env = (do
      let v ← eval o X.env
      standAt apos.atName
      let (fv, fst) ← holding [v] (getMethod v m pl)
      callWith pos fv fst (backTo pos (starEach [] X.env)) (backToKw pos (keywordEach kws X.env))) := by rfl) :
    PE X (.Call (.Attribute o m apos) [] kws pos) (tCMethK C ks.length sp gV E ta tk) := by
  refine ⟨fun pins s σ H Q I h => ?_⟩
  refine PySem.W.methodCall_KW (pl := pl) (thn (he.run pins s σ H _ I h) fun u s1 hh => ?_) ht
  obtain ⟨x, H1, I1, rx, ex, q⟩ := hh
  subst ex
  cases rx
  refine ClX.getmethcm_ok I1 r c fun s2 I2 => ?_
  refine PySem.W.callWith_of (first := []) hpl (PySem.W.keeps_M (K := X.K) (self := .ref C) c.fi) (evalArgs_kw2_nil hall (thn (hkw.run pos _ s2 σ H1 _ I2 q) fun ws s3 hh2 => ?_))
  obtain ⟨zs, H2, I3, rz, l2, q2⟩ := hh2
  refine ⟨⟨ClX.pin_at I3, I3.kIn⟩, ?_⟩
  rw [hks]
  have r2 : Vals (gV [.ref C] zs) (gg [.ref C] ws) := hb.rel (.cons rfl .nil) rz
  have z : wpAny (model X.prog X.w) X.A (call (.ref s1.heap.objs.size) [] (ks.zip ws)) (EP X ((s1.heap.objs.size, PySem.W.methodObj (.ref g) (.ref C)) :: pins) σ Q) X.xe s3 := by
    refine wpAny_call (PySem.W.method_call (ClX.pin_at I3) (codeAny_mono (F.run X.A X.stack s3 H2 ⟨[.ref C], ks.zip ws⟩ (gg [.ref C] ws) (gV [.ref C] zs) Q E hr I3.env0 (hb.to s3 [.ref C] ws I3.kIn rfl (rz.length.symm.trans l2)) r2 q2) fun r s' hq => ?_))
    cases r with
    | error e => exact hx _ σ H2 s3 e s' I3 hq
    | ok fl =>
      cases fl with
      | ret w => exact I3.after hq
      | next => exact False.elim hq
      | brk => exact False.elim hq
      | cont => exact False.elim hq
  exact thn z fun _ _ y => ClX.unpinE y
end
end Kc
namespace Ro
open PySem L2
def top (i : Nat) : Stmt := PySem.Challenge.pw_devicewindows_k01_runs_made_and_refused.main.body.getD i (.Pass ⟨0, 0, 0, 0⟩)
abbrev sWhole : Stmt := top 6
abbrev sInteger : Stmt := top 5
abbrev sInit : Stmt := inClass (top 9) 2
abbrev sBetween : Stmt := inClass (top 9) 4
abbrev sEnd : Stmt := inClass (top 9) 5
/-! ### a run -/
theorem n1 : ¬ (("first" : Str) = "many") := by decide +kernel
def rf (f m : Int) : List (Str × V) := putF "many" (.int m) (putF "first" (.int f) [])
theorem rf_f (f m : Int) : (rf f m).lookup ("first" : Str) = some (.int f) := by
  unfold rf
  rw [lookup_putF, if_neg n1, lookup_putF, if_pos rfl]
theorem rf_m (f m : Int) : (rf f m).lookup ("many" : Str) = some (.int m) := by
  unfold rf
  rw [lookup_putF, if_pos rfl]
theorem rf_no (f m : Int) {x : Str} (h1 : ¬ x = "many") (h2 : ¬ x = "first") : (rf f m).lookup x = none := by
  unfold rf
  rw [lookup_putF, if_neg h1, lookup_putF, if_neg h2]
  all_goals rfl
def RunAt (C : Addr) (H : Hp) (p : Addr) (f m : Int) : Prop := ∃ dx, H p = some (.ins C dx (rf f m))
abbrev Most : Int := 10 ^ 12
/-- what the walk asks of the class and the names -/
structure TR (K : PySem.W.Frag) (mg : Str → Option Value) (C : Addr) (mc : Value) (tM : Tok) : Prop where
  cl : Cls K C
  nF : NoAttr K C "first"
  nM : NoAttr K C "many"
  mgC : mg "Run" = some (.ref C)
  most : mg "_MOST" = some (.int (10 ^ 12) tM)
  isi : mg "isinstance" = none
  int : mg "int" = none
  bool : mg "bool" = none
  range : mg "range" = none
  rd : ClX.CRead K C mc
/-- integer(x): of an int; of a bool; of what is neither -/
def spInteger (K : PySem.W.Frag) : Sp := fun vs H Q _ => ∃ x : V, vs = [x] ∧ ((∃ v, x = .int v ∧ Q (.bl true) H) ∨ (∃ b, x = .bl b ∧ Q (.bl false) H) ∨ ∃ t, TyX K H x t ∧ PySem.W.kitOne K t (.type "int") = some false ∧ Q (.bl false) H)
/-- whole(x, least, most): of an int; of a bool; of what is neither -/
def spWhole (K : PySem.W.Frag) : Sp := fun vs H Q _ => ∃ (x : V) (lo hi : Int), vs = [x, .int lo, .int hi] ∧
  ((∃ v, x = .int v ∧ Q (.bl (decide (lo ≤ v ∧ v ≤ hi))) H) ∨ (∃ b, x = .bl b ∧ Q (.bl false) H) ∨ ∃ t, TyX K H x t ∧ PySem.W.kitOne K t (.type "int") = some false ∧ Q (.bl false) H)
def spEnd (C : Addr) : Sp := fun vs H Q _ => ∃ (p : Addr) (f m : Int), vs = [.ref p] ∧ RunAt C H p f m ∧ Q (.int (f + m)) H
structure Def (K : PySem.W.Frag) (mg : Str → Option Value) (x : Str) (f : Addr) (fd : FuncData) (ps : List Str) : Prop where
  at_ : mg x = some (.ref f)
  kp : PySem.W.keepIn K (.ref f) = true
  bd : Binds K fd ps []
section
variable {P : Program} {w : World} {K : PySem.W.Frag} {mg : Str → Option Value} {base : Heap} {C : Addr} {mc : Value} {tM : Tok}
theorem scInteger : FnScope ["value"] ["value"] (defScope sInteger) := ⟨rfl, rfl, rfl, by decide +kernel, rfl, by decide +kernel, by decide +kernel⟩
theorem ok_integer {f : Addr} {fd : FuncData} (F : Fun K "integer" "integer" sInteger f fd) (T : TR K mg C mc tM) : FnOk P w K mg base CX0 1 f fd ["value"] (spInteger K) := by
  refine F.ok scInteger (fun vs H Q E h => ?_) (fun cdv A outer s H vs Q E hr h => ?_)
  · obtain ⟨x, rfl, _⟩ := h
    rfl
  · obtain ⟨x, rfl, h⟩ := h
    refine ⟨_, pss_one (ps_ret (pe_and (pe_callB call_isi (by rfl) T.isi (by decide +kernel) (pa_cons (pv 0) (pa_cons (pe_bltn (v := .ty "int") (by rfl) T.int (by decide +kernel) rfl) pa_nil)))
      (pe_one (pe_not (pe_callB call_isi (by rfl) T.isi (by decide +kernel) (pa_cons (pv 0) (pa_cons (pe_bltn (v := .ty "bool") (by rfl) T.bool (by decide +kernel) rfl) pa_nil))))))), ?_⟩
    rcases h with ⟨v, rfl, q⟩ | ⟨b, rfl, q⟩ | ⟨t, ty, hk, q⟩
    · refine ⟨_, rfl, _, _, .type "int", .type "int", true, rfl, .ty "int", .base (.int v), kit_ty (by decide +kernel), true, rfl, iteT ?_⟩
      exact ⟨_, rfl, _, _, .type "int", .type "bool", false, rfl, .ty "bool", .base (.int v), kit_ty (by decide +kernel), false, rfl, q⟩
    · refine ⟨_, rfl, _, _, .type "bool", .type "int", true, rfl, .ty "int", .base (.bl b), kit_ty (by decide +kernel), true, rfl, iteT ?_⟩
      exact ⟨_, rfl, _, _, .type "bool", .type "bool", true, rfl, .ty "bool", .base (.bl b), kit_ty (by decide +kernel), true, rfl, q⟩
    · exact ⟨_, rfl, _, _, t, .type "int", false, rfl, .ty "int", ty, hk, false, rfl, iteF q⟩
theorem scWhole : FnScope ["value", "least", "most"] ["value", "least", "most"] (defScope sWhole) := ⟨rfl, rfl, rfl, by decide +kernel, rfl, by decide +kernel, by decide +kernel⟩
theorem ok_whole {f fN : Addr} {fd fdN : FuncData} (F : Fun K "whole" "whole" sWhole f fd) (GN : FnOk P w K mg base CX0 1 fN fdN ["value"] (spInteger K)) (DN : Def K mg "integer" fN fdN ["value"]) : FnOk P w K mg base CX0 2 f fd ["value", "least", "most"] (spWhole K) := by
  refine F.ok scWhole (fun vs H Q E h => ?_) (fun cdv A outer s H vs Q E hr h => ?_)
  · obtain ⟨x, lo, hi, rfl, _⟩ := h
    rfl
  · obtain ⟨x, lo, hi, rfl, h⟩ := h
    refine ⟨_, pss_one (ps_ret (pe_and (pe_call GN hr (by rfl) DN.at_ DN.kp DN.bd .nil pass0 (pa_cons (pv 0) pa_nil)) (pe_one (pe_chain op_le op_le (pv 1) (pv 0) (pv 2))))), ?_⟩
    refine ⟨_, rfl, x, rfl, ?_⟩
    rcases h with ⟨v, rfl, q⟩ | ⟨b, rfl, q⟩ | ⟨t, ty, hk, q⟩
    · refine .inl ⟨v, rfl, true, rfl, iteT ?_⟩
      refine ⟨_, rfl, _, rfl, _, _, rfl, rfl, _, rfl, ite2 (fun h1 => ?_) fun h1 => ?_⟩
      · refine ⟨_, rfl, _, _, rfl, rfl, ?_⟩
        have h1' : lo ≤ v := of_decide_eq_true h1
        have e : decide (lo ≤ v ∧ v ≤ hi) = decide (v ≤ hi) := by
          by_cases z : v ≤ hi <;> simp [z, h1']
        rw [e] at q
        exact q
      · have h1' : ¬ lo ≤ v := of_decide_eq_false (by simpa using h1)
        have e : decide (lo ≤ v ∧ v ≤ hi) = false := decide_eq_false fun z => h1' z.1
        rw [e] at q
        exact q
    · exact .inr (.inl ⟨b, rfl, false, rfl, iteF q⟩)
    · exact .inr (.inr ⟨t, ty, hk, false, rfl, iteF q⟩)
theorem scEnd : FnScope ["self"] ["self"] (defScope sEnd) := ⟨rfl, rfl, rfl, by decide +kernel, rfl, by decide +kernel, by decide +kernel⟩
theorem ok_end {f : Addr} {fd : FuncData} (F : Fun K "end" "Run.end" sEnd f fd) (T : TR K mg C mc tM) : FnOk P w K mg base CX0 2 f fd ["self"] (spEnd C) := by
  refine F.ok scEnd (fun vs H Q E h => ?_) (fun cdv A outer s H vs Q E hr h => ?_)
  · obtain ⟨p, f, m, rfl, _⟩ := h
    rfl
  · obtain ⟨p, f, m, rfl, ⟨dx, hp⟩, k⟩ := h
    refine ⟨_, pss_one (ps_ret (pe_op op_add (pe_fld (pv 0) rfl) (pe_fld (pv 0) rfl))), ?_⟩
    exact ⟨_, rfl, p, C, dx, _, _, rfl, hp, T.cl, T.nF, rf_f _ _, _, rfl, p, C, dx, _, _, rfl, hp, T.cl, T.nM, rf_m _ _, _, _, rfl, rfl, k⟩
end
end Ro
namespace Ro
open PySem L2
abbrev sBag : Stmt := top 11
abbrev sTake : Stmt := top 12
/-! ### drawn numbers -/
/-- all but b stands as before -/
def Off (b : Addr) (H H' : Hp) : Prop := ∀ c, c ≠ b → H' c = H c
/-- the bag's three numbers; at most N mixed numbers were taken so far -/
def BagAt (H : Hp) (b : Addr) (N : Nat) : Prop := ∃ l x c : Int, H b = some (.lst [.int l, .int x, .int c]) ∧ 0 ≤ l ∧ 0 ≤ x ∧ x < 6 * 10 ^ 18 ∧ 0 ≤ c ∧ c ≤ N
def spTake : Sp := fun vs H Q _ => ∃ (b : Addr) (m : Int) (N : Nat), vs = [.ref b, .int m] ∧ 1 ≤ m ∧ m < 1073741824 ∧ BagAt H b N ∧ N < 1000000 ∧
  ∀ (r : Int) (H' : Hp), 0 ≤ r → r < m → BagAt H' b (N + 1) → Off b H H' → Q (.int r) H'
theorem fmod_in {a m : Int} (h : 1 ≤ m) : 0 ≤ a.fmod m ∧ a.fmod m < m := by
  rw [Int.fmod_eq_emod_of_nonneg a (by omega)]
  exact ⟨Int.emod_nonneg _ (by omega), Int.emod_lt_of_pos _ (by omega)⟩
theorem fdiv_in {a m : Int} (h : 1 ≤ m) (ha : 0 ≤ a) : 0 ≤ a.fdiv m := by
  rw [Int.fdiv_eq_ediv_of_nonneg a (by omega)]
  exact Int.ediv_nonneg ha (by omega)
section
variable {P : Program} {w : World} {K : PySem.W.Frag} {mg : Str → Option Value} {base : Heap}
theorem scTake : FnScope ["_law_bag_here", "_law_size", "_law_digit", "_law_mixed"] ["_law_bag_here", "_law_size"] (defScope sTake) := ⟨rfl, rfl, rfl, by decide +kernel, rfl, by decide +kernel, by decide +kernel⟩
theorem sq_bd {c : Int} (h0 : 0 ≤ c) (h : c ≤ 1000001) : 0 ≤ 8081 * c * c ∧ 8081 * c * c ≤ 8081 * 1000001 * 1000001 := by
  have h1 : 0 ≤ 8081 * c := by omega
  refine ⟨Int.mul_nonneg h1 h0, ?_⟩
  exact Int.mul_le_mul (by omega) h h0 (by decide)
theorem ok_take {f : Addr} {fd : FuncData} (F : Fun K "_law_take" "_law_take" sTake f fd) : FnOk P w K mg base CX0 2 f fd ["_law_bag_here", "_law_size"] spTake := by
  refine F.ok scTake (fun vs H Q E h => ?_) (fun cdv A outer s H vs Q E hr h => ?_)
  · obtain ⟨b, m, N, rfl, _⟩ := h
    rfl
  · obtain ⟨b, m, N, rfl, m1, m2, ⟨l, x, c, hb, l0, x0, x1, c0, cN⟩, hN, k⟩ := h
    refine ⟨_, pss_cons (ps_if (pt_cmpR op_gt (pe_ix ix_list (pv 0) pe_int (fun _ _ => rfl)) pe_int (nomark _))
        (pss_cons (ps_set (i := 2) scTake.nd rfl (Or.inl rfl) (pe_op op_modN (pe_ix ix_list (pv 0) pe_int (fun _ _ => rfl)) (pv 1)))
        (pss_cons (ps_asg (pe_op op_fdivN (pe_ix ix_list (pv 0) pe_int (fun _ _ => rfl)) (pv 1)) (pg_sub (pv 0) pe_int set_list))
        (pss_one (ps_ret (pv 2))))) pss_nil)
      (pss_cons (ps_asg (pe_op op_add (pe_ix ix_list (pv 0) pe_int (fun _ _ => rfl)) pe_int) (pg_sub (pv 0) pe_int set_list))
      (pss_cons (ps_set (i := 3) scTake.nd rfl (Or.inl rfl) (pe_op op_mod (pe_op op_pow (pe_op op_add (pe_ix ix_list (pv 0) pe_int (fun _ _ => rfl))
          (pe_op op_mul (pe_op op_mul pe_int (pe_ix ix_list (pv 0) pe_int (fun _ _ => rfl))) (pe_ix ix_list (pv 0) pe_int (fun _ _ => rfl)))) pe_int) pe_int))
      (pss_one (ps_ret (pe_op op_modN (pe_op op_fdiv (pe_op op_mod (pe_op op_mul (pv 3) (pe_op op_add (pe_op op_fdiv (pv 3) pe_int) (pe_op op_mul pe_int (pe_ix ix_list (pv 0) pe_int (fun _ _ => rfl))))) pe_int) pe_int) (pv 1)))))), ?_⟩
    refine ⟨_, rfl, b, _, _, _, rfl, rfl, SqL.of hb, rfl, _, _, rfl, rfl, _, rfl, ?_⟩
    refine ite2 (fun hl => ?_) (fun hl => ?_)
    · have hl' : 0 < l := of_decide_eq_true hl
      refine ⟨_, rfl, b, _, _, _, rfl, rfl, SqL.of hb, rfl, _, rfl, _, _, rfl, rfl, by omega, ?_⟩
      refine ⟨_, rfl, b, _, _, _, rfl, rfl, SqL.of hb, rfl, _, rfl, _, _, rfl, rfl, ⟨by omega, by omega⟩, _, rfl, b, _, _, 0, rfl, rfl, hb, rfl, ?_⟩
      refine ⟨_, rfl, k _ _ (fmod_in m1).1 (fmod_in m1).2 ⟨_, x, c, upd_same, fdiv_in m1 l0, x0, x1, c0, by omega⟩ fun d hd => upd_ne hd⟩
    · obtain ⟨q0, q1⟩ := sq_bd (c := c + 1) (by omega) (by omega)
      refine ⟨_, rfl, b, _, _, _, rfl, rfl, SqL.of hb, rfl, _, _, rfl, rfl, _, rfl, b, _, _, 2, rfl, rfl, hb, rfl, ?_⟩
      have hb2 : (upd H b (.lst [.int l, .int x, .int (c + 1)])) b = some (.lst [.int l, .int x, .int (c + 1)]) := upd_same
      refine ⟨_, rfl, b, _, _, _, rfl, rfl, SqL.of hb2, rfl, _, rfl, b, _, _, _, rfl, rfl, SqL.of hb2, rfl, _, _, rfl, rfl, .inl ⟨by decide, by decide⟩, _, rfl, b, _, _, _, rfl, rfl, SqL.of hb2, rfl, _, _, rfl, rfl, .inr ⟨by omega, by omega⟩, _, _, rfl, rfl, _, _, rfl, rfl, ⟨by decide, by decide, by omega⟩, _, _, rfl, rfl, (by show (0 : Int) < 2147483563; decide), ?_⟩
      generalize hy : ((x + 8081 * (c + 1) * (c + 1)) ^ ((3 : Int)).toNat) % 2147483563 = y
      have y0 : 0 ≤ y := by rw [← hy]; exact Int.emod_nonneg _ (by decide)
      have y1 : y < 2147483563 := by rw [← hy]; exact Int.emod_lt_of_pos _ (by decide)
      refine ⟨_, rfl, _, rfl, _, _, rfl, rfl, ⟨by decide, by decide⟩, _, rfl, b, _, _, _, rfl, rfl, SqL.of hb2, rfl, _, _, rfl, rfl, .inl ⟨by decide, by decide⟩, _, _, rfl, rfl, _, _, rfl, rfl, .inl ⟨by omega, by omega⟩, _, _, rfl, rfl, (by show (0 : Int) < 2147483549; decide), _, _, rfl, rfl, ⟨by decide, by decide⟩, _, rfl, _, _, rfl, rfl, by omega, ?_⟩
      exact k _ _ (fmod_in m1).1 (fmod_in m1).2 ⟨l, x, c + 1, hb2, l0, x0, x1, by omega, by omega⟩ fun d hd => upd_ne hd
end
/-- what the walk asks of the built-ins -/
structure TB (mg : Str → Option Value) : Prop where
  len : mg "len" = none
  abs : mg "abs" = none
  range : mg "range" = none
  min : mg "min" = none
  max : mg "max" = none
  list : mg "list" = none
  all : mg "all" = none
theorem at_int {xs : List Int} {i : Int} (h0 : 0 ≤ i) (h1 : i < xs.length) : atI (xs.map V.int) i = some (.int (xs.getD i.toNat 0)) := by
  refine at_of (j := i.toNat) (by omega) ?_
  have q : i.toNat < xs.length := by omega
  rw [List.getElem?_map, List.getD_eq_getElem?_getD, List.getElem?_eq_getElem q]
  rfl
theorem eqv_self {d : PyData} (h : SeqAt.shaped d = true) : PyData.eqv d d = true := SeqAt.eqv_refl _ (SeqAt.canLay_of_shaped h)
abbrev g0 (l : List Int) (i : Nat) : Int := l.getD i 0
def dInts (xs : List Int) : PyData := .list (xs.map .int)
theorem canlay_ints : ∀ xs : List Int, PyData.canLayAll0 (xs.map .int) = true
  | [] => rfl
  | x :: xs => by
    rw [List.map_cons, PyData.canLayAll0, canlay_ints xs, PyData.canLay0]
    rfl
theorem depth_ints : ∀ xs : List Int, PyData.depthAll (xs.map .int) = 0
  | [] => rfl
  | x :: xs => by
    rw [List.map_cons, PyData.depthAll, depth_ints xs, PyData.depth]
    rfl
theorem shaped_ints (xs : List Int) : SeqAt.shaped (dInts xs) = true := by
  unfold SeqAt.shaped dInts
  rw [PyData.canLay0, canlay_ints, PyData.depth, depth_ints]
  rfl
theorem dpall_ints {K : PySem.W.Frag} {H : Hp} : ∀ xs : List Int, DpAll K H (xs.map V.int) (xs.map .int)
  | [] => .nil
  | x :: xs => .cons (.int x) (dpall_ints xs)
theorem dp_ints {K : PySem.W.Frag} {H : Hp} {a : Addr} {xs : List Int} (h : SqL K H a (xs.map V.int)) : Dp K H (.ref a) (dInts xs) := .lst h (dpall_ints xs)
theorem eqv_ints (xs : List Int) : PyData.eqv (dInts xs) (dInts xs) = true := eqv_self (shaped_ints xs)
def spBag (K : PySem.W.Frag) : Sp := fun vs H Q _ => ∃ (a : Addr) (ns : List Int) (i : Int), vs = [.ref a, .int i] ∧ SqL K H a (ns.map V.int) ∧ ns.length ≤ 63 ∧ 0 ≤ i ∧ i ≤ 63 ∧
  ∀ (p : Addr) (H' : Hp), H p = none → BagAt H' p 0 → Off p H H' → Q (.ref p) H'
section
variable {P : Program} {w : World} {K : PySem.W.Frag} {mg : Str → Option Value} {base : Heap}
theorem scBag : FnScope ["_law_script", "_law_at", "_law_number", "_law_large"] ["_law_script", "_law_at"] (defScope sBag) := ⟨rfl, rfl, rfl, by decide +kernel, rfl, by decide +kernel, by decide +kernel⟩
theorem ok_bag {f : Addr} {fd : FuncData} (F : Fun K "_law_bag" "_law_bag" sBag f fd) (T : TB mg) : FnOk P w K mg base CX0 2 f fd ["_law_script", "_law_at"] (spBag K) := by
  refine F.ok scBag (fun vs H Q E h => ?_) (fun cdv A outer s H vs Q E hr h => ?_)
  · obtain ⟨a, ns, i, rfl, _⟩ := h
    rfl
  · obtain ⟨a, ns, i, rfl, hS, hl, i0, i1, k⟩ := h
    refine ⟨_, pss_cons (ps_set (i := 2) scBag.nd rfl (Or.inl rfl) (pe_ifExp (pt_cmpR op_lt (pv 1) (pe_callB call_len_seq (by rfl) T.len PySem.boot_len (pa_cons (pv 0) pa_nil)) (nomark _)) (pe_ix ix_list (pv 0) (pv 1) (fun _ _ => rfl)) pe_int))
      (pss_cons (ps_set (i := 3) scBag.nd rfl (Or.inl rfl) (pe_ifExp (pt_cmpR op_ge (pe_callB call_abs (by rfl) T.abs (by decide +kernel) (pa_cons (pv 2) pa_nil)) (pe_op op_pow pe_int pe_int) (nomark _)) (pe_callB call_abs (by rfl) T.abs (by decide +kernel) (pa_cons (pv 2) pa_nil)) pe_int))
      (pss_one (ps_ret (pe_lst (pa_cons (pv 3) (pa_cons (pe_op op_add (pe_op op_add (pe_op op_mul (pe_op op_modN (pv 2) (pe_op op_add (pe_op op_pow pe_int pe_int) pe_int)) pe_int) (pe_op op_mul pe_int (pv 1))) pe_int) (pa_cons pe_int pa_nil))))))), ?_⟩
    refine ⟨_, rfl, _, rfl, a, _, rfl, .inl hS, _, _, rfl, rfl, _, rfl, ?_⟩
    have hw : ∀ z : Int, 0 ≤ z.fmod (10 ^ 18 + 9) * 5 + 7793 * i + 613 ∧ z.fmod (10 ^ 18 + 9) * 5 + 7793 * i + 613 < 6 * 10 ^ 18 := fun z => by
      obtain ⟨q1, q2⟩ := fmod_in (a := z) (m := 10 ^ 18 + 9) (by decide)
      omega
    have ha : ∀ z : Int, 0 ≤ (if z < 0 then -z else z) := fun z => by
      by_cases q : z < 0
      · rw [if_pos q]; omega
      · rw [if_neg q]; omega
    refine ite2 (fun h1 => ?_) (fun h1 => ?_)
    · have h2 : i < ((ns.map V.int).length : Int) := of_decide_eq_true h1
      rw [List.length_map] at h2
      have hn : i.toNat < ns.length := by omega
      refine ⟨_, rfl, _, rfl, a, _, _, .int ns[i.toNat], rfl, rfl, hS, ?_, ?_⟩
      · refine at_of (j := i.toNat) (by omega) ?_
        rw [List.getElem?_map, List.getElem?_eq_getElem hn] <;> rfl
      refine ⟨_, rfl, _, rfl, _, _, rfl, rfl, ⟨by decide, by decide, by decide⟩, _, _, rfl, rfl, _, rfl, ?_⟩
      refine ite2 (fun h3 => ?_) (fun h3 => ?_)
      · refine ⟨_, rfl, _, rfl, ?_⟩
        refine ⟨_, rfl, _, rfl, _, _, rfl, rfl, ⟨by decide, by decide, by decide⟩, _, _, rfl, rfl, _, _, rfl, rfl, (by show (10 ^ Int.toNat 18 + 9 : Int) ≠ 0; decide), _, _, rfl, rfl, .inr ⟨by decide, by decide⟩, _, rfl, _, _, rfl, rfl, .inl ⟨by decide, by decide⟩, _, _, rfl, rfl, _, _, rfl, rfl, (by show 3 ≤ sizeLine; decide), fun p hp => ?_⟩
        exact k p _ hp ⟨_, _, 0, upd_same, ha _, (hw _).1, (hw _).2, Int.le_refl _, Int.le_refl _⟩ fun c hc => upd_ne hc
      · refine ⟨_, rfl, _, rfl, _, _, rfl, rfl, ⟨by decide, by decide, by decide⟩, _, _, rfl, rfl, _, _, rfl, rfl, (by show (10 ^ Int.toNat 18 + 9 : Int) ≠ 0; decide), _, _, rfl, rfl, .inr ⟨by decide, by decide⟩, _, rfl, _, _, rfl, rfl, .inl ⟨by decide, by decide⟩, _, _, rfl, rfl, _, _, rfl, rfl, (by show 3 ≤ sizeLine; decide), fun p hp => ?_⟩
        exact k p _ hp ⟨_, _, 0, upd_same, Int.le_refl _, (hw _).1, (hw _).2, Int.le_refl _, Int.le_refl _⟩ fun c hc => upd_ne hc
    · refine ⟨_, rfl, _, rfl, _, _, rfl, rfl, ⟨by decide, by decide, by decide⟩, _, _, rfl, rfl, _, rfl, ?_⟩
      refine ite2 (fun h3 => ?_) (fun h3 => ?_)
      · refine ⟨_, rfl, _, rfl, ?_⟩
        refine ⟨_, rfl, _, rfl, _, _, rfl, rfl, ⟨by decide, by decide, by decide⟩, _, _, rfl, rfl, _, _, rfl, rfl, (by show (10 ^ Int.toNat 18 + 9 : Int) ≠ 0; decide), _, _, rfl, rfl, .inr ⟨by decide, by decide⟩, _, rfl, _, _, rfl, rfl, .inl ⟨by decide, by decide⟩, _, _, rfl, rfl, _, _, rfl, rfl, (by show 3 ≤ sizeLine; decide), fun p hp => ?_⟩
        exact k p _ hp ⟨_, _, 0, upd_same, ha _, (hw _).1, (hw _).2, Int.le_refl _, Int.le_refl _⟩ fun c hc => upd_ne hc
      · refine ⟨_, rfl, _, rfl, _, _, rfl, rfl, ⟨by decide, by decide, by decide⟩, _, _, rfl, rfl, _, _, rfl, rfl, (by show (10 ^ Int.toNat 18 + 9 : Int) ≠ 0; decide), _, _, rfl, rfl, .inr ⟨by decide, by decide⟩, _, rfl, _, _, rfl, rfl, .inl ⟨by decide, by decide⟩, _, _, rfl, rfl, _, _, rfl, rfl, (by show 3 ≤ sizeLine; decide), fun p hp => ?_⟩
        exact k p _ hp ⟨_, _, 0, upd_same, Int.le_refl _, (hw _).1, (hw _).2, Int.le_refl _, Int.le_refl _⟩ fun c hc => upd_ne hc
end
end Ro
/-! Any value as an argument; making a run, or BadRun. -/
namespace Ro
open PySem L2
/-- what was there stands -/
abbrev Keep (H H' : Hp) : Prop := ∀ q o, H q = some o → H' q = some o
/-- what isinstance asks of the class -/
structure IsR (K : PySem.W.Frag) (C : Addr) : Prop where
  ha : PySem.W.findIn K (.ref C) "__class__" = some (some (.builtin "object.__class__"))
  hn : PySem.W.specialIn K (.builtin "object.__class__") "__get__" = some (some (.builtin "getset_descriptor.__get__"))
  htk : PySem.W.takesIn K (.builtin "object.__class__") = some true
  hm : PySem.W.mroIn K C (.type "object") = some true
  ki : PySem.W.kitOne K (.ref C) (.type "int") = some false
/-- any value that the law hands in -/
inductive Thing (C : Addr) (H : Hp) : V → Prop where
  | int (v : Int) : Thing C H (.int v)
  | bl (b : Bool) : Thing C H (.bl b)
  | non : Thing C H .non
  | str (s : Str) : Thing C H (.str s)
  | lst {a : Addr} {xs : List V} (e : H a = some (.lst xs)) : Thing C H (.ref a)
  | tup {a : Addr} {xs : List V} (e : H a = some (.tup xs)) : Thing C H (.ref a)
  | run {a : Addr} {f m : Int} (e : RunAt C H a f m) : Thing C H (.ref a)
theorem Thing.keep {C : Addr} {H H' : Hp} {x : V} (t : Thing C H x) (k : Keep H H') : Thing C H' x := by
  cases t with
  | int v => exact .int v
  | bl b => exact .bl b
  | non => exact .non
  | str s => exact .str s
  | lst e => exact .lst (k _ _ e)
  | tup e => exact .tup (k _ _ e)
  | run e => obtain ⟨d, e⟩ := e; exact .run ⟨d, k _ _ e⟩
/-- a whole number from lo to hi -/
def okI (x : V) (lo hi : Int) : Bool := match x with
  | .int v => decide (lo ≤ v ∧ v ≤ hi)
  | _ => false
def isI (x : V) : Bool := match x with
  | .int _ => true
  | _ => false
theorem okI_int {x : V} {lo hi : Int} (h : okI x lo hi = true) : ∃ v, x = .int v ∧ lo ≤ v ∧ v ≤ hi := by
  cases x with
  | int v => exact ⟨v, rfl, of_decide_eq_true h⟩
  | _ => cases h
section
variable {P : Program} {w : World} {K : PySem.W.Frag} {mg : Str → Option Value} {base : Heap} {C CB : Addr} {mc : Value} {tM : Tok}
/-- its class is no int's -/
theorem Thing.cases' {H : Hp} {x : V} (t : Thing C H x) (T : TR K mg C mc tM) (Z : IsR K C) : (∃ v, x = .int v) ∨ (∃ b, x = .bl b) ∨ ((∀ lo hi, okI x lo hi = false) ∧ isI x = false ∧ ∃ ty, TyX K H x ty ∧ PySem.W.kitOne K ty (.type "int") = some false) := by
  cases t with
  | int v => exact .inl ⟨v, rfl⟩
  | bl b => exact .inr (.inl ⟨b, rfl⟩)
  | non => exact .inr (.inr ⟨fun _ _ => rfl, rfl, _, .base .non, kit_ty (by decide +kernel)⟩)
  | str s => exact .inr (.inr ⟨fun _ _ => rfl, rfl, _, .base (.str s), kit_ty (by decide +kernel)⟩)
  | lst e => exact .inr (.inr ⟨fun _ _ => rfl, rfl, _, .base (.lst e), kit_ty (by decide +kernel)⟩)
  | tup e => exact .inr (.inr ⟨fun _ _ => rfl, rfl, _, .base (.tup e), kit_ty (by decide +kernel)⟩)
  | run e =>
    obtain ⟨d, e⟩ := e
    exact .inr (.inr ⟨fun _ _ => rfl, rfl, _, .base (.ins e T.cl Z.ha Z.hn Z.htk Z.hm), Z.ki⟩)
theorem wh_of {H : Hp} {x : V} {lo hi : Int} {Q : VK} {E : XK} (t : Thing C H x) (T : TR K mg C mc tM) (Z : IsR K C) (q : Q (.bl (okI x lo hi)) H) : spWhole K [x, .int lo, .int hi] H Q E := by
  refine ⟨x, lo, hi, rfl, ?_⟩
  rcases t.cases' T Z with ⟨v, rfl⟩ | ⟨b, rfl⟩ | ⟨h1, _, ty, h2, h3⟩
  · exact .inl ⟨v, rfl, q⟩
  · exact .inr (.inl ⟨b, rfl, q⟩)
  · rw [h1] at q
    exact .inr (.inr ⟨ty, h2, h3, q⟩)
/-- what the walk asks of BadRun -/
structure XR (K : PySem.W.Frag) (mg : Str → Option Value) (CB CW : Addr) : Prop where
  gP : mg "BadRun" = some (.ref CB)
  xP : PySem.W.excIn K CB [.type "ValueError", .type "Exception", .type "BaseException", .type "object"] "ValueError.__new__" = true
  kP : PySem.W.keepIn K (.ref CB) = true
  bP : PySem.W.subIn K (.ref CB) (.type "BaseException") = some true
  tP : PySem.W.typeIn K (.ref CB) = some (.type "type")
  iP : PySem.W.hasDictIn K CB = true
  sP : PySem.W.subIn K (.ref CB) (.ref CB) = some true
  gW : mg "WindowError" = some (.ref CW)
  gV : mg "ValueError" = none
  kW : PySem.W.kitOne K (.ref CB) (.ref CW) = some true
  kV : PySem.W.kitOne K (.ref CB) (.type "ValueError") = some true
  ec : ExcC K CB
/-- first and many that make a run -/
def Good (x y : V) : Bool := okI x 0 Most && okI y 1 Most
def fi (x : V) : Int := match x with
  | .int v => v
  | _ => 0
/-- __init__ -/
def spInit (C CB : Addr) : Sp := fun vs H Q E => ∃ (p dx : Addr) (x y : V), vs = [.ref p, x, y] ∧ H p = some (.ins C dx []) ∧ Thing C H x ∧ Thing C H y ∧
  (Good x y = true → Q .non (upd H p (.ins C dx (rf (fi x) (fi y))))) ∧ (Good x y = false → E (.ref CB) none H)
theorem scInit : FnScope ["self", "first", "many"] ["self", "first", "many"] (defScope sInit) := ⟨rfl, rfl, rfl, by decide +kernel, rfl, by decide +kernel, by decide +kernel⟩
theorem ok_init {f fW CW : Addr} {fd fdW : FuncData} (F : Fun K "__init__" "Run.__init__" sInit f fd) (T : TR K mg C mc tM) (Z : IsR K C) (B : XR K mg CB CW) (GW : FnOk P w K mg base CX0 2 fW fdW ["value", "least", "most"] (spWhole K)) (DW : Def K mg "whole" fW fdW ["value", "least", "most"]) :
    FnOk P w K mg base (L2.CX P w) 3 f fd ["self", "first", "many"] (spInit C CB) := by
  refine F.okX scInit (fun vs H Q E h => ?_) (fun cdv A outer s H vs Q E hr h => ?_)
  · obtain ⟨p, dx, x, y, rfl, _⟩ := h
    rfl
  · obtain ⟨p, dx, x, y, rfl, hp, tx, ty, k, kE⟩ := h
    refine ⟨_, pss_cons (ps_if (PW.pt (pw_or (pt_not (pt_val (pe_call GW hr (by rfl) DW.at_ DW.kp DW.bd .nil pass0 (pa_cons (pv 1) (pa_cons pe_int (pa_cons (pe_glob (v := .int (10 ^ 12)) rfl T.most ⟨_, rfl⟩) pa_nil))))))
        (pw_or1 (pt_not (pt_val (pe_call GW hr (by rfl) DW.at_ DW.kp DW.bd .nil pass0 (pa_cons (pv 2) (pa_cons pe_int (pa_cons (pe_glob (v := .int (10 ^ 12)) rfl T.most ⟨_, rfl⟩) pa_nil)))))))))
        (pss_one (ps_raise rfl (takes_of rfl rfl rfl rfl) (pmk_own PySem.F.excBase_ValueError B.xP B.gP B.kP (raises_own B.bP B.tP) rfl))) pss_nil)
      (PSs.nox (pss_cons (ps_fld (pv 0) (pv 1) rfl) (pss_one (ps_fld (pv 0) (pv 2) rfl)))), ?_⟩
    refine ⟨_, rfl, ?_⟩
    dsimp only [tCons, tC, tNil, List.cons_append, List.nil_append]
    refine wh_of tx T Z ⟨_, rfl, ?_⟩
    by_cases hx : okI x 0 Most = true
    · rw [hx]
      refine iteF ⟨_, rfl, ?_⟩
      dsimp only [tCons, tC, tNil, List.cons_append, List.nil_append]
      refine wh_of ty T Z ⟨_, rfl, ?_⟩
      by_cases hy : okI y 1 Most = true
      · rw [hy]
        refine iteF ?_
        obtain ⟨f, rfl, f0, f1⟩ := okI_int hx
        obtain ⟨m, rfl, m0, m1⟩ := okI_int hy
        refine ⟨_, rfl, _, rfl, p, C, dx, [], rfl, hp, T.cl, T.nF, (by show 0 < 1000; decide), _, rfl, _, rfl, p, C, dx, _, rfl, upd_same, T.cl, T.nM, (by show 1 < 1000; decide), ?_⟩
        rw [upd_upd]
        exact k (by unfold Good; rw [hx, hy]; rfl)
      · rw [Bool.not_eq_true _ |>.mp hy]
        exact iteT (kE (by unfold Good; rw [hx, Bool.not_eq_true _ |>.mp hy]; rfl))
    · rw [Bool.not_eq_true _ |>.mp hx]
      exact iteT (kE (by unfold Good; rw [Bool.not_eq_true _ |>.mp hx]; rfl))
end
end Ro
namespace Ro
open PySem L2
/-- first and end that make a run -/
def Good2 (x y : V) : Bool := match x, y with
  | .int f, .int e => decide (0 ≤ f ∧ f ≤ Most) && decide (1 ≤ e - f ∧ e - f ≤ Most)
  | _, _ => false
/-- between -/
def spBetween (C CB : Addr) : Sp := fun vs H Q E => ∃ (x y : V), vs = [.ref C, x, y] ∧ Thing C H x ∧ Thing C H y ∧
  (Good2 x y = true → ∀ p dx, H p = none → H dx = none → dx ≠ p → Q (.ref p) (upd (upd H dx (.own p)) p (.ins C dx (rf (fi x) (fi y - fi x))))) ∧ (Good2 x y = false → ∀ H', Keep H H' → E (.ref CB) none H')
section
variable {P : Program} {w : World} {K : PySem.W.Frag} {mg : Str → Option Value} {base : Heap} {C CB : Addr} {mc : Value} {tM : Tok}
theorem scBetween : FnScope ["cls", "first", "end"] ["cls", "first", "end"] (defScope sBetween) := ⟨rfl, rfl, rfl, by decide +kernel, rfl, by decide +kernel, by decide +kernel⟩
theorem keep_new {H : Hp} {p dx : Addr} {o o' : HO} (h1 : H p = none) (h2 : H dx = none) : Keep H (upd (upd H dx o) p o') := fun q u e => by rw [upd_ne (ne_of_none e h1), upd_ne (ne_of_none e h2)]; exact e
theorem ok_between {f fW fI CW : Addr} {fd fdW fdI : FuncData} (F : Fun K "between" "Run.between" sBetween f fd) (T : TR K mg C mc tM) (Z : IsR K C) (B : XR K mg CB CW) (GW : FnOk P w K mg base CX0 2 fW fdW ["value", "least", "most"] (spWhole K)) (DW : Def K mg "whole" fW fdW ["value", "least", "most"])
    (M : Mk K C fI) (GI : FnOk P w K mg base (L2.CX P w) 3 fI fdI ["self", "first", "many"] (spInit C CB)) (bI : Binds K fdI ["self", "first", "many"] []) : FnOk P w K mg base (L2.CX P w) 5 f fd ["cls", "first", "end"] (spBetween C CB) := by
  refine F.okX scBetween (fun vs H Q E h => ?_) (fun cdv A outer s H vs Q E hr h => ?_)
  · obtain ⟨x, y, rfl, _⟩ := h
    rfl
  · obtain ⟨x, y, rfl, tx, ty, k, kE⟩ := h
    have hr1 : Room 2 _ := hr.mono (by decide)
    refine ⟨_, pss_cons (ps_if (PW.pt (pw_or (pt_not (pt_val (pe_call GW hr1 (by rfl) DW.at_ DW.kp DW.bd .nil pass0 (pa_cons (pv 1) (pa_cons pe_int (pa_cons (pe_glob (v := .int (10 ^ 12)) rfl T.most ⟨_, rfl⟩) pa_nil))))))
        (pw_or1 (pt_not (pt_val (pe_call GW hr1 (by rfl) DW.at_ DW.kp DW.bd .nil pass0 (pa_cons (pv 2) (pa_cons pe_int (pa_cons (pe_op op_mul pe_int (pe_glob (v := .int (10 ^ 12)) rfl T.most ⟨_, rfl⟩)) pa_nil)))))))))
        (pss_one (ps_raise rfl (takes_of rfl rfl rfl rfl) (pmk_own PySem.F.excBase_ValueError B.xP B.gP B.kP (raises_own B.bP B.tP) rfl))) pss_nil)
      (pss_one (ps_ret (Ow.pe_makeL (i := 0) (E := E) M GI hr rfl (Or.inl rfl) bI .nil (passes_call (takes_of rfl rfl rfl rfl) fun _ _ _ _ z => z) (pa_cons (pv 1) (pa_cons (pe_op op_sub (pv 2) (pv 1)) pa_nil))))), ?_⟩
    refine ⟨_, rfl, ?_⟩
    dsimp only [tCons, tC, tNil, List.cons_append, List.nil_append]
    refine wh_of tx T Z ⟨_, rfl, ?_⟩
    by_cases hx : okI x 0 Most = true
    · rw [hx]
      refine iteF ⟨_, rfl, ?_⟩
      obtain ⟨f, rfl, f0, f1⟩ := okI_int hx
      refine ⟨_, _, rfl, rfl, .inl ⟨by decide, by decide⟩, ?_⟩
      dsimp only [tCons, tC, tNil, List.cons_append, List.nil_append]
      refine wh_of ty T Z ⟨_, rfl, ?_⟩
      by_cases hy : okI y 1 (2 * 10 ^ 12) = true
      · rw [hy]
        refine iteF ?_
        obtain ⟨e, rfl, e0, e1⟩ := okI_int hy
        refine ⟨rfl, _, rfl, _, rfl, _, rfl, _, _, rfl, rfl, fun p dx hp hdx ne => ?_⟩
        have g2 : Good2 (.int f) (.int e) = Good (.int f) (.int (e - f)) := rfl
        refine ⟨p, dx, .int f, .int (e - f), rfl, upd_same, .int _, .int _, fun g => ⟨rfl, ?_⟩, fun g => ?_⟩
        · rw [upd_upd]
          exact k (g2.trans g) p dx hp hdx ne
        · exact kE (g2.trans g) _ (keep_new hp hdx)
      · rw [Bool.not_eq_true _ |>.mp hy]
        refine iteT (kE ?_ _ fun _ _ z => z)
        cases y with
        | int e =>
          have z : ¬ (1 ≤ e ∧ e ≤ 2 * 10 ^ 12) := fun z => hy (decide_eq_true z)
          have z2 : ¬ (1 ≤ e - f ∧ e - f ≤ Most) := fun z2 => z (by unfold Most at *; omega)
          show (decide (0 ≤ f ∧ f ≤ Most) && decide (1 ≤ e - f ∧ e - f ≤ Most)) = false
          rw [decide_eq_false z2, Bool.and_false]
        | _ => rfl
    · rw [Bool.not_eq_true _ |>.mp hx]
      refine iteT (kE ?_ _ fun _ _ z => z)
      cases x with
      | int f =>
        have z : ¬ (0 ≤ f ∧ f ≤ Most) := fun z => hx (decide_eq_true z)
        cases y with
        | int e =>
          show (decide (0 ≤ f ∧ f ≤ Most) && decide (1 ≤ e - f ∧ e - f ≤ Most)) = false
          rw [decide_eq_false z, Bool.false_and]
        | _ => rfl
      | _ => rfl
end
end Ro
namespace Ro
open PySem L2
/-- what was there stands, but for b -/
def OffN (b : Addr) (H H' : Hp) : Prop := ∀ c, H c ≠ none → c ≠ b → H' c = H c
theorem OffN.refl {b : Addr} {H : Hp} : OffN b H H := fun _ _ _ => rfl
theorem OffN.put {b l : Addr} {H H' : Hp} {o : HO} (h : OffN b H H') (hl : H l = none) : OffN b H (upd H' l o) := fun c hc hb => by
  rw [upd_ne (fun z => hc (by rw [z]; exact hl))]
  exact h c hc hb
theorem OffN.step {b : Addr} {H H' H'' : Hp} (h : OffN b H H') (o : Off b H' H'') : OffN b H H'' := fun c hc hb => (o c hb).trans (h c hc hb)
theorem OffN.same {b : Addr} {H H' : Hp} (h : OffN b H H') {c : Addr} {o : HO} (e : H c = some o) (hb : c ≠ b) : H' c = some o := (h c (by rw [e]; simp) hb).trans e
theorem OffN.free {b : Addr} {H H' : Hp} (h : OffN b H H') {c : Addr} (e : H' c = none) (hb : c ≠ b) : H c = none := by
  cases z : H c with
  | none => rfl
  | some o => rw [h.same z hb] at e; cases e
theorem BagAt.le {H : Hp} {b : Addr} {N M : Nat} (h : BagAt H b N) (hn : N ≤ M) : BagAt H b M := by
  obtain ⟨l, x, c, e, a1, a2, a3, a4, a5⟩ := h
  exact ⟨l, x, c, e, a1, a2, a3, a4, by omega⟩
theorem BagAt.put {H : Hp} {b l : Addr} {N : Nat} {o : HO} (h : BagAt H b N) (hl : b ≠ l) : BagAt (upd H l o) b N := by
  obtain ⟨l', x, c, e, r⟩ := h
  exact ⟨l', x, c, by rw [upd_ne hl]; exact e, r⟩
theorem BagAt.ne {H : Hp} {b l : Addr} {N : Nat} (h : BagAt H b N) (hl : H l = none) : b ≠ l := fun z => by
  obtain ⟨_, _, _, e, _⟩ := h
  rw [z, hl] at e
  cases e
theorem put_same {H : Hp} {p : Addr} {o : HO} (h : H p = none) : Same H (upd H p o) := fun b u e => by rw [upd_ne (ne_of_none e h)]; exact e
theorem BagAt.sameN {H H' : Hp} {b : Addr} {N : Nat} (h : BagAt H b N) (k : Same H H') : BagAt H' b N := by
  obtain ⟨l, x, c, e, r⟩ := h
  exact ⟨l, x, c, k _ _ e, r⟩
theorem offN_same {b : Addr} {H H' : Hp} (k : Same H H') : OffN b H H' := fun c hc _ => by
  cases h : H c with
  | none => exact absurd h hc
  | some o => exact k _ _ h
theorem offN_of {b : Addr} {H H' : Hp} (k : Off b H H') : OffN b H H' := fun c _ hb => k c hb
theorem offN_put {b l : Addr} {H : Hp} {o : HO} (h : H l = none) : OffN b H (upd H l o) := offN_same (put_same h)
theorem OffN.trans {b : Addr} {H H' H'' : Hp} (h : OffN b H H') (k : OffN b H' H'') : OffN b H H'' := fun c hc hb => (k c (by rw [h c hc hb]; exact hc) hb).trans (h c hc hb)
end Ro
namespace Ro
open PySem L2
abbrev sVal : Stmt := top 13
abbrev sIsW : Stmt := top 14
abbrev sDue : Stmt := top 15
def spIsW (C : Addr) : Sp := fun vs H Q _ => ∃ x, vs = [x] ∧ Thing C H x ∧ Q (.bl (isI x)) H
def spDue (C : Addr) : Sp := fun vs H Q _ => ∃ x y, vs = [x, y] ∧ Thing C H x ∧ Thing C H y ∧
  (Good x y = true → ∀ l, H l = none → Q (.ref l) (upd H l (.lst [.int (fi x), .int (fi y), .int (fi x + fi y)]))) ∧ (Good x y = false → Q (.str "refused") H)
section
variable {P : Program} {w : World} {K : PySem.W.Frag} {mg : Str → Option Value} {base : Heap} {C CB : Addr} {mc : Value} {tM : Tok}
theorem scIsW : FnScope ["_law_thing"] ["_law_thing"] (defScope sIsW) := ⟨rfl, rfl, rfl, by decide +kernel, rfl, by decide +kernel, by decide +kernel⟩
theorem ok_isw {f : Addr} {fd : FuncData} (F : Fun K "_law_is_whole" "_law_is_whole" sIsW f fd) (T : TR K mg C mc tM) (Z : IsR K C) : FnOk P w K mg base CX0 2 f fd ["_law_thing"] (spIsW C) := by
  refine F.ok scIsW (fun vs H Q E h => ?_) (fun cdv A outer s H vs Q E hr h => ?_)
  · obtain ⟨x, rfl, _⟩ := h
    rfl
  · obtain ⟨x, rfl, tx, q⟩ := h
    refine ⟨_, pss_one (ps_ret (pe_and (pe_callB call_isi (by rfl) T.isi (by decide +kernel) (pa_cons (pv 0) (pa_cons (pe_bltn (v := .ty "int") (by rfl) T.int (by decide +kernel) rfl) pa_nil)))
      (pe_one (pe_not (pe_callB call_isi (by rfl) T.isi (by decide +kernel) (pa_cons (pv 0) (pa_cons (pe_bltn (v := .ty "bool") (by rfl) T.bool (by decide +kernel) rfl) pa_nil))))))), ?_⟩
    rcases tx.cases' T Z with ⟨v, rfl⟩ | ⟨b, rfl⟩ | ⟨_, h1, t, ty, hk⟩
    · refine ⟨_, rfl, _, _, .type "int", .type "int", true, rfl, .ty "int", .base (.int v), kit_ty (by decide +kernel), true, rfl, iteT ?_⟩
      refine ⟨_, rfl, _, _, .type "int", .type "bool", false, rfl, .ty "bool", .base (.int v), kit_ty (by decide +kernel), false, rfl, ?_⟩
      exact q
    · refine ⟨_, rfl, _, _, .type "bool", .type "int", true, rfl, .ty "int", .base (.bl b), kit_ty (by decide +kernel), true, rfl, iteT ?_⟩
      refine ⟨_, rfl, _, _, .type "bool", .type "bool", true, rfl, .ty "bool", .base (.bl b), kit_ty (by decide +kernel), true, rfl, ?_⟩
      exact q
    · refine ⟨_, rfl, _, _, t, .type "int", false, rfl, .ty "int", ty, hk, false, rfl, iteF ?_⟩
      rw [h1] at q
      exact q
theorem scDue : FnScope ["_law_begin", "_law_size"] ["_law_begin", "_law_size"] (defScope sDue) := ⟨rfl, rfl, rfl, by decide +kernel, rfl, by decide +kernel, by decide +kernel⟩
theorem isI_of {x : V} (h : isI x = true) : ∃ v, x = .int v := by
  cases x with
  | int v => exact ⟨v, rfl⟩
  | _ => cases h
theorem okI_of {x : V} {lo hi : Int} (h : isI x = false) : okI x lo hi = false := by
  cases x with
  | int v => cases h
  | _ => rfl
theorem ok_due {f fW : Addr} {fd fdW : FuncData} (F : Fun K "_law_due" "_law_due" sDue f fd) (GW : FnOk P w K mg base CX0 2 fW fdW ["_law_thing"] (spIsW C)) (DW : Def K mg "_law_is_whole" fW fdW ["_law_thing"]) : FnOk P w K mg base CX0 3 f fd ["_law_begin", "_law_size"] (spDue C) := by
  refine F.ok scDue (fun vs H Q E h => ?_) (fun cdv A outer s H vs Q E hr h => ?_)
  · obtain ⟨x, y, rfl, _⟩ := h
    rfl
  · obtain ⟨x, y, rfl, tx, ty, k, kE⟩ := h
    refine ⟨_, pss_cons (ps_if (PW.pt (pw_or (pt_not (pt_val (pe_call GW hr (by rfl) DW.at_ DW.kp DW.bd .nil pass0 (pa_cons (pv 0) pa_nil)))) (pw_or1 (pt_not (pt_val (pe_call GW hr (by rfl) DW.at_ DW.kp DW.bd .nil pass0 (pa_cons (pv 1) pa_nil))))))) (pss_one (ps_ret pe_str)) pss_nil)
      (pss_cons (ps_if (PW.pt (pw_or (pt_not (pt_chain op_le op_le pe_int (pv 0) (pe_op op_pow pe_int pe_int))) (pw_or1 (pt_not (pt_chain op_le op_le pe_int (pv 1) (pe_op op_pow pe_int pe_int)))))) (pss_one (ps_ret pe_str)) pss_nil)
      (pss_one (ps_ret (pe_lst (pa_cons (pv 0) (pa_cons (pv 1) (pa_cons (pe_op op_add (pv 0) (pv 1)) pa_nil))))))), ?_⟩
    refine ⟨_, rfl, x, rfl, tx, _, rfl, ?_⟩
    cases hx : isI x with
    | false => exact iteT (kE (by unfold Good; rw [okI_of hx]; rfl))
    | true =>
      refine iteF ⟨_, rfl, y, rfl, ty, _, rfl, ?_⟩
      cases hy : isI y with
      | false => exact iteT (kE (by unfold Good; rw [okI_of hy, Bool.and_false]))
      | true =>
        obtain ⟨f, rfl⟩ := isI_of hx
        obtain ⟨m, rfl⟩ := isI_of hy
        refine iteF ?_
        have g : Good (.int f) (.int m) = (decide (0 ≤ f ∧ f ≤ Most) && decide (1 ≤ m ∧ m ≤ Most)) := rfl
        have bad : ¬ (0 ≤ f ∧ f ≤ Most ∧ 1 ≤ m ∧ m ≤ Most) → Q (.str "refused") H := fun z => kE (by
          rw [g]
          by_cases z1 : 0 ≤ f ∧ f ≤ Most
          · by_cases z2 : 1 ≤ m ∧ m ≤ Most
            · exact absurd ⟨z1.1, z1.2, z2⟩ z
            · rw [decide_eq_false z2, Bool.and_false]
          · rw [decide_eq_false z1, Bool.false_and])
        refine ⟨_, rfl, _, _, rfl, rfl, _, rfl, ?_⟩
        by_cases h1 : 0 ≤ f
        · rw [decide_eq_true h1]
          refine iteT ⟨_, _, rfl, rfl, ⟨by decide, by decide, by decide⟩, _, _, rfl, rfl, _, rfl, ?_⟩
          by_cases h2 : f ≤ Most
          · rw [show decide (f ≤ 10 ^ Int.toNat 12) = true from decide_eq_true h2]
            refine iteF ⟨_, rfl, _, _, rfl, rfl, _, rfl, ?_⟩
            by_cases h3 : 1 ≤ m
            · rw [decide_eq_true h3]
              refine iteT ⟨_, _, rfl, rfl, ⟨by decide, by decide, by decide⟩, _, _, rfl, rfl, _, rfl, ?_⟩
              by_cases h4 : m ≤ Most
              · rw [show decide (m ≤ 10 ^ Int.toNat 12) = true from decide_eq_true h4]
                refine iteF ⟨_, rfl, _, rfl, _, rfl, _, rfl, _, _, rfl, rfl, (by show 3 ≤ sizeLine; decide), fun l hl => ?_⟩
                exact k (by rw [g, decide_eq_true ⟨h1, h2⟩, decide_eq_true ⟨h3, h4⟩]; rfl) l hl
              · rw [show decide (m ≤ 10 ^ Int.toNat 12) = false from decide_eq_false h4]
                exact iteT (bad fun z => h4 z.2.2.2)
            · rw [decide_eq_false h3]
              refine iteF ⟨_, rfl, ?_⟩
              exact iteT (bad fun z => h3 z.2.2.1)
          · rw [show decide (f ≤ 10 ^ Int.toNat 12) = false from decide_eq_false h2]
            exact iteT (bad fun z => h2 z.2.1)
        · rw [decide_eq_false h1]
          refine iteF ⟨_, rfl, ?_⟩
          exact iteT (bad fun z => h1 z.1)
end
end Ro
namespace Ro
open PySem L2
abbrev EN : XK := fun _ _ _ => False
theorem passN {X : Cx} : Passes (L2.CX X.prog X.w) X EN := fun _ _ _ _ _ _ _ h => by
  obtain ⟨_, _, _, _, _, _, _, _, _, _, _, _, z⟩ := h
  exact z.elim
theorem at_mem {xs : List V} {r : Int} (h0 : 0 ≤ r) (h1 : r < (xs.length : Int)) : ∃ x, atI xs r = some x ∧ x ∈ xs :=
  ⟨xs[r.toNat]'(by omega), at_of (j := r.toNat) (by omega) (List.getElem?_eq_getElem (by omega)), List.getElem_mem _⟩
theorem Thing.off {C b : Addr} {H H' : Hp} {x : V} (t : Thing C H x) (f : OffN b H H') (ne : x ≠ .ref b) : Thing C H' x := by
  cases t with
  | int v => exact .int v
  | bl b => exact .bl b
  | non => exact .non
  | str s => exact .str s
  | lst e => exact .lst (f.same e fun z => ne (by rw [z]))
  | tup e => exact .tup (f.same e fun z => ne (by rw [z]))
  | run e => obtain ⟨d, e⟩ := e; exact .run ⟨d, f.same e fun z => ne (by rw [z])⟩
/-- a value of the law's own -/
def Own (C b : Addr) (H : Hp) (x : V) : Prop := Thing C H x ∧ x ≠ .ref b
theorem Own.off {C b : Addr} {H H' : Hp} {x : V} (t : Own C b H x) (f : OffN b H H') : Own C b H' x := ⟨t.1.off f t.2, t.2⟩
theorem Own.ref {C b a : Addr} {H : Hp} (t : Thing C H (.ref a)) (ne : b ≠ a) : Own C b H (.ref a) := ⟨t, fun z => ne (V.ref.inj z).symm⟩
/-- _law_value(bag) -/
def spVal (C : Addr) : Sp := fun vs H Q _ => ∃ (b : Addr) (N : Nat), vs = [.ref b] ∧ BagAt H b N ∧ N < 900000 ∧
  ∀ (x : V) (H' : Hp), Own C b H' x → BagAt H' b (N + 4) → OffN b H H' → Q x H'
section
variable {P : Program} {w : World} {K : PySem.W.Frag} {mg : Str → Option Value} {base : Heap} {C CB : Addr} {mc : Value} {tM : Tok}
theorem scVal : FnScope ["_law_bag_here", "_law_most", "_law_some", "_law_odd"] ["_law_bag_here"] (defScope sVal) := ⟨rfl, rfl, rfl, by decide +kernel, rfl, by decide +kernel, by decide +kernel⟩
theorem ok_val {f fT fI : Addr} {fd fdT fdI : FuncData} (F : Fun K "_law_value" "_law_value" sVal f fd) (T : TR K mg C mc tM) (GT : FnOk P w K mg base CX0 2 fT fdT ["_law_bag_here", "_law_size"] spTake) (DT : Def K mg "_law_take" fT fdT ["_law_bag_here", "_law_size"])
    (M : Mk K C fI) (GI : FnOk P w K mg base (L2.CX P w) 3 fI fdI ["self", "first", "many"] (spInit C CB)) (bI : Binds K fdI ["self", "first", "many"] []) : FnOk P w K mg base CX0 5 f fd ["_law_bag_here"] (spVal C) := by
  refine F.ok scVal (fun vs H Q E h => ?_) (fun cdv A outer s H vs Q E hr h => ?_)
  · obtain ⟨b, N, rfl, _⟩ := h
    rfl
  · obtain ⟨b, N, rfl, hb, hN, k⟩ := h
    have hr1 : Room 2 _ := hr.mono (by decide)
    refine ⟨_, pss_cons (ps_set (i := 1) scVal.nd rfl (Or.inl rfl) (pe_op op_pow pe_int pe_int))
      (pss_cons (ps_set (i := 2) scVal.nd rfl (Or.inl rfl) (pe_lst (pa_cons pe_int (pa_cons pe_int (pa_cons pe_int (pa_cons pe_int (pa_cons (pe_op op_sub (pv 1) pe_int) (pa_cons (pv 1) (pa_cons (pe_op op_add (pv 1) pe_int) (pa_cons (pe_un un_neg pe_int) (pa_cons (pe_un un_neg (pv 1)) (pa_cons (pe_op op_sub (pe_op op_pow pe_int pe_int) pe_int)
          (pa_cons (pe_call GT hr1 (by rfl) DT.at_ DT.kp DT.bd .nil pass0 (pa_cons (pv 0) (pa_cons pe_int pa_nil))) (pa_cons (pe_call GT hr1 (by rfl) DT.at_ DT.kp DT.bd .nil pass0 (pa_cons (pv 0) (pa_cons pe_int pa_nil))) pa_nil))))))))))))))
      (pss_cons (ps_set (i := 3) scVal.nd rfl (Or.inl rfl) (pe_lst (pa_cons pe_bl (pa_cons pe_bl (pa_cons pe_non (pa_cons pe_str (pa_cons pe_str (pa_cons (pe_lst (pa_cons pe_int pa_nil)) (pa_cons (pe_tup (pa_cons pe_int pa_nil)) (pa_cons (pe_tup pa_nil) (pa_cons (pe_lst pa_nil) (pa_cons (pe_lst (pa_cons pe_bl pa_nil))
          (pa_cons (pe_make (E := EN) M GI hr (by rfl) T.mgC bI .nil passN (pa_cons pe_int (pa_cons pe_int pa_nil))) (pa_cons (pe_make (E := EN) M GI hr (by rfl) T.mgC bI .nil passN (pa_cons pe_int (pa_cons pe_int pa_nil))) pa_nil))))))))))))))
      (pss_one (ps_ret (pe_ifExp (pt_cmpR op_gt (pe_call GT hr1 (by rfl) DT.at_ DT.kp DT.bd .nil pass0 (pa_cons (pv 0) (pa_cons pe_int pa_nil))) pe_int (nomark _))
        (pe_ix ix_list (pv 2) (pe_call GT hr1 (by rfl) DT.at_ DT.kp DT.bd .nil pass0 (pa_cons (pv 0) (pa_cons pe_int pa_nil))) (fun _ _ => rfl))
        (pe_ix ix_list (pv 3) (pe_call GT hr1 (by rfl) DT.at_ DT.kp DT.bd .nil pass0 (pa_cons (pv 0) (pa_cons pe_int pa_nil))) (fun _ _ => rfl))))))), ?_⟩
    refine ⟨_, _, rfl, rfl, ⟨by decide, by decide, by decide⟩, ?_⟩
    refine ⟨_, rfl, _, _, rfl, rfl, _, rfl, _, rfl, _, _, rfl, rfl, _, rfl, _, rfl, _, rfl, _, _, rfl, rfl, ⟨by decide, by decide, by decide⟩, _, _, rfl, rfl, ?_⟩
    refine ⟨_, rfl, b, 40, _, rfl, by decide, by decide, hb, by omega, fun r1 H1 r10 r11 b1 o1 => ?_⟩
    refine ⟨_, rfl, b, 5, _, rfl, by decide, by decide, b1, by omega, fun r2 H2 r20 r21 b2 o2 => ?_⟩
    refine ⟨(by show 12 ≤ sizeLine; decide), fun ls hls => ?_⟩
    have f2 : OffN b H H2 := (offN_of o1).trans (offN_of o2)
    generalize hsome : [V.int 0, V.int 1, V.int 2, V.int 7, _, _, _, _, _, _, V.int r1, V.int r2] = xs
    have lxs : xs.length = 12 := by rw [← hsome]; rfl
    have own1 : ∀ (H' : Hp), ∀ x ∈ xs, Own C b H' x := fun H' x hx => by
      rw [← hsome] at hx
      simp only [List.mem_cons, List.not_mem_nil, or_false] at hx
      rcases hx with rfl | rfl | rfl | rfl | rfl | rfl | rfl | rfl | rfl | rfl | rfl | rfl <;> exact ⟨.int _, fun z => nomatch z⟩
    have f3 : OffN b H (upd H2 ls (.lst xs)) := f2.put (f2.free hls (b2.ne hls).symm)
    have b3 : BagAt (upd H2 ls (.lst xs)) b (N + 1 + 1) := b2.put (b2.ne hls)
    have hls3 : (upd H2 ls (.lst xs)) ls = some (.lst xs) := upd_same
    have bls : b ≠ ls := b2.ne hls
    generalize (upd H2 ls (.lst xs)) = H3 at f3 b3 hls3 ⊢
    refine ⟨(by show 1 ≤ sizeLine; decide), fun a1 n1 => ?_⟩
    have k1 := offN_put (b := b) (o := .lst [.int 1]) n1
    have b4 := b3.put (o := .lst [.int 1]) (b3.ne n1)
    have f4 := f3.trans k1
    have s4 := k1.same hls3 bls.symm
    have t1 : Own C b (upd H3 a1 (.lst [.int 1])) (.ref a1) := .ref (.lst upd_same) (b3.ne n1)
    generalize (upd H3 a1 (.lst [.int 1])) = H4 at k1 b4 f4 s4 t1 ⊢
    refine ⟨(by show 1 ≤ sizeLine; decide), fun a2 n2 => ?_⟩
    have k2 := offN_put (b := b) (o := .tup [.int 2]) n2
    have b5 := b4.put (o := .tup [.int 2]) (b4.ne n2)
    have f5 := f4.trans k2
    have s5 := k2.same s4 bls.symm
    have t1' := t1.off k2
    have t2 : Own C b (upd H4 a2 (.tup [.int 2])) (.ref a2) := .ref (.tup upd_same) (b4.ne n2)
    generalize (upd H4 a2 (.tup [.int 2])) = H5 at k2 b5 f5 s5 t1' t2 ⊢
    refine ⟨Nat.zero_le _, fun a3 n3 => ?_⟩
    have k3 := offN_put (b := b) (o := .tup []) n3
    have b6 := b5.put (o := .tup []) (b5.ne n3)
    have f6 := f5.trans k3
    have s6 := k3.same s5 bls.symm
    have t1'' := t1'.off k3
    have t2' := t2.off k3
    have t3 : Own C b (upd H5 a3 (.tup [])) (.ref a3) := .ref (.tup upd_same) (b5.ne n3)
    generalize (upd H5 a3 (.tup [])) = H6 at k3 b6 f6 s6 t1'' t2' t3 ⊢
    refine ⟨Nat.zero_le _, fun a4 n4 => ?_⟩
    have k4 := offN_put (b := b) (o := .lst []) n4
    have b7 := b6.put (o := .lst []) (b6.ne n4)
    have f7 := f6.trans k4
    have s7 := k4.same s6 bls.symm
    have u1 := t1''.off k4
    have u2 := t2'.off k4
    have u3 := t3.off k4
    have u4 : Own C b (upd H6 a4 (.lst [])) (.ref a4) := .ref (.lst upd_same) (b6.ne n4)
    generalize (upd H6 a4 (.lst [])) = H7 at k4 b7 f7 s7 u1 u2 u3 u4 ⊢
    refine ⟨(by show 1 ≤ sizeLine; decide), fun a5 n5 => ?_⟩
    have k5 := offN_put (b := b) (o := .lst [.bl true]) n5
    have b8 := b7.put (o := .lst [.bl true]) (b7.ne n5)
    have f8 := f7.trans k5
    have s8 := k5.same s7 bls.symm
    have v1 := u1.off k5
    have v2 := u2.off k5
    have v3 := u3.off k5
    have v4 := u4.off k5
    have v5 : Own C b (upd H7 a5 (.lst [.bl true])) (.ref a5) := .ref (.lst upd_same) (b7.ne n5)
    generalize (upd H7 a5 (.lst [.bl true])) = H8 at k5 b8 f8 s8 v1 v2 v3 v4 v5 ⊢
    have newr : ∀ {H8 : Hp} {M' : Nat} {p dx : Addr} {f m : Int}, BagAt H8 b M' → H8 p = none → H8 dx = none → OffN b H8 (upd (upd H8 dx (.own p)) p (.ins C dx (rf f m))) ∧ BagAt (upd (upd H8 dx (.own p)) p (.ins C dx (rf f m))) b M' ∧ Own C b (upd (upd H8 dx (.own p)) p (.ins C dx (rf f m))) (.ref p) := fun {H8 M' p dx f m} hb hp hdx =>
      ⟨offN_same (keep_new hp hdx), (hb.put (hb.ne hdx)).put (hb.ne hp), .ref (.run ⟨dx, upd_same⟩) (hb.ne hp)⟩
    refine fun p6 d6 hp6 hd6 ne6 => ⟨p6, d6, .int 2, .int 3, rfl, upd_same, .int _, .int _, fun _ => ⟨rfl, ?_⟩, fun g => absurd g (by decide)⟩
    rw [upd_upd]
    obtain ⟨k6, b9, w6⟩ := newr (f := 2) (m := 3) b8 hp6 hd6
    have f9 := f8.trans k6
    have s9 := k6.same s8 bls.symm
    have w1 := v1.off k6
    have w2 := v2.off k6
    have w3 := v3.off k6
    have w4 := v4.off k6
    have w5 := v5.off k6
    show tCons _ tNil _ (upd (upd H8 d6 (.own p6)) p6 (.ins C d6 (rf 2 3))) _
    generalize (upd (upd H8 d6 (.own p6)) p6 (.ins C d6 (rf 2 3))) = H9 at k6 b9 f9 s9 w1 w2 w3 w4 w5 w6 ⊢
    refine fun p7 d7 hp7 hd7 ne7 => ⟨p7, d7, .int 0, .int 1, rfl, upd_same, .int _, .int _, fun _ => ⟨rfl, ?_⟩, fun g => absurd g (by decide)⟩
    rw [upd_upd]
    obtain ⟨k7, b10, x7⟩ := newr (f := 0) (m := 1) b9 hp7 hd7
    have f10 := f9.trans k7
    have s10 := k7.same s9 bls.symm
    have x1 := w1.off k7
    have x2 := w2.off k7
    have x3 := w3.off k7
    have x4 := w4.off k7
    have x5 := w5.off k7
    have x6 := w6.off k7
    show tNil _ (upd (upd H9 d7 (.own p7)) p7 (.ins C d7 (rf 0 1))) _
    generalize (upd (upd H9 d7 (.own p7)) p7 (.ins C d7 (rf 0 1))) = H10 at k7 b10 f10 s10 x1 x2 x3 x4 x5 x6 x7 ⊢
    refine ⟨(by show 12 ≤ sizeLine; decide), fun lo hlo => ?_⟩
    generalize hodd : [V.bl true, V.bl false, V.non, V.str _, V.str _, V.ref a1, V.ref a2, V.ref a3, V.ref a4, V.ref a5, V.ref p6, V.ref p7] = ys
    have lys : ys.length = 12 := by rw [← hodd]; rfl
    have own2 : ∀ x ∈ ys, Own C b H10 x := fun x hx => by
      rw [← hodd] at hx
      simp only [List.mem_cons, List.not_mem_nil, or_false] at hx
      rcases hx with rfl | rfl | rfl | rfl | rfl | rfl | rfl | rfl | rfl | rfl | rfl | rfl
      · exact ⟨.bl _, fun z => nomatch z⟩
      · exact ⟨.bl _, fun z => nomatch z⟩
      · exact ⟨.non, fun z => nomatch z⟩
      · exact ⟨.str _, fun z => nomatch z⟩
      · exact ⟨.str _, fun z => nomatch z⟩
      · exact x1
      · exact x2
      · exact x3
      · exact x4
      · exact x5
      · exact x6
      · exact x7
    have k11 := offN_put (b := b) (o := .lst ys) hlo
    have b11 := b10.put (o := .lst ys) (b10.ne hlo)
    have f11 := f10.trans k11
    have s11 := k11.same s10 bls.symm
    have blo : b ≠ lo := b10.ne hlo
    have q11 : (upd H10 lo (.lst ys)) lo = some (.lst ys) := upd_same
    generalize (upd H10 lo (.lst ys)) = H11 at k11 b11 f11 s11 q11 ⊢
    refine ⟨_, rfl, b, 4, _, rfl, by decide, by decide, b11, by omega, fun r3 H12 r30 r31 b12 o12 => ?_⟩
    have k12 := offN_of o12
    refine ⟨_, _, rfl, rfl, _, rfl, ?_⟩
    refine ite2 (fun _ => ?_) (fun _ => ?_)
    · refine ⟨_, rfl, _, rfl, b, 12, _, rfl, by decide, by decide, b12, by omega, fun r4 H13 r40 r41 b13 o13 => ?_⟩
      have k13 := offN_of o13
      obtain ⟨x, hx, hm⟩ := at_mem (xs := xs) r40 (by rw [lxs]; exact r41)
      exact ⟨ls, _, _, x, rfl, rfl, SqL.of (k13.same (k12.same s11 bls.symm) bls.symm), hx, k x H13 (own1 H13 x hm) b13 (f11.trans (k12.trans k13))⟩
    · refine ⟨_, rfl, _, rfl, b, 12, _, rfl, by decide, by decide, b12, by omega, fun r4 H13 r40 r41 b13 o13 => ?_⟩
      have k13 := offN_of o13
      obtain ⟨x, hx, hm⟩ := at_mem (xs := ys) r40 (by rw [lys]; exact r41)
      exact ⟨lo, _, _, x, rfl, rfl, SqL.of (k13.same (k12.same q11 blo.symm) blo.symm), hx, k x H13 ((((own2 x hm).off k11).off k12).off k13) b13 (f11.trans (k12.trans k13))⟩
end
end Ro
namespace Ro
open PySem L2 LamX
abbrev sTold : Stmt := top 16
abbrev NT : List Str := ["_law_call", "_law_found", "e"]
/-- what _law_told makes of the call -/
def TToldR (C CB : Addr) : (XK → Hp → VK → Prop) → Hp → VK → Prop := fun tl H Q =>
  tl (fun cls d H' => cls = .ref CB ∧ d = none ∧ Q (.str "refused") H') H (fun v H' => ∃ p f m, v = .ref p ∧ RunAt C H' p f m ∧ ∀ l, H' l = none → Q (.ref l) (upd H' l (.lst [.int f, .int m, .int (f + m)])))
theorem psv_of {X : Cx} {st : List Stmt} {ts : TS} (h : ∀ D σ H, σ.length = X.N.length → ts D σ H → ∃ t, PSs X st t ∧ t D σ H) : PSs X st ts := ⟨fun pins s σ H D I h' => by
  obtain ⟨t, ht, q⟩ := h D σ H I.len h'
  exact ht.run pins s σ H D I q⟩
theorem pe_weak {X : Cx} {e : Expr} {te : TE} (h : PE X e te) : PE X e (fun σ H Q => ∃ k : VK, te σ H k ∧ ∀ v H', k v H' → Q v H') := ⟨fun pins s σ H Q I h' => by
  obtain ⟨k, h1, h2⟩ := h'
  refine wpAny_mono (h.run pins s σ H k I h1) (fun u s' q => ?_) fun _ _ z => z
  obtain ⟨v, H', I', r, q⟩ := q
  exact ⟨v, H', I', r, h2 v H' q⟩⟩
section
variable {X : Cx} {C CB CW : Addr} {mc : Value} {tM : Tok}
theorem scTold : FnScope NT ["_law_call"] (defScope sTold) := ⟨rfl, rfl, rfl, by decide +kernel, rfl, by decide +kernel, by decide +kernel⟩
theorem told_run {g fE pE : Addr} {cdg : Value} {fdE : FuncData} {q : Str} (hr : Room 5 X.A) (T : TR X.K X.mg C mc tM) (B : XR X.K X.mg CB CW) (GE : FnOk X.prog X.w X.K X.mg X.base CX0 2 fE fdE ["self"] (spEnd C)) (bE : Binds X.K fdE ["self"] []) (PE' : PropOf X.K C "end" pE fE) :
    GivesTo X NT "_law_told" (defScope sTold) g cdg (defBody sTold) "_law_call" q (TToldR C CB) := by
  intro f c' s H Q tl act hc h
  have hr3 : Room 4 (cxOf C8.CX0 X.prog X.w X.K X.mg X.base NT "_law_told" (defScope sTold) g cdg X.A X.stack s H C8.E0).nox.A := hr.deeper _
  have hr2 : Room 3 (cxOf C8.CX0 X.prog X.w X.K X.mg X.base NT "_law_told" (defScope sTold) g cdg X.A X.stack s H C8.E0).nox.A := hr3.mono (by decide)
  refine ⟨_, pss_cons (ps_try_as (X := (cxOf C8.CX0 X.prog X.w X.K X.mg X.base NT "_law_told" (defScope sTold) g cdg X.A X.stack s H C8.E0).nox) (i := 2) (c := .ref CB)
      (tb := fun W D σ H => ∃ Ech : XK, (∀ cls d σ' H', Ech cls d H' → W cls d σ' H') ∧ σ[0]? = some (some (.ref f)) ∧ H c' = some (CodeO c' q) ∧ ∃ k : VK, tl Ech H k ∧ ∀ v H', k v H' → D.nx (σ.set 1 (some v)) H')
      (ts := fun a cls d D σ H => cls = .ref CB ∧ d = none ∧ (∃ σ0 : L2.St, σ = σ0.set 2 (some (.ref a))) ∧ D.rt (.str "refused") H)
      rfl rfl scTold.nd rfl rfl ⟨rfl, by decide, .inl B.gP⟩ L2.takes0 (fun W pn xe tk _ => ?_) (fun a oe cls d pn hz hf => ?_))
    (pss_one (ps_ret (pe_lst (pa_cons (pe_fld (pv 1) rfl) (pa_cons (pe_fld (pv 1) rfl) (pa_cons (pe_prop (pv 1) T.cl PE' GE hr2 bE .nil pass0 rfl) pa_nil)))))), ?_⟩
  · refine psv_of fun D σ H' _ h' => ?_
    obtain ⟨Ech, hW, h1, h2, k, h3, h4⟩ := h'
    exact ⟨_, pss_one (ps_set (i := 1) scTold.nd rfl (Or.inl rfl) (pe_weak (act W pn xe Ech _ _ tk hW))), k, ⟨h1, h2, h3⟩, h4⟩
  · refine psv_of fun D σ H' hl h' => ?_
    obtain ⟨rfl, rfl, ⟨σ0, e0⟩, h2⟩ := h'
    have h1 : σ[2]? = some (some (V.ref a)) := by
      have hl3 : σ0.length = 3 := by rw [e0, List.length_set] at hl; exact hl
      rw [e0, List.getElem?_set_self (by omega)]
    refine ⟨_, pss_one (ps_ret (pe_ifExp (PW.pt (pw_and (pt_val (pe_callB (call_isE B.ec hz hf) (by rfl) T.isi (by decide +kernel) (pa_cons (pv 2) (pa_cons (pe_glob (v := .ref CW) rfl B.gW rfl) pa_nil))))
        (pw_and1 (pt_val (pe_callB (call_isE B.ec hz hf) (by rfl) T.isi (by decide +kernel) (pa_cons (pv 2) (pa_cons (pe_bltn (v := .ty "ValueError") (by rfl) B.gV (by decide +kernel) rfl) pa_nil))))))) pe_str pe_str)), ?_⟩
    refine ⟨_, h1, .ref CW, .ref CW, true, rfl, fun u e => e, B.kW, _, rfl, iteT ?_⟩
    refine ⟨_, h1, .ty "ValueError", .type "ValueError", true, rfl, fun u e => e, B.kV, _, rfl, iteT ?_⟩
    exact h2
  · have xm : PySem.W.exmOne X.K (.ref CB) (.ref CB) = some true := PySem.W.exm_ref B.bP B.iP B.tP B.sP
    refine ⟨fun cls d H' => cls = .ref CB ∧ d = none ∧ Q (.str "refused") H', fun cls d σ' H' ⟨e1, e2, e3⟩ => ⟨true, by rw [e1]; exact xm, fun _ a _ => ⟨e1, e2, ⟨σ', rfl⟩, e3⟩, fun z => nomatch z⟩, rfl, hc, _, h, fun v H' hv => ?_⟩
    obtain ⟨p, f, m, rfl, ⟨dx, hp⟩, k⟩ := hv
    exact ⟨_, rfl, p, C, dx, _, _, rfl, hp, T.cl, T.nF, rf_f _ _, _, rfl, p, C, dx, _, _, rfl, hp, T.cl, T.nM, rf_m _ _, _, rfl, p, dx, _, rfl, hp, p, f, m, rfl, ⟨dx, hp⟩, (by show 3 ≤ sizeLine; decide), fun l hl => k l hl⟩
end
end Ro
namespace Ro
open PySem L2 LamX
abbrev sLaw : Stmt := top 17
abbrev NL : List Str := ["_law_script", "_law_k", "_law_bag_here", "_law_turn", "_law_due_here", "_law_whole", "_law_one", "_law_two"]
/-- the name of the law's lambdas -/
abbrev QL : Str := ("law" : Str) ++ (".<locals>." : Str) ++ ("<lambda>" : Str)
def spLaw (K : PySem.W.Frag) (P : Addr) : Sp := fun vs H Q _ => ∃ (a : Addr) (ns : List Int), vs = [.ref a] ∧ SqL K H a (ns.map V.int) ∧ ns.length ≤ 63 ∧ H P = some (.tbl #[]) ∧ ∀ H', Q (.bl true) H'
structure Mth (P : Program) (w : World) (K : PySem.W.Frag) (mg : Str → Option Value) (base : Heap) (k : Nat) (x : Str) (ps : List Str) (sp : Sp) (f : Addr) (fd : FuncData) : Prop where
  ok : FnOk P w K mg base C8.CX0 k f fd ps sp
  df : Def K mg x f fd ps
/-- what _law_told or _law_due gave -/
def Told (g : Bool) (f m : Int) (b : Addr) (v : V) (H : Hp) : Prop := v ≠ .ref b ∧ ((g = true ∧ ∃ l, v = .ref l ∧ H l = some (.lst [.int f, .int m, .int (f + m)])) ∨ (g = false ∧ v = .str "refused"))
/-- all but b and the tables stays -/
def Old (b : Addr) (H H' : Hp) : Prop := ∀ c o, H c = some o → c ≠ b → (∀ ps, o ≠ .tbl ps) → H' c = some o
theorem old_off {b : Addr} {H H' : Hp} (f : OffN b H H') : Old b H H' := fun c o e ne _ => f.same e ne
theorem old_extN {b : Addr} {H H' : Hp} (f : ExtN H H') : Old b H H' := fun c o e _ nt => f c o e nt
theorem old_keep {b : Addr} {H H' : Hp} (f : Keep H H') : Old b H H' := fun c o e _ _ => f c o e
theorem Old.trans {b : Addr} {H H' H'' : Hp} (f : Old b H H') (g : Old b H' H'') : Old b H H'' := fun c o e ne nt => g c o (f c o e ne nt) ne nt
theorem Own.old {C b : Addr} {H H' : Hp} {x : V} (t : Own C b H x) (f : Old b H H') : Own C b H' x := by
  obtain ⟨t, ne⟩ := t
  refine ⟨?_, ne⟩
  cases t with
  | int v => exact .int v
  | bl b => exact .bl b
  | non => exact .non
  | str s => exact .str s
  | lst e => exact .lst (f _ _ e (fun z => ne (by rw [z])) (fun ps z => nomatch z))
  | tup e => exact .tup (f _ _ e (fun z => ne (by rw [z])) (fun ps z => nomatch z))
  | run e => obtain ⟨d, e⟩ := e; exact .run ⟨d, f _ _ e (fun z => ne (by rw [z])) (fun ps z => nomatch z)⟩
theorem Told.old {g : Bool} {f m : Int} {b : Addr} {v : V} {H H' : Hp} (t : Told g f m b v H) (o : Old b H H') : Told g f m b v H' := by
  obtain ⟨ne, t⟩ := t
  refine ⟨ne, ?_⟩
  rcases t with ⟨h, l, rfl, e⟩ | h
  · exact .inl ⟨h, l, rfl, o l _ e (fun z => ne (by rw [z])) (fun ps z => nomatch z)⟩
  · exact .inr h
theorem BagAt.extN {H H' : Hp} {b : Addr} {N : Nat} (h : BagAt H b N) (e : ExtN H H') : BagAt H' b N := by
  obtain ⟨l, x, c, q, r⟩ := h
  exact ⟨l, x, c, e b _ q (fun ps z => nomatch z), r⟩
theorem Tabs.off {T : List (Addr × Str)} {b : Addr} {N : Nat} {H H' : Hp} (t : Tabs T H) (hb : BagAt H b N) (f : OffN b H H') : Tabs T H' := fun p hp => by
  obtain ⟨l, x, c, q, _⟩ := hb
  obtain ⟨ps, h1, h2, h3⟩ := t p hp
  refine ⟨ps, f.same h1 (fun z => by rw [z, q] at h1; cases h1), h2, fun pos cv hc => ?_⟩
  obtain ⟨c0, e1, e2⟩ := h3 pos cv hc
  exact ⟨c0, e1, f.same e2 (fun z => by rw [z, q] at e2; cases e2)⟩
/-- the script, that is not the bag -/
def Scr (K : PySem.W.Frag) (H : Hp) (b a : Addr) (xs : List V) : Prop := (a ≠ b ∧ Rd H a (.lst xs)) ∨ ∃ (o : Obj) (its : Array Value) (n : Nat), K.lookup a = some o ∧ o.cls = .type "list" ∧ o.dict = none ∧ o.data = .seq its n ∧ its.size ≤ sizeLine ∧ Vals xs its.toList
theorem Scr.seq {K : PySem.W.Frag} {H : Hp} {b a : Addr} {xs : List V} (h : Scr K H b a xs) : SqL K H a xs := h.elim (fun h => .inl h.2) .inr
theorem Scr.old {K : PySem.W.Frag} {H H' : Hp} {b a : Addr} {xs : List V} (h : Scr K H b a xs) (o : Old b H H') : Scr K H' b a xs := by
  rcases h with ⟨ne, h⟩ | h
  · refine .inl ⟨ne, ?_⟩
    rcases h with h | ⟨u, h⟩
    · exact .inl (o _ _ h ne (fun ps z => nomatch z))
    · exact .inr ⟨u, o _ _ h ne (fun ps z => nomatch z)⟩
  · exact .inr h
theorem scr_of {K : PySem.W.Frag} {H : Hp} {b a : Addr} {xs : List V} (h : SqL K H a xs) (hb : H b = none) : Scr K H b a xs := by
  rcases h with h | h
  · refine .inl ⟨fun z => ?_, h⟩
    subst z
    rcases h with h | ⟨u, h⟩ <;> rw [hb] at h <;> cases h
  · exact .inr h
def dOf (g : Bool) (f m : Int) : PyData := if g then dInts [f, m, f + m] else .str "refused"
theorem dOf_eqv (g : Bool) (f m : Int) : PyData.eqv (dOf g f m) (dOf g f m) = true ∧ SeqAt.shaped (dOf g f m) = true := by
  have h : SeqAt.shaped (dOf g f m) = true := by
    cases g
    · show SeqAt.shaped (.str "refused") = true
      unfold SeqAt.shaped
      rw [PyData.canLay0, PyData.depth]
      decide +kernel
    · exact shaped_ints _
  exact ⟨eqv_self h, h⟩
theorem Told.dp {K : PySem.W.Frag} {g : Bool} {f m : Int} {b : Addr} {v : V} {H : Hp} (t : Told g f m b v H) : Dp K H v (dOf g f m) := by
  rcases t.2 with ⟨rfl, l, rfl, e⟩ | ⟨rfl, rfl⟩
  · exact dp_ints (SqL.of e)
  · exact .str _
/-- the four ways to make a run -/
theorem lam_make {C CB b : Addr} {x y : V} {σ : L2.St} {H : Hp} {Q : VK} {N : Nat} (hb : BagAt H b N) (tx : Own C b H x) (ty : Own C b H y) (h6 : σ[6]? = some (some x)) (h7 : σ[7]? = some (some y)) (k : ∀ v H', Told (Good x y) (fi x) (fi y) b v H' → Keep H H' → Q v H') :
    TToldR C CB (fun E H' Q' => tMake C (spInit C CB) [] E (tCons (tVar 6) (tCons (tVar 7) tNil)) σ H' Q') H Q := by
  refine ⟨_, h6, _, h7, fun p dx hp hdx ne => ?_⟩
  have kn : ∀ (f m : Int), Keep H (upd (upd H dx (.own p)) p (.ins C dx (rf f m))) := fun f m => keep_new hp hdx
  refine ⟨p, dx, x, y, rfl, upd_same, tx.1.keep (keep_new hp hdx), ty.1.keep (keep_new hp hdx), fun g => ⟨rfl, ?_⟩, fun g => ⟨rfl, rfl, k _ _ ⟨(fun z => nomatch z), .inr ⟨g, rfl⟩⟩ (keep_new hp hdx)⟩⟩
  rw [upd_upd]
  refine ⟨p, fi x, fi y, rfl, ⟨dx, upd_same⟩, fun l hl => ?_⟩
  have l0 : H l = none := by
    cases z : H l with
    | none => rfl
    | some o => rw [kn _ _ _ _ z] at hl; cases hl
  exact k _ _ ⟨fun z => hb.ne l0 (V.ref.inj z).symm, .inl ⟨g, l, rfl, upd_same⟩⟩ fun q o e => by rw [upd_ne (ne_of_none e l0)]; exact kn _ _ _ _ e
theorem lam_makeK {C CB b : Addr} {x y : V} {σ : L2.St} {H : Hp} {Q : VK} {N : Nat} (hb : BagAt H b N) (tx : Own C b H x) (ty : Own C b H y) (h6 : σ[6]? = some (some x)) (h7 : σ[7]? = some (some y)) (k : ∀ v H', Told (Good x y) (fi x) (fi y) b v H' → Keep H H' → Q v H') :
    TToldR C CB (fun E H' Q' => tMakeK C 0 (["many", "first"] : List Str).length (spInit C CB) (fun vs zs => vs ++ zs.reverse) E tNil (tCons (tVar 7) (tCons (tVar 6) tNil)) σ H' Q') H Q := by
  refine ⟨_, h7, _, h6, rfl, rfl, fun p dx hp hdx ne => ?_⟩
  have kn : ∀ (f m : Int), Keep H (upd (upd H dx (.own p)) p (.ins C dx (rf f m))) := fun f m => keep_new hp hdx
  refine ⟨p, dx, x, y, rfl, upd_same, tx.1.keep (keep_new hp hdx), ty.1.keep (keep_new hp hdx), fun g => ⟨rfl, ?_⟩, fun g => ⟨rfl, rfl, k _ _ ⟨(fun z => nomatch z), .inr ⟨g, rfl⟩⟩ (keep_new hp hdx)⟩⟩
  rw [upd_upd]
  refine ⟨p, fi x, fi y, rfl, ⟨dx, upd_same⟩, fun l hl => ?_⟩
  have l0 : H l = none := by
    cases z : H l with
    | none => rfl
    | some o => rw [kn _ _ _ _ z] at hl; cases hl
  exact k _ _ ⟨fun z => hb.ne l0 (V.ref.inj z).symm, .inl ⟨g, l, rfl, upd_same⟩⟩ fun q o e => by rw [upd_ne (ne_of_none e l0)]; exact kn _ _ _ _ e
theorem good2_ints {x y : V} (g : Good2 x y = true) : ∃ f e, x = .int f ∧ y = .int e := by
  cases x with
  | int f =>
    cases y with
    | int e => exact ⟨f, e, rfl, rfl⟩
    | _ => cases g
  | _ => cases g
theorem lam_bet {C CB b : Addr} {x y : V} {H : Hp} {Q : VK} {N : Nat} (hb : BagAt H b N) (tx : Own C b H x) (ty : Own C b H y) (k : ∀ v H', Told (Good2 x y) (fi x) (fi y - fi x) b v H' → Keep H H' → Q v H') :
    spBetween C CB [.ref C, x, y] H (fun v H' => ∃ p f m, v = .ref p ∧ RunAt C H' p f m ∧ ∀ l, H' l = none → Q (.ref l) (upd H' l (.lst [.int f, .int m, .int (f + m)]))) (fun cls d H' => cls = .ref CB ∧ d = none ∧ Q (.str "refused") H') := by
  refine ⟨x, y, rfl, tx.1, ty.1, fun g p dx hp hdx ne => ?_, fun g H' kk => ⟨rfl, rfl, k _ _ ⟨(fun z => nomatch z), .inr ⟨g, rfl⟩⟩ kk⟩⟩
  have kn : Keep H (upd (upd H dx (.own p)) p (.ins C dx (rf (fi x) (fi y - fi x)))) := keep_new hp hdx
  refine ⟨p, fi x, fi y - fi x, rfl, ⟨dx, upd_same⟩, fun l hl => ?_⟩
  have l0 : H l = none := by
    cases z : H l with
    | none => rfl
    | some o => rw [kn _ _ z] at hl; cases hl
  exact k _ _ ⟨fun z => hb.ne l0 (V.ref.inj z).symm, .inl ⟨g, l, rfl, upd_same⟩⟩ fun q o e => by rw [upd_ne (ne_of_none e l0)]; exact kn _ _ e
theorem lam_bet3 {C CB b : Addr} {x y : V} {σ : L2.St} {H : Hp} {Q : VK} {N : Nat} (hb : BagAt H b N) (tx : Own C b H x) (ty : Own C b H y) (h6 : σ[6]? = some (some x)) (h7 : σ[7]? = some (some y)) (k : ∀ v H', Told (Good2 x y) (fi x) (fi y - fi x) b v H' → Keep H H' → Q v H') :
    TToldR C CB (fun E H' Q' => ClX.tCMeth C (spBetween C CB) E (tC (.ref C)) (tCons (tVar 6) (tCons (tVar 7) tNil)) σ H' Q') H Q := ⟨rfl, _, h6, _, h7, lam_bet hb tx ty k⟩
theorem lam_bet4 {C CB b : Addr} {x y : V} {σ : L2.St} {H : Hp} {Q : VK} {N : Nat} (hb : BagAt H b N) (tx : Own C b H x) (ty : Own C b H y) (h6 : σ[6]? = some (some x)) (h7 : σ[7]? = some (some y)) (k : ∀ v H', Told (Good2 x y) (fi x) (fi y - fi x) b v H' → Keep H H' → Q v H') :
    TToldR C CB (fun E H' Q' => Kc.tCMethK C (["end", "first"] : List Str).length (spBetween C CB) (fun vs zs => vs ++ zs.reverse) E (tC (.ref C)) (tCons (tVar 7) (tCons (tVar 6) tNil)) σ H' Q') H Q := ⟨rfl, _, h7, _, h6, rfl, lam_bet hb tx ty k⟩
section
variable {P : Program} {w : World} {K : PySem.W.Frag} {mg : Str → Option Value} {base : Heap} {C CB CW : Addr} {mc : Value} {tM : Tok}
theorem scLaw : FnScope NL ["_law_script"] (defScope sLaw) := ⟨rfl, rfl, rfl, by decide +kernel, rfl, by decide +kernel, by decide +kernel⟩
theorem ok_law {f fB fV fD fW fI fM fE g pE pM cL pT : Addr} {fdB fdV fdD fdW fdI fdM fdE : FuncData} {dV kV doc pm ct oc gV' kV' gdoc gpm gct goc gcd : Value} {an od gan god : Option Addr} {osl gosl : Array (Option Value)}
    (lk : K.lookup f = some ⟨oc, od, .func (PySem.W.fnOf "law" "law" (defArgs sLaw) (defBody sLaw) (defScope sLaw) dV kV doc pm an (.ref cL) ct), osl⟩) (hcd : PySem.W.codeIn K (.ref cL) "law" = true) (TBx : TabB base mg cL pT)
    (T : TR K mg C mc tM) (Z : IsR K C) (B : TB mg) (X : XR K mg CB CW)
    (YB : Mth P w K mg base 2 "_law_bag" ["_law_script", "_law_at"] (spBag K) fB fdB) (YV : Mth P w K mg base 5 "_law_value" ["_law_bag_here"] (spVal C) fV fdV) (YD : Mth P w K mg base 3 "_law_due" ["_law_begin", "_law_size"] (spDue C) fD fdD) (YW : Mth P w K mg base 2 "_law_is_whole" ["_law_thing"] (spIsW C) fW fdW)
    (mT : mg "_law_told" = some (.ref g)) (kT : PySem.W.keepIn K (.ref g) = true) (lT : K.lookup g = some ⟨goc, god, .func (PySem.W.fnOf "_law_told" "_law_told" (defArgs sTold) (defBody sTold) (defScope sTold) gV' kV' gdoc gpm gan gcd gct), gosl⟩) (cT : PySem.W.codeIn K gcd "_law_told" = true)
    (bT : L2.Binds K (PySem.W.fnOf "_law_told" "_law_told" (defArgs sTold) (defBody sTold) (defScope sTold) gV' kV' gdoc gpm gan gcd gct) ["_law_call"] [])
    (GE : FnOk P w K mg base C8.CX0 2 fE fdE ["self"] (spEnd C)) (bE : Binds K fdE ["self"] []) (PE' : PropOf K C "end" pE fE)
    (M : Mk K C fI) (GI : FnOk P w K mg base (L2.CX P w) 3 fI fdI ["self", "first", "many"] (spInit C CB)) (bI : Binds K fdI ["self", "first", "many"] []) (kI : KBn K fdI ["self", "first", "many"] 1 ["many", "first"] (fun us ws => us ++ ws.reverse) (fun vs zs => vs ++ zs.reverse))
    (GM : FnOk P w K mg base (L2.CX P w) 5 fM fdM ["cls", "first", "end"] (spBetween C CB)) (bM : Binds K fdM ["cls", "first", "end"] []) (kM : KBn K fdM ["cls", "first", "end"] 1 ["end", "first"] (fun us ws => us ++ ws.reverse) (fun vs zs => vs ++ zs.reverse)) (QM : ClX.CMet K C mc "between" pM fM)
    {uL uP : Value} (vL : ClX.CVal K C mc "LINE" (.int 2) uL) (vP : ClX.CVal K C mc "PAGE" (.int 4) uP) :
    FnOk P w K mg base C8.CX0 8 f (PySem.W.fnOf "law" "law" (defArgs sLaw) (defBody sLaw) (defScope sLaw) dV kV doc pm an (.ref cL) ct) ["_law_script"] (spLaw K pT) := by
  have GMr : FnR P w K mg base (L2.CX P w) 5 fM (spBetween C CB) := (GM.raw bM .nil).imp fun vs H Q E z => by rw [List.append_nil]; exact z
  refine fn_of lk hcd scLaw (fun vs H Q E h => ?_) (fun A outer s H vs Q E hr h => ?_)
  · obtain ⟨a, ns, rfl, _⟩ := h
    rfl
  · obtain ⟨a, ns, rfl, hS, hl, hP, k⟩ := h
    have hr1 : Room 2 _ := hr.mono (show 2 ≤ 7 by decide)
    have hr2 : Room 3 _ := hr.mono (show 3 ≤ 7 by decide)
    have hr4 : Room 5 _ := hr.mono (show 5 ≤ 7 by decide)
    have hr5 : Room 6 _ := hr.mono (show 6 ≤ 7 by decide)
    suffices hh : ∃ t, PSs (cxOf C8.CX0 P w K mg base NL "law" (defScope sLaw) f (.ref cL) A outer s H E).nox (defBody sLaw) t ∧ t { nx := fun _ H' => Q .non H', rt := Q } (L2.start NL [.ref a]) H by
      obtain ⟨t, h1, h2⟩ := hh
      exact ⟨t, h1.nox, h2⟩
    have G0 : ∀ q, GivesTo (cxOf C8.CX0 P w K mg base NL "law" (defScope sLaw) f (.ref cL) A outer s H E).nox NT "_law_told" (defScope sTold) g gcd (defBody sTold) "_law_call" q (TToldR C CB) := fun q => told_run hr4 T X GE bE PE'
    have RD : ClX.CRead K C mc := T.rd
    refine ⟨_, pss_cons (ps_for PassesOwn.never rfl (pi_range1 (by rfl) B.range (pa_cons (pe_callB (call_max2 rfl) (by rfl) B.max (by decide +kernel) (pa_cons pe_int (pa_cons (pe_callB (call_min2 rfl) (by rfl) B.min (by decide +kernel) (pa_cons pe_int (pa_cons (pe_callB call_len_seq (by rfl) B.len PySem.boot_len (pa_cons (pv 0) pa_nil)) pa_nil))) pa_nil))) pa_nil)) (pg_name (i := 1) scLaw.nd rfl (Or.inl rfl)) (pss_cons (ps_set (i := 2) scLaw.nd rfl (Or.inl rfl) (pe_call YB.ok hr1 (by rfl) YB.df.at_ YB.df.kp YB.df.bd .nil pass0 (pa_cons (pv 0) (pa_cons (pv 1) pa_nil))))
 (pss_one (ps_for PassesOwn.never rfl (pi_range1 (by rfl) B.range (pa_cons pe_int pa_nil)) (pg_name (i := 3) scLaw.nd rfl (Or.inl rfl)) (pss_cons (ps_asg (pe_tup (pa_cons (pe_call YV.ok hr4 (by rfl) YV.df.at_ YV.df.kp YV.df.bd .nil pass0 (pa_cons (pv 2) pa_nil)) (pa_cons (pe_call YV.ok hr4 (by rfl) YV.df.at_ YV.df.kp YV.df.bd .nil pass0 (pa_cons (pv 2) pa_nil)) pa_nil))) (pg_tup (by rfl) (pgs_cons (pg_name (i := 6) scLaw.nd rfl (Or.inr rfl)) (pgs_cons (pg_name (i := 7) scLaw.nd rfl (Or.inr rfl)) pgs_nil))))
 (pss_cons (ps_set (i := 4) scLaw.nd rfl (Or.inl rfl) (pe_call YD.ok hr2 (by rfl) YD.df.at_ YD.df.kp YD.df.bd .nil pass0 (pa_cons (pv 6) (pa_cons (pv 7) pa_nil))))
 (pss_cons (ps_if (pt_cmpR (op_neD hr.units) (pe_lamcall (T := [(pT, QL)]) (k := 4) (c := cL) (t := fun E => tMake C (spInit C CB) [] E (tCons (tVar 6) (tCons (tVar 7) tNil))) rfl mT kT lT cT bT scTold rfl (Or.inl rfl) (G0 _) TBx rfl List.mem_cons_self (fun p hp _ => by rw [List.mem_singleton.mp hp]; rfl) hr5 (lamS_by (sc := defScope sLaw) (by decide +kernel)) rfl (fun _ _ _ _ _ => rfl)
            (fun A' outer' s' H' E' f' c' hr' => pe_make (E := E') M GI hr' (by rfl) T.mgC bI .nil (passes_call (takes_of rfl rfl rfl rfl) fun _ _ _ _ z => z) (pa_cons (pv 6) (pa_cons (pv 7) pa_nil)))) (pv 4) (nomark _)) (pss_one (ps_ret pe_bl)) pss_nil)
 (pss_cons (ps_if (pt_cmpR (op_neD hr.units) (pe_lamcall (T := [(pT, QL)]) (k := 4) (c := cL) (t := fun E => tMakeK C 0 (["many", "first"] : List Str).length (spInit C CB) (fun vs zs => vs ++ zs.reverse) E tNil (tCons (tVar 7) (tCons (tVar 6) tNil))) rfl mT kT lT cT bT scTold rfl (Or.inl rfl) (G0 _) TBx rfl List.mem_cons_self (fun p hp _ => by rw [List.mem_singleton.mp hp]; rfl) hr5 (lamS_by (sc := defScope sLaw) (by decide +kernel)) rfl (fun _ _ _ _ _ => rfl)
            (fun A' outer' s' H' E' f' c' hr' => pe_makeK0 (E := E') M GI hr' (by rfl) T.mgC kI (passes_call (takes_of rfl rfl rfl rfl) fun _ _ _ _ z => z) (pk_cons (pv 7) (pk_cons (pv 6) pk_nil)))) (pv 4) (nomark _)) (pss_one (ps_ret pe_bl)) pss_nil)
 (C8.pss_cut (ps_set (i := 5) scLaw.nd rfl (Or.inl rfl) (pe_and (pe_call YW.ok hr1 (by rfl) YW.df.at_ YW.df.kp YW.df.bd .nil pass0 (pa_cons (pv 6) pa_nil)) (pe_one (pe_call YW.ok hr1 (by rfl) YW.df.at_ YW.df.kp YW.df.bd .nil pass0 (pa_cons (pv 7) pa_nil)))))
 (C8.pss_cut (ps_set (i := 4) scLaw.nd rfl (Or.inl rfl) (pe_ifExp (pt_val (pv 5)) (pe_call YD.ok hr2 (by rfl) YD.df.at_ YD.df.kp YD.df.bd .nil pass0 (pa_cons (pv 6) (pa_cons (pe_op op_sub (pv 7) (pv 6)) pa_nil))) pe_str))
 (pss_cons (ps_if (pt_cmpR (op_neD hr.units) (pe_lamcall (T := [(pT, QL)]) (k := 5) (c := cL) (t := fun E => ClX.tCMeth C (spBetween C CB) E (tC (.ref C)) (tCons (tVar 6) (tCons (tVar 7) tNil))) rfl mT kT lT cT bT scTold rfl (Or.inl rfl) (G0 _) TBx rfl List.mem_cons_self (fun p hp _ => by rw [List.mem_singleton.mp hp]; rfl) hr (lamS_by (sc := defScope sLaw) (by decide +kernel)) rfl (fun _ _ _ _ _ => rfl)
            (fun A' outer' s' H' E' f' c' hr' => ClX.pe_cmeth (E := E') (pe_glob (v := .ref C) rfl T.mgC rfl) RD QM GMr hr' (passes_call (takes_of rfl rfl rfl rfl) fun _ _ _ _ z => z) (pa_cons (pv 6) (pa_cons (pv 7) pa_nil)))) (pv 4) (nomark _)) (pss_one (ps_ret pe_bl)) pss_nil)
 (pss_one (ps_if (pt_cmpR (op_neD hr.units) (pe_lamcall (T := [(pT, QL)]) (k := 5) (c := cL) (t := fun E => Kc.tCMethK C (["end", "first"] : List Str).length (spBetween C CB) (fun vs zs => vs ++ zs.reverse) E (tC (.ref C)) (tCons (tVar 7) (tCons (tVar 6) tNil))) rfl mT kT lT cT bT scTold rfl (Or.inl rfl) (G0 _) TBx rfl List.mem_cons_self (fun p hp _ => by rw [List.mem_singleton.mp hp]; rfl) hr (lamS_by (sc := defScope sLaw) (by decide +kernel)) rfl (fun _ _ _ _ _ => rfl)
            (fun A' outer' s' H' E' f' c' hr' => Kc.pe_cmethK0 (E := E') (pe_glob (v := .ref C) rfl T.mgC rfl) RD QM GM kM hr' (passes_call (takes_of rfl rfl rfl rfl) fun _ _ _ _ z => z) (pk_cons (pv 7) (pk_cons (pv 6) pk_nil)))) (pv 4) (nomark _)) (pss_one (ps_ret pe_bl)) pss_nil)))))))))))))
 (pss_one (ps_ret (pe_cmpR (op_eqD hr.units) (pe_lst (pa_cons (ClX.pe_cval (pe_glob (v := .ref C) rfl T.mgC rfl)) (pa_cons (ClX.pe_cval (pe_glob (v := .ref C) rfl T.mgC rfl)) pa_nil))) (pe_lst (pa_cons pe_int (pa_cons pe_int pa_nil))) (nomark _)))), ?_⟩
    refine ⟨_, rfl, a, _, rfl, .inl hS, _, _, rfl, _, _, rfl, _, rfl, ?_⟩
    have hJ : ∀ n : Int, 0 ≤ n → n ≤ 63 → 2 ≤ (if (if n < 6 then n else 6) > 2 then (if n < 6 then n else 6) else 2) ∧ (if (if n < 6 then n else 6) > 2 then (if n < 6 then n else 6) else 2) ≤ 63 := fun n h0 h1 => by
      by_cases q : n < 6
      · rw [if_pos q]
        by_cases z : n > 2
        · rw [if_pos z]; omega
        · rw [if_neg z]; omega
      · rw [if_neg q]
        decide
    have hJ2 := hJ ((ns.map V.int).length : Int) (by omega) (by rw [List.length_map]; omega)
    generalize (if (if ((ns.map V.int).length : Int) < 6 then ((ns.map V.int).length : Int) else 6) > 2 then (if ((ns.map V.int).length : Int) < 6 then ((ns.map V.int).length : Int) else 6) else 2) = J at hJ2 ⊢
    obtain ⟨J0, J1⟩ := hJ2
    have hT0 : Tabs [(pT, QL)] H := fun p hp => by
      rw [List.mem_singleton.mp hp]
      exact .nil hP
    refine ⟨by omega, by omega, for_range (lo := 0) (n := J.toNat) (fun i σ H2 => ∃ (v1 v2 v3 v4 v5 v6 v7 : Option V), σ = [some (.ref a), v1, v2, v3, v4, v5, v6, v7] ∧ SqL K H2 a (ns.map V.int) ∧ Tabs [(pT, QL)] H2) ⟨none, none, none, none, none, none, none, rfl, hS, hT0⟩ ?_ ?_⟩
    · rintro i σ H2 hi ⟨v1, v2, v3, v4, v5, v6, v7, rfl, hS2, hT2⟩
      refine ⟨_, rfl, _, rfl, a, ns, _, rfl, hS2, hl, by omega, by omega, fun b H3 nb b3 o3 => ?_⟩
      have k3 : Keep H2 H3 := fun c u e => (o3 c (ne_of_none e nb)).trans e
      have hS3 : Scr K H3 b a (ns.map V.int) := (scr_of hS2 nb).old (old_keep k3)
      have hT3 : Tabs [(pT, QL)] H3 := hT2.ext k3
      refine ⟨10, rfl, by decide, by decide, for_range (lo := 0) (n := 10) (fun j σ H5 => ∃ (v3 v4 v5 v6 v7 : Option V), σ = [some (.ref a), some (.int (0 + (i : Int))), some (.ref b), v3, v4, v5, v6, v7] ∧ Scr K H5 b a (ns.map V.int) ∧ Tabs [(pT, QL)] H5 ∧ BagAt H5 b (8 * j)) ⟨v3, v4, v5, v6, v7, rfl, hS3, hT3, b3⟩ ?_ ?_⟩
      · rintro j σ H5 hj ⟨v3, v4, v5, v6, v7, rfl, hS5, hT5, b5⟩
        refine ⟨_, rfl, b, 8 * j, rfl, b5, by omega, fun x H6 ox b6 f6 => ?_⟩
        refine ⟨_, rfl, b, 8 * j + 4, rfl, b6, by omega, fun y H7 oy b7 f7 => ?_⟩
        have ox7 := ox.off f7
        have hT7 := Tabs.off (Tabs.off hT5 b5 f6) b6 f7
        have hS7 := (hS5.old (old_off f6)).old (old_off f7)
        refine ⟨(by show 2 ≤ sizeLine; decide), fun q hq => ?_⟩
        have kq := offN_put (b := b) (o := .tup [x, y]) hq
        have ox8 := ox7.off kq
        have oy8 := oy.off kq
        have hT8 := Tabs.off hT7 b7 kq
        have hS8 := hS7.old (old_off kq)
        have b8 := b7.put (o := .tup [x, y]) (b7.ne hq)
        have hq8 : (upd H7 q (.tup [x, y])) q = some (.tup [x, y]) := upd_same
        generalize (upd H7 q (.tup [x, y])) = H8 at kq ox8 oy8 hT8 hS8 b8 hq8 ⊢
        refine ⟨q, _, rfl, SqT.of hq8, rfl, _, _, rfl, _, _, rfl, rfl, ?_⟩
        have due : ∀ (Q' : VK), (∀ v H', Told (Good x y) (fi x) (fi y) b v H' → Keep H8 H' → Q' v H') → spDue C [x, y] H8 Q' E0 := fun Q' kk => ⟨x, y, rfl, ox8.1, oy8.1, fun g l hl => kk _ _ ⟨fun z => b8.ne hl (V.ref.inj z).symm, .inl ⟨g, l, rfl, upd_same⟩⟩ (fun c o e => by rw [upd_ne (ne_of_none e hl)]; exact e), fun g => kk _ _ ⟨(fun z => nomatch z), .inr ⟨g, rfl⟩⟩ fun _ _ z => z⟩
        refine ⟨_, rfl, _, rfl, ?_⟩
        dsimp only [tNil, List.cons_append, List.nil_append]
        refine due _ fun d1 H9 td1 k9 => ?_
        have lam : ∀ {g : Bool} {f' m' : Int} {d1 d2 : V} {H1 : Hp}, Told g f' m' b d1 H1 → Told g f' m' b d2 H1 → ∃ d e, Dp K H1 d2 d ∧ Dp K H1 d1 e ∧ SeqAt.shaped d = true ∧ SeqAt.shaped e = true ∧ PyData.eqv d e = true := fun {g f' m' d1 d2 H1} t1 t2 => ⟨_, _, t2.dp, t1.dp, (dOf_eqv _ _ _).2, (dOf_eqv _ _ _).2, (dOf_eqv _ _ _).1⟩
        have hT9 : Tabs [(pT, QL)] H9 := hT8.ext k9
        have hS9 := hS8.old (old_keep k9)
        have b9 : BagAt H9 b (8 * j + 4 + 4) := b8.sameN k9
        have ox9 := ox8.old (old_keep k9)
        have oy9 := oy8.old (old_keep k9)
        refine ⟨hT9, fun H10 eN10 hT10 => ?_⟩
        have e10 := old_extN (b := b) eN10
        have b10 := b9.extN eN10
        refine lam_make b10 (ox9.old e10) (oy9.old e10) rfl rfl fun w1 H11 tw1 k11 => ?_
        have e11 := e10.trans (old_keep k11)
        obtain ⟨q1, q2, p1, p2, p3, p4, p5⟩ := lam (td1.old e11) tw1
        refine ⟨_, rfl, q1, q2, p1, p2, p3, p4, _, rfl, ?_⟩
        rw [p5]
        refine iteF ?_
        have hT11 : Tabs [(pT, QL)] H11 := hT10.ext k11
        have b11 := b10.sameN k11
        have hS11 := hS9.old e11
        have ox11 := ox9.old e11
        have oy11 := oy9.old e11
        have td11 := td1.old e11
        refine ⟨hT11, fun H12 eN12 hT12 => ?_⟩
        have e12 := old_extN (b := b) eN12
        have b12 := b11.extN eN12
        refine lam_makeK b12 (ox11.old e12) (oy11.old e12) rfl rfl fun w2 H13 tw2 k13 => ?_
        have e13 := e12.trans (old_keep k13)
        obtain ⟨q1, q2, p1, p2, p3, p4, p5⟩ := lam (td11.old e13) tw2
        refine ⟨_, rfl, q1, q2, p1, p2, p3, p4, _, rfl, ?_⟩
        rw [p5]
        refine iteF ?_
        have hT13 : Tabs [(pT, QL)] H13 := hT12.ext k13
        have b13 := b12.sameN k13
        have hS13 := hS11.old e13
        have ox13 := ox11.old e13
        have oy13 := oy11.old e13
        refine ⟨fun σ H' => σ = [some (.ref a), some (.int (0 + (i : Int))), some (.ref b), some (.int (0 + (j : Int))), some d1, some (.bl (isI x && isI y)), some x, some y] ∧ H' = H13, ?_, ?_⟩
        · refine ⟨_, rfl, x, rfl, ox13.1, _, rfl, ?_⟩
          cases hx : isI x with
          | false => exact iteF ⟨rfl, rfl⟩
          | true => exact iteT ⟨_, rfl, y, rfl, oy13.1, rfl, rfl⟩
        · rintro σ H' ⟨rfl, eH⟩
          rw [eH]
          refine ⟨fun σ H' => ∃ d2, σ = [some (.ref a), some (.int (0 + (i : Int))), some (.ref b), some (.int (0 + (j : Int))), some d2, some (.bl (isI x && isI y)), some x, some y] ∧ Told (Good2 x y) (fi x) (fi y - fi x) b d2 H' ∧ Keep H13 H', ?_, ?_⟩
          · refine ⟨_, rfl, _, rfl, ?_⟩
            cases hxy : (isI x && isI y) with
            | true =>
              obtain ⟨hx, hy⟩ := Bool.and_eq_true_iff.mp hxy
              obtain ⟨f', rfl⟩ := isI_of hx
              obtain ⟨e', rfl⟩ := isI_of hy
              refine iteT ⟨_, rfl, _, rfl, _, rfl, _, _, rfl, rfl, ?_⟩
              dsimp only [tNil, List.cons_append, List.nil_append]
              have g2 : Good2 (.int f') (.int e') = Good (.int f') (.int (e' - f')) := rfl
              refine ⟨.int f', .int (e' - f'), rfl, .int _, .int _, fun g l hl => ⟨.ref l, rfl, ⟨fun z => b13.ne hl (V.ref.inj z).symm, .inl ⟨g2.trans g, l, rfl, upd_same⟩⟩, fun c o e => by rw [upd_ne (ne_of_none e hl)]; exact e⟩, fun g => ⟨.str "refused", rfl, ⟨(fun z => nomatch z), .inr ⟨g2.trans g, rfl⟩⟩, fun _ _ z => z⟩⟩
            | false =>
              have g2 : Good2 x y = false := by
                cases hg : Good2 x y with
                | false => rfl
                | true =>
                  obtain ⟨f', e', rfl, rfl⟩ := good2_ints hg
                  cases hxy
              exact iteF ⟨.str "refused", rfl, ⟨(fun z => nomatch z), .inr ⟨g2, rfl⟩⟩, fun _ _ z => z⟩
          · rintro σ H14 ⟨d2, rfl, td2, k14⟩
            have hT14 : Tabs [(pT, QL)] H14 := hT13.ext k14
            have b14 := b13.sameN k14
            have hS14 := hS13.old (old_keep k14)
            have ox14 := ox13.old (old_keep k14)
            have oy14 := oy13.old (old_keep k14)
            refine ⟨hT14, fun H15 eN15 hT15 => ?_⟩
            have e15 := old_extN (b := b) eN15
            have b15 := b14.extN eN15
            refine lam_bet3 b15 (ox14.old e15) (oy14.old e15) rfl rfl fun w3 H16 tw3 k16 => ?_
            have e16 := e15.trans (old_keep k16)
            obtain ⟨q1, q2, p1, p2, p3, p4, p5⟩ := lam (td2.old e16) tw3
            refine ⟨_, rfl, q1, q2, p1, p2, p3, p4, _, rfl, ?_⟩
            rw [p5]
            refine iteF ?_
            have hT16 : Tabs [(pT, QL)] H16 := hT15.ext k16
            have b16 := b15.sameN k16
            have hS16 := hS14.old e16
            have ox16 := ox14.old e16
            have oy16 := oy14.old e16
            have td16 := td2.old e16
            refine ⟨hT16, fun H17 eN17 hT17 => ?_⟩
            have e17 := old_extN (b := b) eN17
            have b17 := b16.extN eN17
            refine lam_bet4 b17 (ox16.old e17) (oy16.old e17) rfl rfl fun w4 H18 tw4 k18 => ?_
            have e18 := e17.trans (old_keep k18)
            obtain ⟨q1, q2, p1, p2, p3, p4, p5⟩ := lam (td16.old e18) tw4
            refine ⟨_, rfl, q1, q2, p1, p2, p3, p4, _, rfl, ?_⟩
            rw [p5]
            refine iteF ?_
            exact ⟨_, _, _, _, _, rfl, hS16.old e18, hT17.ext k18, (b17.sameN k18).le (by omega)⟩
      · rintro σ H5 ⟨v3, v4, v5, v6, v7, rfl, hS5, hT5, b5⟩
        exact ⟨_, _, _, _, _, _, _, rfl, hS5.seq, hT5⟩
    · rintro σ H2 ⟨v1, v2, v3, v4, v5, v6, v7, rfl, hS2, hT2⟩
      refine ⟨C, mc, .int 2, uL, rfl, RD, vL, C, mc, .int 4, uP, rfl, RD, vP, (by show 2 ≤ sizeLine; decide), fun l1 h1 => ?_⟩
      refine ⟨(by show 2 ≤ sizeLine; decide), fun l2 h2 => ?_⟩
      have l12 : l1 ≠ l2 := fun z => by rw [← z, upd_same] at h2; cases h2
      refine ⟨dInts [2, 4], dInts [2, 4], dp_ints (SqL.of (by rw [upd_ne l12]; exact upd_same)), dp_ints (SqL.of upd_same), shaped_ints _, shaped_ints _, ?_⟩
      rw [eqv_ints]
      exact k _
end
end Ro
namespace Ro
open PySem L2 LamX
/-! ### what the top has written, the head -/
theorem all_mk {lw : PySem.W.OpenLaw} {w : World} {K : PySem.W.Frag} {h : Heap} {mg : Str → Option Value} {fa f99 f1 f4 f5 f6 f8 f9 f10 f11 f12 f13 f15 pp4 pp5 C CB CW : Addr} {tM tL tP : Tok} {pT cL : Addr} (X : K.In h) (G : h.Ns mainGlobals mg) (hfa : mg "law" = some (.ref fa)) (tb : ∀ P ∈ [pT], h.get? P = some (PySem.W.tabObj #[]))
    {od99 an99 od1 an1 od4 an4 od5 an5 od6 an6 od8 an8 od9 an9 od10 an10 od11 an11 od12 an12 od13 an13 od15 an15 : Option Addr} {sl99 sl1 sl4 sl5 sl6 sl8 sl9 sl10 sl11 sl12 sl13 sl15 : Array (Option Value)} {oc99 kV99 dc99 pm99 cd99 ct99 oc1 kV1 dc1 pm1 cd1 ct1 oc4 kV4 dc4 pm4 cd4 ct4 oc5 kV5 dc5 pm5 cd5 ct5 oc6 kV6 dc6 pm6 cd6 ct6 oc8 kV8 dc8 pm8 cd8 ct8 oc9 kV9 dc9 pm9 cd9 ct9 oc10 kV10 dc10 pm10 cd10 ct10 oc11 kV11 dc11 pm11 cd11 ct11 oc12 kV12 dc12 pm12 cd12 ct12 oc13 kV13 dc13 pm13 cd13 ct13 oc15 kV15 dc15 pm15 ct15 : Value}
    {rest4 rest5 : List Value}
    (aC : PySem.W.nsIn K mainGlobals "Run" = some (some (.ref C)))
    (aCB : PySem.W.nsIn K mainGlobals "BadRun" = some (some (.ref CB)))
    (aCW : PySem.W.nsIn K mainGlobals "WindowError" = some (some (.ref CW)))
    (a1 : PySem.W.findIn K (.ref C) "__init__" = some (some (.ref f1)))
    (i1 : PySem.W.isFn K (.ref f1) = true)
    (p14 : PySem.W.findIn K (.ref C) "end" = some (some (.ref pp4)))
    (p24 : PySem.W.specialIn K (.ref pp4) "__get__" = some (some (.builtin "property.__get__")))
    (p34 : PySem.W.takesIn K (.ref pp4) = some true)
    (p44 : PySem.W.recIn K pp4 "property" = some (.ref f4 :: rest4))
    (q15 : PySem.W.findCls K (.ref C) (.type "type") "between" = some (.get (.builtin "classmethod.__get__") (.ref pp5) .none (.ref C)))
    (q25 : PySem.W.recIn K pp5 "classmethod" = some (.ref f5 :: rest5))
    (q35 : PySem.W.fnIn K f5 = true)
    (a6 : PySem.W.nsIn K mainGlobals "whole" = some (some (.ref f6)))
    (a99 : PySem.W.nsIn K mainGlobals "integer" = some (some (.ref f99)))
    (a8 : PySem.W.nsIn K mainGlobals "_law_bag" = some (some (.ref f8)))
    (a9 : PySem.W.nsIn K mainGlobals "_law_take" = some (some (.ref f9)))
    (a10 : PySem.W.nsIn K mainGlobals "_law_value" = some (some (.ref f10)))
    (a11 : PySem.W.nsIn K mainGlobals "_law_is_whole" = some (some (.ref f11)))
    (a12 : PySem.W.nsIn K mainGlobals "_law_due" = some (some (.ref f12)))
    (a13 : PySem.W.nsIn K mainGlobals "_law_told" = some (some (.ref f13)))
    (a15 : PySem.W.nsIn K mainGlobals "law" = some (some (.ref f15)))
    (l1 : K.lookup f1 = some ⟨oc1, od1, .func (PySem.W.fnOf "__init__" "Run.__init__" (defArgs sInit) (defBody sInit) (defScope sInit) .none kV1 dc1 pm1 an1 cd1 ct1), sl1⟩)
    (c1 : PySem.W.codeIn K cd1 "Run.__init__" = true)
    (k1 : PySem.W.keepIn K (.ref f1) = true)
    (l4 : K.lookup f4 = some ⟨oc4, od4, .func (PySem.W.fnOf "end" "Run.end" (defArgs sEnd) (defBody sEnd) (defScope sEnd) .none kV4 dc4 pm4 an4 cd4 ct4), sl4⟩)
    (c4 : PySem.W.codeIn K cd4 "Run.end" = true)
    (k4 : PySem.W.keepIn K (.ref f4) = true)
    (l5 : K.lookup f5 = some ⟨oc5, od5, .func (PySem.W.fnOf "between" "Run.between" (defArgs sBetween) (defBody sBetween) (defScope sBetween) .none kV5 dc5 pm5 an5 cd5 ct5), sl5⟩)
    (c5 : PySem.W.codeIn K cd5 "Run.between" = true)
    (k5 : PySem.W.keepIn K (.ref f5) = true)
    (l6 : K.lookup f6 = some ⟨oc6, od6, .func (PySem.W.fnOf "whole" "whole" (defArgs sWhole) (defBody sWhole) (defScope sWhole) .none kV6 dc6 pm6 an6 cd6 ct6), sl6⟩)
    (l99 : K.lookup f99 = some ⟨oc99, od99, .func (PySem.W.fnOf "integer" "integer" (defArgs sInteger) (defBody sInteger) (defScope sInteger) .none kV99 dc99 pm99 an99 cd99 ct99), sl99⟩)
    (c6 : PySem.W.codeIn K cd6 "whole" = true)
    (c99 : PySem.W.codeIn K cd99 "integer" = true)
    (k6 : PySem.W.keepIn K (.ref f6) = true)
    (k99 : PySem.W.keepIn K (.ref f99) = true)
    (l8 : K.lookup f8 = some ⟨oc8, od8, .func (PySem.W.fnOf "_law_bag" "_law_bag" (defArgs sBag) (defBody sBag) (defScope sBag) .none kV8 dc8 pm8 an8 cd8 ct8), sl8⟩)
    (c8 : PySem.W.codeIn K cd8 "_law_bag" = true)
    (k8 : PySem.W.keepIn K (.ref f8) = true)
    (l9 : K.lookup f9 = some ⟨oc9, od9, .func (PySem.W.fnOf "_law_take" "_law_take" (defArgs sTake) (defBody sTake) (defScope sTake) .none kV9 dc9 pm9 an9 cd9 ct9), sl9⟩)
    (c9 : PySem.W.codeIn K cd9 "_law_take" = true)
    (k9 : PySem.W.keepIn K (.ref f9) = true)
    (l10 : K.lookup f10 = some ⟨oc10, od10, .func (PySem.W.fnOf "_law_value" "_law_value" (defArgs sVal) (defBody sVal) (defScope sVal) .none kV10 dc10 pm10 an10 cd10 ct10), sl10⟩)
    (c10 : PySem.W.codeIn K cd10 "_law_value" = true)
    (k10 : PySem.W.keepIn K (.ref f10) = true)
    (l11 : K.lookup f11 = some ⟨oc11, od11, .func (PySem.W.fnOf "_law_is_whole" "_law_is_whole" (defArgs sIsW) (defBody sIsW) (defScope sIsW) .none kV11 dc11 pm11 an11 cd11 ct11), sl11⟩)
    (c11 : PySem.W.codeIn K cd11 "_law_is_whole" = true)
    (k11 : PySem.W.keepIn K (.ref f11) = true)
    (l12 : K.lookup f12 = some ⟨oc12, od12, .func (PySem.W.fnOf "_law_due" "_law_due" (defArgs sDue) (defBody sDue) (defScope sDue) .none kV12 dc12 pm12 an12 cd12 ct12), sl12⟩)
    (c12 : PySem.W.codeIn K cd12 "_law_due" = true)
    (k12 : PySem.W.keepIn K (.ref f12) = true)
    (l13 : K.lookup f13 = some ⟨oc13, od13, .func (PySem.W.fnOf "_law_told" "_law_told" (defArgs sTold) (defBody sTold) (defScope sTold) .none kV13 dc13 pm13 an13 cd13 ct13), sl13⟩)
    (c13 : PySem.W.codeIn K cd13 "_law_told" = true)
    (k13 : PySem.W.keepIn K (.ref f13) = true)
    (l15 : K.lookup f15 = some ⟨oc15, od15, .func (PySem.W.fnOf "law" "law" (defArgs sLaw) (defBody sLaw) (defScope sLaw) .none kV15 dc15 pm15 an15 (.ref cL) ct15), sl15⟩)
    (c15 : PySem.W.codeIn K (.ref cL) "law" = true)
    (k15 : PySem.W.keepIn K (.ref f15) = true)
    (pg : PySem.W.plainGet K C Str.empty = true)
    (hd : PySem.W.hasDictIn K C = true)
    (po : PySem.W.plainOver K C = true)
    (sa : PySem.W.findIn K (.ref C) "__setattr__" = some (some (.builtin "object.__setattr__")))
    (mk : PySem.W.makesIn K C = true)
    (kc : PySem.W.keepIn K (.ref C) = true)
    (nF : PySem.W.findIn K (.ref C) "first" = some none)
    (nM : PySem.W.findIn K (.ref C) "many" = some none)
    (r1 : PySem.W.readsIn K C (.type "type") = true)
    (r2 : PySem.W.specialIn K (.ref C) "__getattribute__" = some (some (.builtin "type.__getattribute__")))
    (v1 : PySem.W.findCls K (.ref C) (.type "type") "LINE" = some (.val (.int 2 tL)))
    (v2 : PySem.W.findCls K (.ref C) (.type "type") "PAGE" = some (.val (.int 4 tP)))
    (mo : PySem.W.nsIn K mainGlobals "_MOST" = some (some (.int 1000000000000 tM)))
    (e1 : PySem.W.findIn K (.ref C) "__class__" = some (some (.builtin "object.__class__")))
    (e2 : PySem.W.specialIn K (.builtin "object.__class__") "__get__" = some (some (.builtin "getset_descriptor.__get__")))
    (e3 : PySem.W.takesIn K (.builtin "object.__class__") = some true)
    (e4 : PySem.W.mroIn K C (.type "object") = some true)
    (e5 : PySem.W.kitOne K (.ref C) (.type "int") = some false)
    (x1 : PySem.W.keepIn K (.ref CB) = true)
    (x2 : PySem.W.subIn K (.ref CB) (.type "BaseException") = some true)
    (x3 : PySem.W.typeIn K (.ref CB) = some (.type "type"))
    (x4 : PySem.W.hasDictIn K CB = true)
    (x5 : PySem.W.subIn K (.ref CB) (.ref CB) = some true)
    (x6 : PySem.W.kitOne K (.ref CB) (.ref CW) = some true)
    (x7 : PySem.W.kitOne K (.ref CB) (.type "ValueError") = some true)
    (y1 : PySem.W.findIn K (.ref CB) "__getattribute__" = some (some (.builtin "BaseException.__getattribute__")))
    (y2 : PySem.W.findIn K (.ref CB) "__getattr__" = some none)
    (y3 : PySem.W.findIn K (.ref CB) "__class__" = some (some (.builtin "object.__class__")))
    (y4 : PySem.W.mroIn K CB (.type "object") = some true)
    (xx : PySem.W.excIn K CB [.type "ValueError", .type "Exception", .type "BaseException", .type "object"] "ValueError.__new__" = true)
    (nt : K.lookup pT = none)
    (ch : PySem.W.codeHdIn K cL pT = true)
    (z_len : PySem.W.nsIn K mainGlobals "len" = some none)
    (z_abs : PySem.W.nsIn K mainGlobals "abs" = some none)
    (z_range : PySem.W.nsIn K mainGlobals "range" = some none)
    (z_min : PySem.W.nsIn K mainGlobals "min" = some none)
    (z_max : PySem.W.nsIn K mainGlobals "max" = some none)
    (z_list : PySem.W.nsIn K mainGlobals "list" = some none)
    (z_all : PySem.W.nsIn K mainGlobals "all" = some none)
    (z_isinstance : PySem.W.nsIn K mainGlobals "isinstance" = some none)
    (z_int : PySem.W.nsIn K mainGlobals "int" = some none)
    (z_bool : PySem.W.nsIn K mainGlobals "bool" = some none)
    (z_ValueError : PySem.W.nsIn K mainGlobals "ValueError" = some none) :
    LawAtS lw w K C8.CX0 8 63 "_law_script" mg fa h := by
  have e := hfa.symm.trans (PySem.W.mg_of X G a15)
  cases e
  have F1 := fun_mk (st := sInit) l1 c1 k1
  have b1 := F1.binds (ps := ["self", "first", "many"]) fun _ _ _ _ _ _ us hl => match us, hl with | [_, _, _], _ => rfl
  have F4 := fun_mk (st := sEnd) l4 c4 k4
  have b4 := F4.binds (ps := ["self"]) fun _ _ _ _ _ _ us hl => match us, hl with | [_], _ => rfl
  have F5 := fun_mk (st := sBetween) l5 c5 k5
  have b5 := F5.binds (ps := ["cls", "first", "end"]) fun _ _ _ _ _ _ us hl => match us, hl with | [_, _, _], _ => rfl
  have F6 := fun_mk (st := sWhole) l6 c6 k6
  have F99 := fun_mk (st := sInteger) l99 c99 k99
  have b6 := F6.binds (ps := ["value", "least", "most"]) fun _ _ _ _ _ _ us hl => match us, hl with | [_, _, _], _ => rfl
  have b99 := F99.binds (ps := ["value"]) fun _ _ _ _ _ _ us hl => match us, hl with | [_], _ => rfl
  have F8 := fun_mk (st := sBag) l8 c8 k8
  have b8 := F8.binds (ps := ["_law_script", "_law_at"]) fun _ _ _ _ _ _ us hl => match us, hl with | [_, _], _ => rfl
  have F9 := fun_mk (st := sTake) l9 c9 k9
  have b9 := F9.binds (ps := ["_law_bag_here", "_law_size"]) fun _ _ _ _ _ _ us hl => match us, hl with | [_, _], _ => rfl
  have F10 := fun_mk (st := sVal) l10 c10 k10
  have b10 := F10.binds (ps := ["_law_bag_here"]) fun _ _ _ _ _ _ us hl => match us, hl with | [_], _ => rfl
  have F11 := fun_mk (st := sIsW) l11 c11 k11
  have b11 := F11.binds (ps := ["_law_thing"]) fun _ _ _ _ _ _ us hl => match us, hl with | [_], _ => rfl
  have F12 := fun_mk (st := sDue) l12 c12 k12
  have b12 := F12.binds (ps := ["_law_begin", "_law_size"]) fun _ _ _ _ _ _ us hl => match us, hl with | [_, _], _ => rfl
  have F13 := fun_mk (st := sTold) l13 c13 k13
  have b13 := F13.binds (ps := ["_law_call"]) fun _ _ _ _ _ _ us hl => match us, hl with | [_], _ => rfl
  have F15 := fun_mk (st := sLaw) l15 c15 k15
  have P4 : PropOf K C "end" pp4 f4 := ⟨p14, p24, p34, ⟨_, p44⟩⟩
  have Q5 : ClX.CMet K C (.type "type") "between" pp5 f5 := ⟨q15, ⟨_, q25⟩, q35⟩
  have D6 : Def K mg "whole" f6 _ ["value", "least", "most"] := ⟨PySem.W.mg_of X G a6, k6, b6⟩
  have D99 : Def K mg "integer" f99 _ ["value"] := ⟨PySem.W.mg_of X G a99, k99, b99⟩
  have D8 : Def K mg "_law_bag" f8 _ ["_law_script", "_law_at"] := ⟨PySem.W.mg_of X G a8, k8, b8⟩
  have D9 : Def K mg "_law_take" f9 _ ["_law_bag_here", "_law_size"] := ⟨PySem.W.mg_of X G a9, k9, b9⟩
  have D10 : Def K mg "_law_value" f10 _ ["_law_bag_here"] := ⟨PySem.W.mg_of X G a10, k10, b10⟩
  have D11 : Def K mg "_law_is_whole" f11 _ ["_law_thing"] := ⟨PySem.W.mg_of X G a11, k11, b11⟩
  have D12 : Def K mg "_law_due" f12 _ ["_law_begin", "_law_size"] := ⟨PySem.W.mg_of X G a12, k12, b12⟩
  have D13 : Def K mg "_law_told" f13 _ ["_law_call"] := ⟨PySem.W.mg_of X G a13, k13, b13⟩
  refine ⟨PySem.W.fnOf "law" "law" (defArgs sLaw) (defBody sLaw) (defScope sLaw) .none kV15 dc15 pm15 an15 (.ref cL) ct15, [(cL, pT)], spLaw K pT, fun p hp => ?_, fun p hp => ?_, fun p hp => ?_, fun s v => .of_eq rfl, fun H a ns hn _ ht hS => ⟨a, ns, rfl, hS, hn, ht (cL, pT) List.mem_cons_self, fun _ => rfl⟩, fun base hb1 hb2 hb3 => ?_⟩
  · rw [List.mem_singleton.mp hp]
    exact tb pT List.mem_cons_self
  · rw [List.mem_singleton.mp hp]
    exact nt
  · rw [List.mem_singleton.mp hp]
    exact PySem.W.codeHd_of_K X ch
  have TBx : TabB base mg cL pT := hb3 (cL, pT) List.mem_cons_self
  have T : TR K mg C (.type "type") tM := ⟨⟨pg, hd, po, sa⟩, nF, nM, PySem.W.mg_of X G aC, PySem.W.mg_of X G mo, PySem.W.mg_none_of X G z_isinstance, PySem.W.mg_none_of X G z_int, PySem.W.mg_none_of X G z_bool, PySem.W.mg_none_of X G z_range, ⟨r1, r2⟩⟩
  have B : TB mg := ⟨PySem.W.mg_none_of X G z_len, PySem.W.mg_none_of X G z_abs, PySem.W.mg_none_of X G z_range, PySem.W.mg_none_of X G z_min, PySem.W.mg_none_of X G z_max, PySem.W.mg_none_of X G z_list, PySem.W.mg_none_of X G z_all⟩
  have Z : IsR K C := ⟨e1, e2, e3, e4, e5⟩
  have XX : XR K mg CB CW := ⟨PySem.W.mg_of X G aCB, xx, x1, x2, x3, x4, x5, PySem.W.mg_of X G aCW, PySem.W.mg_none_of X G z_ValueError, x6, x7, ⟨y1, y2, x2, x4, y3, e2, e3, y4⟩⟩
  have MI : Mk K C f1 := ⟨mk, a1, i1, kc⟩
  have GNi : FnOk lw.prog w K mg base CX0 1 f99 _ ["value"] (spInteger K) := ok_integer F99 T
  have GWh : FnOk lw.prog w K mg base C8.CX0 2 f6 _ ["value", "least", "most"] (spWhole K) := ok_whole F6 GNi D99
  have GI : FnOk lw.prog w K mg base (L2.CX lw.prog w) 3 f1 _ ["self", "first", "many"] (spInit C CB) := ok_init F1 T Z XX GWh D6
  have GM : FnOk lw.prog w K mg base (L2.CX lw.prog w) 5 f5 _ ["cls", "first", "end"] (spBetween C CB) := ok_between F5 T Z XX GWh D6 MI GI b1
  have GE : FnOk lw.prog w K mg base C8.CX0 2 f4 _ ["self"] (spEnd C) := ok_end F4 T
  have GW : FnOk lw.prog w K mg base C8.CX0 2 f11 _ ["_law_thing"] (spIsW C) := ok_isw F11 T Z
  exact ok_law l15 c15 TBx T Z B XX ⟨ok_bag F8 B, D8⟩ ⟨ok_val F10 T (ok_take F9) D9 MI GI b1, D10⟩ ⟨ok_due F12 GW D11, D12⟩ ⟨GW, D11⟩ (PySem.W.mg_of X G a13) k13 l13 c13 b13 GE b4 P4 MI GI b1 (Kc.kbn_swap F1 fun _ _ _ _ _ _ _ _ _ => rfl) GM b5 (Kc.kbn_swap F5 fun _ _ _ _ _ _ _ _ _ => rfl) Q5 ⟨v1, ⟨_, rfl⟩⟩ ⟨v2, ⟨_, rfl⟩⟩
theorem walk {l : PySem.W.OpenLaw} {q : Program} {loose : List Str} {XP : (Str → Option Value) → Heap → Prop} {YP : World → Heap → Prop} {d : DefRec} {K : Params → PySem.W.Frag} (hn : l.most = some 63) (hdf : d.params.defaults = [])
    (hY : ∀ (w : World) (h : Heap), YP w h → (K w.params).In h)
    (F : ∀ (w : World) (mg : Str → Option Value) (fa : Addr) (h : Heap), YP w h → (K w.params).In h → h.Ns mainGlobals mg → mg d.name = some (.ref fa) → LawAtS l w (K w.params) C8.CX0 8 63 "_law_script" mg fa h) :
    PySem.W.WalkO q loose XP YP l.row.toRowW d [] (fun f vs => PySem.call f vs) :=
  walk_ofTs (n := 63) (k := 8) (x := "_law_script") (CX := fun _ => C8.CX0) hn (by decide) hdf ⟨rfl, by decide, by decide⟩ hY F fun _ _ _ _ _ z => z
end Ro

open PySem PySem.W PyProof.Rows
set_option maxRecDepth 100000 in
set_option maxHeartbeats 0 in
theorem PySem.Challenge.cw_devicewindows_k01_runs_made_and_refused_holds : PySem.Challenge.rw_devicewindows_k01_runs_made_and_refused.Holds := by
  w_on; o_law; k_head; (case hw => w_witness2)
  k_fill
  refine Ro.walk (l := PySem.Challenge.rw_devicewindows_k01_runs_made_and_refused) rfl rfl (fun w h Y => PySem.W.km_in_of Y) ?F
  case F =>
    intro w mg fa h Y KX G hmg
    refine' Ro.all_mk KX G hmg (PySem.W.km_tabs_of Y) ?aC ?aCB ?aCW ?a1 ?i1 ?p14 ?p24 ?p34 ?p44 ?q15 ?q25 ?q35 ?a6 ?a99 ?a8 ?a9 ?a10 ?a11 ?a12 ?a13 ?a15 ?l1 ?c1 ?k1 ?l4 ?c4 ?k4 ?l5 ?c5 ?k5 ?l6 ?l99 ?c6 ?c99 ?k6 ?k99 ?l8 ?c8 ?k8 ?l9 ?c9 ?k9 ?l10 ?c10 ?k10 ?l11 ?c11 ?k11 ?l12 ?c12 ?k12 ?l13 ?c13 ?k13 ?l15 ?c15 ?k15 ?pg ?hd ?po ?sa ?mk ?kc ?nF ?nM ?r1 ?r2 ?v1 ?v2 ?mo ?e1 ?e2 ?e3 ?e4 ?e5 ?x1 ?x2 ?x3 ?x4 ?x5 ?x6 ?x7 ?y1 ?y2 ?y3 ?y4 ?xx ?nt ?ch ?z_len ?z_abs ?z_range ?z_min ?z_max ?z_list ?z_all ?z_isinstance ?z_int ?z_bool ?z_ValueError
    (case aC => k_is)
    (case aCB => k_is)
    (case aCW => k_is)
    (case a1 => k_is)
    (case i1 => k_is)
    (case p14 => k_is)
    (case p24 => k_is)
    (case p34 => k_is)
    (case p44 => k_is)
    (case q15 => k_is)
    (case q25 => k_is)
    (case q35 => k_is)
    (case a6 => k_is)
    (case a99 => k_is)
    (case a8 => k_is)
    (case a9 => k_is)
    (case a10 => k_is)
    (case a11 => k_is)
    (case a12 => k_is)
    (case a13 => k_is)
    (case a15 => k_is)
    (case l1 => k_is)
    (case c1 => k_is)
    (case k1 => k_is)
    (case l4 => k_is)
    (case c4 => k_is)
    (case k4 => k_is)
    (case l5 => k_is)
    (case c5 => k_is)
    (case k5 => k_is)
    (case l6 => k_is)
    (case l99 => k_is)
    (case c6 => k_is)
    (case c99 => k_is)
    (case k6 => k_is)
    (case k99 => k_is)
    (case l8 => k_is)
    (case c8 => k_is)
    (case k8 => k_is)
    (case l9 => k_is)
    (case c9 => k_is)
    (case k9 => k_is)
    (case l10 => k_is)
    (case c10 => k_is)
    (case k10 => k_is)
    (case l11 => k_is)
    (case c11 => k_is)
    (case k11 => k_is)
    (case l12 => k_is)
    (case c12 => k_is)
    (case k12 => k_is)
    (case l13 => k_is)
    (case c13 => k_is)
    (case k13 => k_is)
    (case l15 => k_is)
    (case c15 => k_is)
    (case k15 => k_is)
    (case pg => k_is)
    (case hd => k_is)
    (case po => k_is)
    (case sa => k_is)
    (case mk => k_is)
    (case kc => k_is)
    (case nF => k_is)
    (case nM => k_is)
    (case r1 => k_is)
    (case r2 => k_is)
    (case v1 => k_is)
    (case v2 => k_is)
    (case mo => k_is)
    (case e1 => k_is)
    (case e2 => k_is)
    (case e3 => k_is)
    (case e4 => k_is)
    (case e5 => first | kernel_rfl | rfl | decide +kernel)
    (case x1 => k_is)
    (case x2 => k_is)
    (case x3 => k_is)
    (case x4 => k_is)
    (case x5 => k_is)
    (case x6 => first | kernel_rfl | rfl | decide +kernel)
    (case x7 => first | kernel_rfl | rfl | decide +kernel)
    (case y1 => k_is)
    (case y2 => k_is)
    (case y3 => k_is)
    (case y4 => k_is)
    (case xx => k_exc)
    (case nt => first | k_is | kernel_rfl)
    (case ch => first | k_is | kernel_rfl)
    (case z_len => k_is)
    (case z_abs => k_is)
    (case z_range => k_is)
    (case z_min => k_is)
    (case z_max => k_is)
    (case z_list => k_is)
    (case z_all => k_is)
    (case z_isinstance => k_is)
    (case z_int => k_is)
    (case z_bool => k_is)
    (case z_ValueError => k_is)
