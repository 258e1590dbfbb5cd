import PyProof.Rows.All
import Wide.All
import OpenK.AllK
import Wide.FinOn
import HandS.ForMost
import HandS.Wide
import HandS.ClsMeth
import HandS.Property
import HandS.ListItems
import HandS.SortOrd
import HandS.SortRule
import HandS.More
import HandS.Conv
import HandS.Codes
import HandS.Style
import HandS.IsInst
import HandS.OwnEq
import HandS.GenBody
import HandS.GenYield
import HandS.GenCall
import HandS.GenList
import PyProof.GenComp
import PyProof.ReprNest
import PyProof.ReprHeadsEmpty
import PyProof.StrHeap
import HandS.Ends
import HandS.Lambda
import HandS.Defaults
import HandS.Flow
import HandS.MakeKwOnly
import HandS.FStr
import PySem.Challenge.RW_devicewindows_k04_segments_by_greed
set_option Elab.async false
set_option linter.all false
set_option maxRecDepth 100000
set_option maxHeartbeats 4000000
/-! Two rules of one's own: storing to a slice of a list; sorting the items of a dict with int keys and bool values. -/
namespace Ln
open PySem PySem.Spec PyProof.Rows L2
/-! ### xs[a:c] = ys -/
/-- the target's reading: the list at l, its bounds, the other list at b -/
def gSlice (to tl th : TE) : TG := fun v σ H Q => to σ H fun x H1 => tl σ H1 fun y H2 => th σ H2 fun z H3 =>
  ∃ (l b : Addr) (xs ys : List V) (a c : Int), x = .ref l ∧ v = .ref b ∧ y = .int a ∧ z = .int c ∧ H3 l = some (.lst xs) ∧ H3 b = some (.lst ys) ∧ l ≠ b ∧ 0 ≤ a ∧ a ≤ c ∧ c ≤ xs.length ∧ xs.length + ys.length ≤ sizeLine ∧
    Q σ (upd H3 l (.lst (xs.take a.toNat ++ ys ++ xs.drop c.toNat)))
section
variable {X : Cx} {pos : Pos}
theorem pg_slice {o lo hi : Expr} {p2 : Pos} {to tl th : TE} (ho : PE X o to) (hl : PE X lo tl) (hh : PE X hi th)
    (ha : ∀ v, assign (.Subscript o (.Slice (some lo) (some hi) none p2) pos) X.env v = (do
      let ov ← holding [v] (eval o X.env)
      let iv ← holding [v, ov] (eval (.Slice (some lo) (some hi) none p2) X.env)
      standAt pos
      holding [v, ov, iv] (setItem ov iv v)
      release [iv, v, ov] []) := by intro _; rfl) : PG X (.Subscript o (.Slice (some lo) (some hi) none p2) pos) (gSlice to tl th) := by
  refine ⟨fun pins s σ H v u Q I r h => ?_⟩
  rw [ha]
  refine wpAny_bind (wpAny_holding (thn (ho.run pins s σ H _ I h) fun ov s1 ⟨x, H1, I1, r1, q1⟩ => ?_))
  refine wpAny_bind (wpAny_holding (wpAny_Slice ?_))
  rw [evalPart_some, evalPart_some]
  refine thn (hl.run pins s1 σ H1 _ I1 q1) fun vl s2 ⟨y, H2, I2, r2, q2⟩ => ?_
  refine thn (hh.run pins s2 σ H2 _ I2 q2) fun vu s3 ⟨z, H3, I3, r3, q3⟩ => ?_
  rw [evalPart_none]
  refine wpAny_pure ?_
  obtain ⟨l, b, xs, ys, a, c, rfl, rfl, rfl, rfl, e1, e2, ne, h0, hac, hc, hz, q⟩ := q3
  obtain rfl : ov = Value.ref l := r1
  obtain rfl : u = Value.ref b := r
  have I4 : Inv X pins σ H3 { s3 with heap := s3.heap.push { cls := .type "slice", data := .fields #[vl, vu, .none] } } := I3.kept (t' := s3.toks) fun b ob q => Heap.get?_push_of_some _ q
  refine wpAny_bind (wpAny_standAt (wpAny_bind (wpAny_holding (set_slice I4 e1 e2 ne (Heap.IsSliceOf.new ..) r2 r3 h0 hac hc hz fun s' I' => ?_))))
  exact wpAny_release ⟨σ, _, I', q⟩
end
/-! ### sorted(d.items()): int keys, bool values -/
abbrev ltK (k : Value → Int) (v u : Value) : Bool := decide (k v < k u)
theorem swo_K (k : Value → Int) : SrtO.Swo (ltK k) := by
  refine ⟨fun x y h => ?_, fun x y z h1 h2 => ?_⟩
  · have a : k x < k y := of_decide_eq_true h
    exact decide_eq_false (by omega)
  · have a : ¬ k y < k x := of_decide_eq_false h1
    have b : ¬ k z < k y := of_decide_eq_false h2
    exact decide_eq_false (by omega)
end Ln
namespace Ln
open PySem PySem.Spec PyProof.Rows L2
/-- a view of the items of the dict at d -/
def ViewO (v d : Addr) : HO := .ext fun h => h.get? v = some { cls := .type "dict_items", data := .fields #[.ref d] }
def rItems : V → List V → Hp → VK → Prop := fun x xs H Q => ∃ (d : Addr) (kvs : List (Key × V)), x = .ref d ∧ xs = [] ∧ H d = some (.dK kvs) ∧ ∀ v, H v = none → Q (.ref v) (upd H v (ViewO v d))
section
variable {X : Cx}
theorem mt_items : MtR X "dict.items" rItems := by
  intro pins s σ H x vs v us Q I rx rv h
  obtain ⟨d, kvs, rfl, rfl, hd, q⟩ := h
  cases rx
  have hus := rv.zero
  subst hus
  obtain ⟨hz, hs0, vs, kv, hdo⟩ := I.hok d _ hd
  refine call_meetsIn F.slot_dict_items hdo.typeIs F.entry_dict_items (F.args_dict_items_1 _) (meets_dict_items (mixKind X.prog X.w) d hs0) ⟨⟨vs, hdo⟩, ?_⟩
  refine ⟨.ref s.heap.objs.size, _, I.laid (a := s.heap.objs.size) (t' := s.toks) (fun b ob q => Heap.get?_push_of_some _ q) (Nat.le_refl _) ?_, rfl, q _ (I.hok.fresh (Nat.le_refl _))⟩
  exact ⟨Heap.get?_push_size _ rfl, ⟨_, Heap.get?_push_size _ rfl⟩, fun h1 h2 e k => k _ e⟩
end
/-! pairs of an int and a bool -/
def IsPB (h : Heap) (v : Value) (x : Int) (b : Bool) : Prop := ∃ a o t n, v = .ref a ∧ h.get? a = some o ∧ o.cls = .type "tuple" ∧ o.data = .seq #[.int x t, .bool b] n
theorem IsPB.keeps {h h' : Heap} {v : Value} {x : Int} {b : Bool} (p : IsPB h v x b) (k : ∀ b o, h.get? b = some o → o.cls = .type "tuple" → h'.get? b = some o) : IsPB h' v x b := by
  obtain ⟨a, o, t, n, e, ho, hc, hd⟩ := p
  exact ⟨a, o, t, n, e, k _ _ ho hc, hc, hd⟩
theorem firsts_pb {h : Heap} : ∀ {vs : List Value}, (∀ v ∈ vs, ∃ x y, IsPB h v x y) → ∃ fs : List Value, PySem.W.KatTups h vs fs ∧ fs.length = vs.length ∧ ∀ f ∈ fs, ∃ x t, f = Value.int x t
  | [], _ => ⟨[], PySem.W.KatTups.nil, rfl, fun _ hm => by simp at hm⟩
  | v :: vs, hp => by
    obtain ⟨fs, h1, h2, h3⟩ := firsts_pb (vs := vs) fun v' hm => hp v' (List.mem_cons_of_mem _ hm)
    obtain ⟨x, y, a, o, t, n, e, ho, hc, hd⟩ := hp v (List.mem_cons_self ..)
    subst e
    refine ⟨.int x t :: fs, PySem.W.KatTups.cons ho hc hd rfl h1, by rw [List.length_cons, List.length_cons, h2], fun f hm => ?_⟩
    rcases List.mem_cons.mp hm with rfl | hm
    · exact ⟨x, t, rfl⟩
    · exact h3 f hm
section
variable {prog : Program} {w : World} {A : Around} {s : Shared}
open SrtO in
theorem pb_cmp {vs : List Value} {k : Value → Int} {g : Value → Bool} (hp : ∀ v ∈ vs, IsPB s.heap v (k v) (g v)) (hu : ∀ v ∈ vs, ∀ u ∈ vs, k v = k u → g v = g u) : Cmp prog w A s (tuples' true) (fun p => p.1 ∈ vs) (lt2 (ltK k)) := by
  intro p q hm hm'
  have h1 := hp _ hm
  have h2 := hp _ hm'
  have hg := hu _ hm _ hm'
  show wpAny (model prog w) A (keyLt' (tuples' true) p.1 q.1) (fun r s' => s' = s ∧ r = decide (k p.1 < k q.1)) (fun _ _ => False) s
  generalize k p.1 = x at h1 hg ⊢
  generalize g p.1 = y at h1 hg ⊢
  generalize k q.1 = x' at h2 hg ⊢
  generalize g q.1 = y' at h2 hg ⊢
  obtain ⟨a, o, t, n, e, ho, hc, hd⟩ := h1
  obtain ⟨a', o', t', n', e', ho', hc', hd'⟩ := h2
  rw [e, e']
  refine PySem.W.kat_lt ho hd ho' hd' ?_
  show PySem.W.KatLex prog w A true (decide (2 < 2)) _ [(.int x t, .int x' t'), (.bool y, .bool y')] 0 s
  refine PySem.W.kat_cons (SeqAt.EqAt.int_int x t x' t' prog w _ _ ?_)
  refine PySem.W.kat_go (fun e1 => ?_) (fun e1 => ?_)
  · have ex : x = x' := by simpa using e1
    have ey : y = y' := hg ex
    refine PySem.W.kat_yes (PySem.W.kat_cons (SeqAt.EqAt.bool_bool y y' prog w _ _ ?_))
    refine PySem.W.kat_go (fun e2 => ?_) (fun e2 => ?_)
    · have e3 : decide (x < x') = false := decide_eq_false (by omega)
      exact PySem.W.kat_yes (PySem.W.kat_nil ⟨rfl, e3.symm⟩)
    · rw [ey] at e2
      simp at e2
  · exact PySem.W.kat_no (oneLt_int ⟨rfl, rfl⟩)
open SrtO in
theorem pb_sortable {a : Addr} {vs : List Value} {k : Value → Int} {g : Value → Bool} (h0 : 0 < vs.length) (hp : ∀ v ∈ vs, IsPB s.heap v (k v) (g v)) (hu : ∀ v ∈ vs, ∀ u ∈ vs, k v = k u → g v = g u)
    (ha : ∀ o, s.heap.get? a = some o → o.cls ≠ .type "tuple") : SortableO prog w A s a vs (ltK k) := by
  intro h' keep
  have hp' : ∀ v ∈ vs, IsPB h' v (k v) (g v) := fun v hm => (hp v hm).keeps fun b o e c => keep b o (fun z => by subst z; exact ha o e c) e
  obtain ⟨fs, h1, h2, h3⟩ := firsts_pb fun v hm => ⟨_, _, hp' v hm⟩
  refine ⟨tuples' true, fun Q E hq => ?_, pb_cmp hp' hu⟩
  refine PySem.W.kat_kind (T := .type "int") h1 (by omega) (fun f hm => ?_) (by rfl) ?_
  · obtain ⟨x, t, rfl⟩ := h3 f hm
    exact PySem.W.Looks.now
  · have e : (Value.type "int" != Value.type "tuple") = true := by first | decide +kernel | rfl | decide
    rw [e]
    exact hq
end
/-! the list of the pairs, laid with the tuples -/
section
variable {X : Cx}
theorem pairs_laid {pins : List (Addr × Obj)} {σ : L2.St} {H : Hp} {s : Shared} {h' : Heap} {tk : Nat} {kvs : List (Key × V)} {vs : List (Key × Value)} {as : List Addr} {L : Addr} {ys : List V} {out : List Value} {c : Nat} (I : Inv X pins σ H s) (kv : KV kvs vs)
    (hk : ∀ b o, s.heap.get? b = some o → h'.get? b = some o) (newS : H L = none) (hLb : ∀ b o, s.heap.get? b = some o → b ≠ L) (hLa : L ∉ as) (hS : h'.get? L = some { cls := .type "list", dict := none, data := .seq out.toArray c, slots := #[] }) (hy : Vals ys out) (hyz : ys.length ≤ sizeLine)
    (hl : as.length = vs.length) (hG : PySem.W.KdxG (mixKind X.prog X.w) vs s.heap.objs.size h' as) :
    ∃ H' : Hp, (∀ b o, H b = some o → H' b = some o) ∧ H L = none ∧ (∀ t ∈ as, H t = none) ∧ H' L = some (.lst ys) ∧ Paired (fun (t : Addr) (q : Key × V) => H' t = some (.tup [kV q.1, q.2])) as kvs ∧ Inv X pins σ H' { s with heap := h', toks := tk } := by
  have lk : kvs.length = vs.length := Paired.length kv
  have nd : as.Nodup := List.Pairwise.imp (fun {a b} (h : a < b) => Nat.ne_of_lt h) hG.rise
  have new : ∀ t ∈ as, H t = none := fun t ht => I.hok.fresh (Nat.le_of_lt (hG.above t ht))
  have atP := LiI.putT_at as kvs (upd H L (.lst ys)) (by omega) nd
  have off : ∀ b, b ∉ as → b ≠ L → LiI.putT (upd H L (.lst ys)) as kvs b = H b := fun b h1 h2 => by rw [LiI.putT_off as kvs _ h1, upd_ne h2]
  have low : ∀ b o, s.heap.get? b = some o → b ∉ as ∧ b ≠ L := fun b o e => ⟨fun z => absurd (Heap.lt_size e) (Nat.not_lt.mpr (Nat.le_of_lt (hG.above b z))), hLb b o e⟩
  have kp : ∀ b u, H b = some u → (LiI.putT (upd H L (.lst ys)) as kvs) b = some u := fun b u e => by
    rw [off b (fun z => by rw [new b z] at e; cases e) (fun z => by rw [z, newS] at e; cases e)]
    exact e
  have eS : LiI.putT (upd H L (.lst ys)) as kvs L = some (.lst ys) := by rw [LiI.putT_off as kvs _ hLa, upd_same]
  refine ⟨LiI.putT (upd H L (.lst ys)) as kvs, kp, newS, new, eS, atP, ?_⟩
  refine I.call' (ch := []) rfl ⟨fun b o q _ _ _ => hk b o q, fun b o q _ _ _ => ⟨o.slots, hk b o q⟩, fun b o q n _ => ?_, fun b o q _ => ⟨o, hk b o q⟩, fun b xs q => kp b _ q, fun b o u q => kp b _ q, fun b ps q => ⟨#[], by rw [kp b _ q]; simp⟩⟩ (fun b u q => ?_) I.bare fun b z => by simp at z
  · obtain ⟨z1, z2⟩ := low b o q
    rw [off b z1 z2]
    exact n
  · by_cases hb : b ∈ as
    · obtain ⟨j, pk, e1, e2, e3⟩ := LiI.paired_ix atP hb
      rw [e3] at q
      cases q
      obtain ⟨key, k, x, f1, f2, f3⟩ := hG.pairs j b e1
      obtain ⟨qv, g1, g2, g3⟩ := LiI.paired_get kv e2
      rw [f1] at g1
      cases g1
      have rk : RelV (kV pk.1) key := by
        rw [g2]
        exact relV_key (show keyIs k key = true from f2)
      exact ⟨by show 2 ≤ sizeLine; decide, [key, x], .cons rk (.cons g3 .nil), ⟨_, f3, rfl, _, rfl⟩⟩
    · by_cases hb2 : b = L
      · rw [hb2] at q ⊢
        rw [eS] at q
        cases q
        exact ⟨hyz, out, c, hy, hS⟩
      · rw [off b hb hb2] at q
        exact (I.hok b u q).stay (fun d v _ y => hk d v y) (fun d y => kp d _ y) fun d xs y => kp d _ y
end
/-- the int and the bool of a pair, read off the heap -/
def kOf (h : Heap) : Value → Int
  | .ref a => match h.get? a with
    | some o => match o.data with
      | .seq its _ => match (its[0]? : Option Value) with
        | some (Value.int x _) => x
        | _ => 0
      | _ => 0
    | none => 0
  | _ => 0
def gOf (h : Heap) : Value → Bool
  | .ref a => match h.get? a with
    | some o => match o.data with
      | .seq its _ => match (its[1]? : Option Value) with
        | some (Value.bool x) => x
        | _ => false
      | _ => false
    | none => false
  | _ => false
theorem pb_reads {h : Heap} {v : Value} {x : Int} {b : Bool} (p : IsPB h v x b) : kOf h v = x ∧ gOf h v = b := by
  obtain ⟨a, o, t, n, rfl, ho, hc, hd⟩ := p
  unfold kOf gOf
  simp only [ho, hd]
  exact ⟨rfl, rfl⟩

def kvB (ks : List (Int × Bool)) : List (Key × V) := ks.map fun p => (Sum.inl p.1, V.bl p.2)
def rSortedI : List V → Hp → VK → Prop := fun vs H Q => ∃ (v d : Addr) (ks : List (Int × Bool)), vs = [V.ref v] ∧ H v = some (ViewO v d) ∧ H d = some (.dK (kvB ks)) ∧ (ks.map (·.1)).Nodup ∧
  ∀ (H' : Hp) (p : Addr) (ts : List Addr) (ks' : List (Int × Bool)), (∀ b o, H b = some o → H' b = some o) → H p = none → (∀ t ∈ ts, H t = none) → H' p = some (.lst (ts.map V.ref)) → ks'.Perm ks → ks'.Pairwise (fun a b => a.1 < b.1) →
    Paired (fun (t : Addr) (q : Int × Bool) => H' t = some (.tup [.int q.1, .bl q.2])) ts ks' → Q (.ref p) H'
theorem paired_map {α β γ : Type} {F : α → β → Prop} (f : γ → α) (g : γ → β) : ∀ {l : List γ}, (∀ x ∈ l, F (f x) (g x)) → Paired F (l.map f) (l.map g)
  | [], _ => .nil
  | x :: l, h => .cons (h x List.mem_cons_self) (paired_map f g fun y hy => h y (List.mem_cons_of_mem _ hy))
def unRef : Value → Addr
  | .ref a => a
  | _ => 0
section
variable {X : Cx}
theorem cr_sortedItems (hcalm : X.calm = true) : CallR X (.builtin "sorted") rSortedI := by
  intro pins s σ H xs us Q I r q
  obtain ⟨v, d, ks, rfl, hv, hd, hnd, q⟩ := q
  obtain ⟨u, rfl, ru⟩ := vals1 r
  obtain rfl : u = Value.ref v := ru
  have hview := (I.hok v _ hv).1
  obtain ⟨hz, hs0, vs, kv, hdo⟩ := I.hok d _ hd
  obtain ⟨ep, hat⟩ := hdo.dictAt
  have lk : (kvB ks).length = vs.length := Paired.length kv
  have lks : (kvB ks).length = ks.length := by unfold kvB; rw [List.length_map]
  refine Calls.call_function_entry PyProof.Rows.kind_sorted PyProof.Rows.plain_sorted PyProof.Rows.entry_sorted (PyProof.Rows.args_sorted1 _) ?_
  unfold Builtin.«sorted»
  refine wpAny_bind (m := checkCount "sorted" 1 1 _) (wpAny_pure ?_)
  refine wpAny_bind (PySem.W.kdx_collect (A := X.A.in1) (knd := mixKind X.prog X.w) (kvs := vs) (ep := ep) (I.ok.hd hcalm) ⟨_, hview, rfl, rfl⟩ hat (by omega) fun h' tk as hk hl hG => ?_)
  have hlen : (as.map Value.ref).length ≤ sizeLine := by rw [List.length_map]; omega
  refine wpAny_bind (wpAny_newList ?_ hlen)
  -- the pairs
  have hp : ∀ (j : Nat) (a : Addr), as[j]? = some a → ∃ p, ks[j]? = some p ∧ IsPB h' (.ref a) p.1 p.2 := fun j a hj => by
    obtain ⟨key, kk, x, e1, e2, e3⟩ := hG.pairs j a hj
    have hjl : j < as.length := (List.getElem?_eq_some_iff.mp hj).1
    have hjk : j < ks.length := by omega
    have e4 : (kvB ks)[j]? = some (Sum.inl (ks[j]).1, V.bl (ks[j]).2) := by
      unfold kvB
      rw [List.getElem?_map, List.getElem?_eq_getElem hjk] <;> rfl
    obtain ⟨qv, g1, g2, g3⟩ := LiI.paired_get kv e4
    rw [e1] at g1
    cases g1
    have rk : RelV (kV (Sum.inl (ks[j]).1)) key := by
      have z : kk = Sum.inl (ks[j]).1 := g2.symm
      rw [← z]
      exact relV_key (show keyIs kk key = true from e2)
    obtain ⟨t, rfl⟩ := rk
    obtain rfl : x = Value.bool (ks[j]).2 := g3
    exact ⟨ks[j], List.getElem?_eq_getElem hjk, a, _, t, _, rfl, e3, rfl, rfl⟩
  have hIs : ∀ v ∈ as.map Value.ref, IsPB h' v (kOf h' v) (gOf h' v) := fun v hm => by
    obtain ⟨a, ha, rfl⟩ := List.mem_map.mp hm
    obtain ⟨j, hj⟩ := List.mem_iff_getElem?.mp ha
    obtain ⟨p, _, hpb⟩ := hp j a hj
    obtain ⟨e1, e2⟩ := pb_reads hpb
    rw [e1, e2]
    exact hpb
  have hmap : (as.map Value.ref).map (fun v => (kOf h' v, gOf h' v)) = ks := by
    apply List.ext_getElem?
    intro j
    rw [List.map_map, List.getElem?_map]
    cases e : as[j]? with
    | none =>
      have : as.length ≤ j := List.getElem?_eq_none_iff.mp e
      rw [List.getElem?_eq_none (by omega)]
      rfl
    | some a =>
      obtain ⟨p, e1, hpb⟩ := hp j a e
      obtain ⟨e2, e3⟩ := pb_reads hpb
      rw [e1]
      show some (kOf h' (.ref a), gOf h' (.ref a)) = some p
      rw [e2, e3]
  have hu : ∀ v ∈ as.map Value.ref, ∀ u ∈ as.map Value.ref, kOf h' v = kOf h' u → gOf h' v = gOf h' u := fun v hm u hn e => by
    obtain ⟨i, hi⟩ := List.mem_iff_getElem?.mp hm
    obtain ⟨j, hj⟩ := List.mem_iff_getElem?.mp hn
    have e1 : ks[i]? = some (kOf h' v, gOf h' v) := by rw [← hmap, List.getElem?_map, hi]; rfl
    have e2 : ks[j]? = some (kOf h' u, gOf h' u) := by rw [← hmap, List.getElem?_map, hj]; rfl
    have f1 : (ks.map (·.1))[i]? = some (kOf h' v) := by rw [List.getElem?_map, e1]; rfl
    have f2 : (ks.map (·.1))[j]? = some (kOf h' v) := by rw [List.getElem?_map, e2, e]; rfl
    have ij : i = j := nd_ix hnd f1 f2
    subst ij
    rw [e1] at e2
    exact (Prod.mk.inj (Option.some.inj e2)).2
  have I1 : Inv X pins σ H { s with heap := h', toks := tk } := I.kept hk
  have hoL : (h'.push (seqObj "list" (as.map Value.ref).toArray 0)).get? h'.objs.size = some (seqObj "list" (as.map Value.ref).toArray 0) := Heap.get?_push_size _ rfl
  show wpAny _ _ _ _ _ { s with heap := h'.push (seqObj "list" (as.map Value.ref).toArray 0), toks := tk }
  refine wpAny_bind (wpAny_holding (wpAny_call_entry PyProof.Rows.slot_list_sort ⟨_, hoL, rfl⟩ PyProof.Rows.entry_list_sort
    (SrtO.list_sort_ord (swo_K (kOf h')) hoL hlen (fun h2 => ?_) fun out hs hb => ⟨_, rfl, ?_⟩) (PyProof.Rows.args_list_sort _)))
  · refine pb_sortable (g := gOf h') (by omega) (fun v hm => (hIs v hm).keeps fun b o e _ => Heap.get?_push_of_some _ e) hu fun o e => ?_
    rw [hoL] at e
    cases e
    intro c
    exact absurd (Value.type.inj c) (by decide)
  · have hout : ∀ x ∈ out, ∃ a ∈ as, x = Value.ref a := fun x hx => by
      obtain ⟨a, ha, e⟩ := List.mem_map.mp (hb.perm.mem_iff.mp hx)
      exact ⟨a, ha, e.symm⟩
    have eout : out = (out.map unRef).map Value.ref := by
      rw [List.map_map]
      conv => lhs; rw [← List.map_id out]
      refine List.map_congr_left fun x hx => ?_
      obtain ⟨a, _, rfl⟩ := hout x hx
      rfl
    obtain ⟨e', he'⟩ := PyProof.Rows.sortedHeap_at (vs := as.map Value.ref) (out := out.toArray) hoL
    have hkk : ∀ b o, h'.get? b = some o → (sortedHeap (h'.push (seqObj "list" (as.map Value.ref).toArray 0)) h'.objs.size (as.map Value.ref) out.toArray).get? b = some o := fun b u e => by
      have hb : b < h'.objs.size := Heap.lt_size e
      rw [PyProof.Rows.sortedHeap_old (Nat.ne_of_lt hb) (by rw [size_push']; exact Nat.lt_succ_of_lt hb)]
      exact Heap.get?_push_of_some _ e
    have hLa : h'.objs.size ∉ as := fun z => Nat.lt_irrefl _ (hG.there z)
    have hG3 : PySem.W.KdxG (mixKind X.prog X.w) vs s.heap.objs.size (sortedHeap (h'.push (seqObj "list" (as.map Value.ref).toArray 0)) h'.objs.size (as.map Value.ref) out.toArray) as := ⟨hG.rise, hG.above, fun j a hj => by
      obtain ⟨key, kk, x, e1, e2, e3⟩ := hG.pairs j a hj
      exact ⟨key, kk, x, e1, e2, hkk _ _ e3⟩⟩
    have hyv : Vals ((out.map unRef).map V.ref) out := by
      have z : Vals ((out.map unRef).map V.ref) ((out.map unRef).map Value.ref) := LiI.vals_refs _
      rw [← eout] at z
      exact z
    have hyz : ((out.map unRef).map V.ref).length ≤ sizeLine := by
      rw [List.length_map, List.length_map, hb.perm.length_eq]
      exact hlen
    obtain ⟨H', k1, k2, k3, k4, k5, J⟩ := pairs_laid (tk := tk) I kv (fun b o e => hkk b o (hk b o e)) (I1.hok.fresh (Nat.le_refl _)) (fun b o e => Nat.ne_of_lt (Heap.lt_size (hk b o e))) hLa he' hyv hyz hl hG3
    have kper : (out.map fun v => (kOf h' v, gOf h' v)).Perm ks := by
      have z := hb.perm.map fun v => (kOf h' v, gOf h' v)
      rw [hmap] at z
      exact z
    refine wpAny_pure ⟨_, rfl, .ref h'.objs.size, H', J, rfl, q H' _ (out.map unRef) (out.map fun v => (kOf h' v, gOf h' v)) k1 k2 (fun t ht => ?_) k4 kper ?_ ?_⟩
    · obtain ⟨x, hx, rfl⟩ := List.mem_map.mp ht
      obtain ⟨a, ha, rfl⟩ := hout x hx
      exact k3 a ha
    · have nd2 : ((out.map fun v => (kOf h' v, gOf h' v)).map (·.1)).Nodup := (kper.map (·.1)).nodup_iff.mpr hnd
      have nd3 : out.Pairwise fun v u => kOf h' v ≠ kOf h' u := by
        rw [List.map_map] at nd2
        exact List.pairwise_map.mp nd2
      refine List.pairwise_map.mpr ?_
      have hs' : out.Pairwise fun x y => ltK (kOf h') y x = false := hs
      refine List.Pairwise.imp (fun {a b} (h : ltK (kOf h') b a = false ∧ kOf h' a ≠ kOf h' b) => ?_) (List.pairwise_and_iff.mpr ⟨hs', nd3⟩)
      have h1 : ¬ kOf h' b < kOf h' a := of_decide_eq_false h.1
      have h2 := h.2
      show kOf h' a < kOf h' b
      omega
    · refine paired_map unRef (fun v => (kOf h' v, gOf h' v)) fun x hx => ?_
      obtain ⟨a, ha, rfl⟩ := hout x hx
      obtain ⟨j, hj⟩ := List.mem_iff_getElem?.mp ha
      obtain ⟨qv, g1, g2⟩ := LiI.paired_get k5 hj
      obtain ⟨p, e1, hpb⟩ := hp j a hj
      obtain ⟨e2, e3⟩ := pb_reads hpb
      have g3 : (kvB ks)[j]? = some (Sum.inl p.1, V.bl p.2) := by
        unfold kvB
        rw [List.getElem?_map, e1] <;> rfl
      rw [g3] at g1
      cases g1
      show H' a = some (.tup [.int (kOf h' (.ref a)), .bl (gOf h' (.ref a))])
      rw [e2, e3]
      exact g2
end
end Ln
/-! Rules of one's own: a class called by a local name, static methods, operators of own classes. -/
namespace Ow
open PySem PySem.Spec PyProof.Rows L2
/-- an own def called at some around -/
theorem run_own {X : Cx} {CX : CXT} {k : Nat} {f : Addr} {fd : FuncData} {ps : List Str} {sp : Sp} {E : XK} {A : Around} {pins : List (Addr × Obj)} {σ : L2.St} {H : Hp} {s : Shared} {Q : VK} {us : List Value} {vs : List V}
    (F : FnOk X.prog X.w X.K X.mg X.base CX k f fd ps sp) (hr : Room k A) (e0 : Env0 X.prog X.w X.K X.mg X.base A X.stack s H) (hb : Binds X.K fd ps []) (hx : Passes CX X E) (I : Inv X pins σ H s) (r : Vals vs us) (h : sp vs H Q E) :
    wpAny (model X.prog X.w) A (call (.ref f) us) (EP X pins σ Q) X.xe s := by
  have hl : us.length = ps.length := by rw [← r.length]; exact F.len _ _ _ _ h
  refine wpAny_call (codeAny_mono (F.run A X.stack s H ⟨us, []⟩ us vs Q E hr e0 (by
    have z := hb s us I.kIn (by simpa using hl)
    simpa using z) r h) fun q s' hq => ?_)
  cases q with
  | error e => exact hx pins σ H s e s' I hq
  | ok fl =>
    cases fl with
    | ret w => exact I.after hq
    | next => exact False.elim hq
    | brk => exact False.elim hq
    | cont => exact False.elim hq
section
variable {X : Cx} {CX : CXT} {k i : Nat} {f C p g : Addr} {mc : Value} {fd : FuncData} {ps : List Str} {sp : Sp} {dvs : List V} {ds : List Value} {E : XK} {x m : Str} {px pos apos : Pos} {o e : Expr} {es : List Expr} {ta : TE} {t : TA} {pl : Sem Bool}
/-- x(e, ..), the i-th slot holds the class at C -/
def tMakeL (i : Nat) (C : Addr) (sp : Sp) (dvs : List V) (E : XK) (t : TA) : TE := fun σ H Q => σ[i]? = some (some (.ref C)) ∧ tMake C sp dvs E t σ H Q
theorem pe_makeL (M : Mk X.K C f) (F : FnOk X.prog X.w X.K X.mg X.base CX k f fd ps sp) (hr : Room (k + 1) X.A) (hN : X.N[i]? = some x) (hv : Vis X.env.scope x) (hb : Binds X.K fd ps ds) (hd : Vals dvs ds) (hx : Passes CX X E)
    (ha : PA X (e :: es) t) (hdb : (x == ("__debug__" : Str)) = false := by decide) (hcd : (x == ("__classdict__" : Str)) = false := by decide) (he : starEach (e :: es) X.env = (false, eval e X.env) :: starEach es X.env := by rfl) (hpl : (backTo pos (starEach es X.env)).any (·.1) = false := by rfl) :
    PE X (.Call (.Name x px) (e :: es) [] pos) (tMakeL i C sp dvs E t) := by
  refine ⟨fun pins s σ H Q I h => ?_⟩
  obtain ⟨hs, ht⟩ := h
  refine wpAny_Call_Name_kw (thn ((pe_var (pos := px) hN hv hdb hcd).run pins s σ H (fun v H1 => v = .ref C ∧ H1 = H) I ⟨.ref C, hs, rfl, rfl⟩) fun u s1 ⟨v, H1, I1, r1, q1⟩ => ?_)
  obtain ⟨rfl, rfl⟩ := q1
  cases r1
  refine PySem.W.callWith_K (h₀ := X.base) I1.ok.mod.kin M.kp (thn (ha.run pos pins s1 σ _ _ I1 ht) fun us s2 ⟨vs, H2, I2, r, q⟩ => ⟨I2.kIn, ?_⟩) he hpl
  exact run_make M F hr hb hd hx I2 r q
/-- C.m is a static method: its record at p, its def at g -/
structure SMet (K : PySem.W.Frag) (C : Addr) (mc : Value) (m : Str) (p g : Addr) : Prop where
  at_ : PySem.W.findCls K (.ref C) mc m = some (.get (.builtin "staticmethod.__get__") (.ref p) .none (.ref C))
  rc : ∃ rest, PySem.W.recIn K p "staticmethod" = some (.ref g :: rest)
  kp : PySem.W.keepIn K (.ref g) = true
def tSMeth (C : Addr) (sp : Sp) (dvs : List V) (E : XK) (ta : TE) (t : TA) : TE := fun σ H Q => ta σ H fun x H1 => x = .ref C ∧ t σ H1 fun vs H2 => sp (vs ++ dvs) H2 Q E
theorem pe_smeth (he : PE X o ta) (r : ClX.CRead X.K C mc) (c : SMet X.K C mc m p g) (F : FnOk X.prog X.w X.K X.mg X.base CX k g fd ps sp) (hr : Room k X.A) (hb : Binds X.K fd ps ds) (hd : Vals dvs ds) (hx : Passes CX X E) (ha : PA X (e :: es) t)
    (hst : starEach (e :: es) X.env = (false, eval e X.env) :: starEach es X.env := by rfl) (hpl : (backTo pos (starEach es X.env)).any (·.1) = false := by rfl)
    (ht : eval (.Call (.Attribute o m apos) (e :: es) [] pos) X.env = (do
      let ov ← eval o X.env
      standAt apos.atName
      let (f, first) ← holding [ov] (getMethod ov m pl)
      callWith pos f first (backTo pos (starEach (e :: es) X.env)) (backToKw pos (keywordEach [] X.env))) := by rfl) :
    PE X (.Call (.Attribute o m apos) (e :: es) [] pos) (tSMeth C sp dvs E ta t) := by
  refine ⟨fun pins s σ H Q I h => ?_⟩
  refine PySem.W.methodCall_KW (pl := pl) (thn (he.run pins s σ H _ I h) fun u s1 ⟨x, H1, I1, rx, ex, q⟩ => ?_) ht
  subst ex
  obtain rfl : u = Value.ref C := rx
  obtain ⟨rest, hp⟩ := c.rc
  refine PySem.W.method_cls I1.kIn r.ga (PySem.W.cls_bind I1.kIn r.rd c.at_ (wpAny_call (PySem.W.sm_get (s := { s1 with toks := s1.toks + 1 }) I1.kIn hp (PySem.W.handed_on rfl ?_))))
  have I2 := I1.tok (s1.toks + 1)
  refine PySem.W.callWith_K (h₀ := X.base) I2.ok.mod.kin c.kp (thn (ha.run pos pins _ σ H1 _ I2 q) fun us s2 ⟨vs, H2, I3, r, q2⟩ => ⟨I3.kIn, ?_⟩) hst hpl
  exact run_fn F hr hb hd hx I3 r q2
end
/-! ### operators of an own class -/
section
variable {X : Cx} {CX : CXT} {k : Nat} {C f : Addr} {fd : FuncData} {ps : List Str} {sp : Sp} {E : XK}
/-- a op b, both instances of C, C has the method -/
def rBin (C : Addr) (sp : Sp) (E : XK) : R2 := fun x y H Q => ∃ a b dx dy fs gs, x = .ref a ∧ y = .ref b ∧ H a = some (.ins C dx fs) ∧ H b = some (.ins C dy gs) ∧ sp [.ref a, .ref b] H (fun v H' => (∀ c, v ≠ .ty c) ∧ Q v H') E
/-- len(o) -/
def rLenO (C : Addr) (sp : Sp) (E : XK) : List V → Hp → VK → Prop := fun xs H Q => ∃ a dx fs, xs = [.ref a] ∧ H a = some (.ins C dx fs) ∧ sp [.ref a] H (fun v H' => ∃ n : Int, v = .int n ∧ 0 ≤ n ∧ n < 2 ^ 63 ∧ Q (.int n) H') E
theorem call_lenO (F : FnOk X.prog X.w X.K X.mg X.base CX k f fd ps sp) (hr : Room (k + 1) X.A) (hs : PySem.W.findIn X.K (.ref C) "__len__" = some (some (.ref f))) (hf : PySem.W.isFn X.K (.ref f) = true) (hb : Binds X.K fd ps []) (hx : Passes CX X E) :
    CallR X (.builtin "len") (rLenO C sp E) := by
  intro pins s σ H xs us Q I r h
  obtain ⟨a, dx, fs, rfl, ha, q⟩ := h
  obtain ⟨u, rfl, ru⟩ := vals1 r
  obtain rfl : u = Value.ref a := ru
  obtain ⟨mA, J, _⟩ := ins_get I.hok ha
  obtain ⟨od, J, _⟩ := J.look
  obtain ⟨m, hF⟩ := I.fr
  refine PySem.W.len_K hF I.ok.mod.kin J hs hf (wpAny_mono (run_own F hr.in1 I.env0.in1 hb hx I (vs := [.ref a]) (.cons (show RelV (.ref a) (.ref a) from rfl) .nil) q) (fun v s' hq => ?_) fun _ _ z => z)
  obtain ⟨w, H', I', rw', n, rfl, n0, n1, q'⟩ := hq
  obtain ⟨t, rfl⟩ := rw'
  exact ⟨⟨n0, n1⟩, .int n, H', I'.tok _, ⟨_, rfl⟩, q'⟩
/-- x in o -/
def rInO (C : Addr) (sp : Sp) (E : XK) : R2 := fun x y H Q => ∃ a dx fs, y = .ref a ∧ H a = some (.ins C dx fs) ∧ sp [.ref a, x] H (fun v H' => ∃ b, v = .bl b ∧ Q (.bl b) H') E
theorem op_inO (F : FnOk X.prog X.w X.K X.mg X.base CX k f fd ps sp) (hr : Room k X.A) (hs : PySem.W.findIn X.K (.ref C) "__contains__" = some (some (.ref f))) (hf : PySem.W.isFn X.K (.ref f) = true) (hb : Binds X.K fd ps []) (hx : Passes CX X E) :
    OpR X (compareOp .In) (rInO C sp E) := by
  intro pins s σ H x y v u Q I rx ry h
  obtain ⟨a, dx, fs, rfl, ha, q⟩ := h
  obtain rfl : u = Value.ref a := ry
  obtain ⟨mA, J, _⟩ := ins_get I.hok ha
  obtain ⟨od, J, _⟩ := J.look
  obtain ⟨m, hF⟩ := I.fr
  refine PySem.W.in_K hF I.ok.mod.kin J hs hf (wpAny_mono (run_own F hr I.env0 hb hx I (vs := [.ref a, x]) (.cons (show RelV (.ref a) (.ref a) from rfl) (.cons rx .nil)) q) (fun v s' hq => ?_) fun _ _ z => z)
  obtain ⟨w, H', I', rw', b, rfl, q'⟩ := hq
  cases rw'
  exact wpAny_truthy_bool ⟨.bl b, H', I', rfl, q'⟩
/-- a op b of two instances of C by C's own method -/
theorem op_bin {op : Operator} (F : FnOk X.prog X.w X.K X.mg X.base CX k f fd ps sp) (hr : Room k X.A) (hc : PySem.W.selfFirst X.K C = true) (hs : PySem.W.findIn X.K (.ref C) (PySem.dunder op.info.2) = some (some (.ref f))) (hf : PySem.W.isFn X.K (.ref f) = true) (hb : Binds X.K fd ps []) (hx : Passes CX X E) :
    OpR X (binaryOp op) (rBin C sp E) := by
  intro pins s σ H x y v u Q I rx ry h
  obtain ⟨a, b, dx, dy, fs, gs, rfl, rfl, ha, hb', q⟩ := h
  obtain rfl : v = Value.ref a := rx
  obtain rfl : u = Value.ref b := ry
  obtain ⟨mA, J, _⟩ := ins_get I.hok ha
  obtain ⟨mB, J', _⟩ := ins_get I.hok hb'
  obtain ⟨od, J, _⟩ := J.look
  obtain ⟨od', J', _⟩ := J'.look
  obtain ⟨m, hF⟩ := I.fr
  refine PySem.W.binop_K hF I.ok.mod.kin J J'.type hc hs hf (wpAny_mono (run_own F hr I.env0 hb hx I (vs := [.ref a, .ref b]) (.cons (show RelV (.ref a) (.ref a) from rfl) (.cons (show RelV (.ref b) (.ref b) from rfl) .nil)) q) (fun w s' hq => ?_) fun _ _ z => z)
  obtain ⟨z, H', I', rw', nt, q'⟩ := hq
  cases z with
  | ty c => exact absurd rfl (nt c)
  | non => cases rw'; exact ⟨.non, H', I', rfl, q'⟩
  | bl c => cases rw'; exact ⟨.bl c, H', I', rfl, q'⟩
  | int n => obtain ⟨t, rfl⟩ := rw'; exact ⟨.int n, H', I', ⟨t, rfl⟩, q'⟩
  | str n => obtain ⟨t, rfl⟩ := rw'; exact ⟨.str n, H', I', ⟨t, rfl⟩, q'⟩
  | byt n => obtain ⟨t, rfl⟩ := rw'; exact ⟨.byt n, H', I', ⟨t, rfl⟩, q'⟩
  | flt n => obtain ⟨t, rfl⟩ := rw'; exact ⟨.flt n, H', I', ⟨t, rfl⟩, q'⟩
  | ref c => cases rw'; exact ⟨.ref c, H', I', rfl, q'⟩
/-- a == y, a an instance of C with its own __eq__, y of a type that does not go first -/
def rEqO (K : PySem.W.Frag) (C : Addr) (sp : Sp) (E : XK) : R2 := fun x y H Q => ∃ a dx fs t, x = .ref a ∧ H a = some (.ins C dx fs) ∧ TyX K H y t ∧ PySem.W.notFirst K C t = true ∧ sp [.ref a, y] H (fun v H' => ∃ b, v = .bl b ∧ Q (.bl b) H') E
theorem op_eqO (F : FnOk X.prog X.w X.K X.mg X.base CX k f fd ps sp) (hr : Room k X.A) (hs : PySem.W.findIn X.K (.ref C) "__eq__" = some (some (.ref f))) (hf : PySem.W.isFn X.K (.ref f) = true) (hb : Binds X.K fd ps []) (hx : Passes CX X E) :
    OpR X (compareOp .Eq) (rEqO X.K C sp E) := by
  intro pins s σ H x y v u Q I rx ry h
  obtain ⟨a, dx, fs, t, rfl, ha, ty, hn, q⟩ := h
  obtain rfl : v = Value.ref a := rx
  obtain ⟨mA, J, _⟩ := ins_get I.hok ha
  obtain ⟨od, J, _⟩ := J.look
  obtain ⟨m, hF⟩ := I.fr
  obtain ⟨P, kx, hP, _⟩ := kit_of I ry ty
  show wpAny _ _ (richCompare .Eq (.ref a) u) _ _ _
  refine PySem.W.cmp_K (op := .Eq) (tb := t) hr.units0 hF I.ok.mod.kin J (kx.ty _ _ I.kIn hP) hn hs hf (wpAny_mono (run_own F hr I.env0 hb hx I (vs := [.ref a, y]) (.cons (show RelV (.ref a) (.ref a) from rfl) (.cons ry .nil)) q) (fun w s' hq => ?_) fun _ _ z => z)
  obtain ⟨z, H', I', rw', b, rfl, q'⟩ := hq
  cases rw'
  exact ⟨.bl b, H', I', rfl, q'⟩
end
end Ow
/-! A for in a generator's body. -/
namespace Gf
open PySem PySem.Spec PyProof.Rows L2
section
variable {M : Model} {A : Around} {R : GenEnd} {Y : Protocol} {n : Nat} {s₀ : Shared} {c : Code} {fs : List Frame} {s : Shared} {env : Env} {K : Flow → Sem PySem.Fin} {H : Value → Sem PySem.Fin} {gd : Bool → Bool} {lv : List Value → List Value}
theorem seg_For {tg iter : Expr} {body : List Stmt} {pos : Pos} (hs : ∀ x, foldedSetIterable iter env x = pure x)
    (h : wpAny M (A.over c fs) (eval iter env) (fun v s1 => wpAny M (A.over c fs) (pyIter v) (fun itv s2 => ∀ p, Seg M A R Y n s₀ (.forLoop tg itv body [] env) (M.den (.forLoop tg itv body [] env))
      (.ret (fun r => ((match r with | .ok f => (.pure f : Sem Flow) | .error e => .raise e).onRaise (cameBack env)).wrap K H gd lv) none (gd false) (lv []) c p [] :: fs) s2) (fun x s' => Seg M A R Y n s₀ c (H x) fs s') s1) (fun x s' => Seg M A R Y n s₀ c (H x) fs s') s) :
    Seg M A R Y n s₀ c ((exec (.For tg iter body [] pos) env).wrap K H gd lv) fs s := by
  show Seg M A R Y n s₀ c ((standAt pos >>= fun _ => eval iter env >>= fun a => foldedSetIterable iter env a >>= fun x => standAt iter.pos >>= fun _ => holding [x] (pyIter x) >>= fun it => runOwn (.forLoop tg it body [] env) env).wrap K H gd lv) fs s
  refine seg_bind_wrap (wpAny_standAt (seg_bind_wrap (wpAny_mono h (fun v s1 h1 => ?_) fun _ _ z => z)))
  rw [hs]
  refine seg_bind_wrap (wpAny_pure (seg_bind_wrap (wpAny_standAt (seg_bind_wrap (wpAny_holding (wpAny_mono h1 (fun it s2 h2 => ?_) fun _ _ z => z))))))
  exact seg_call h2
end
section
variable {prog : Program} {w : World} {A : Around} {R : GenEnd} {Y : Protocol} {n : Nat} {s₀ : Shared} {fs : List Frame} {s : Shared} {env : Env}
abbrev noted (env : Env) (x : Value) : Sem PySem.Fin := (do noteFrame x env; theTreesLotGoes x : Sem Unit).wrap (fun _ => .raise x) .raise id id
theorem seg_forLoop {tg : Expr} {it : Value} {body : List Stmt}
    (h : wpAny (model prog w) (A.over (.forLoop tg it body [] env) fs) (pyNext it) (fun r s1 => match r with
        | none => Seg (model prog w) A R Y n s₀ (.forLoop tg it body [] env) (.pure (.again (.block [] env))) fs s1
        | some v => wpAny (model prog w) (A.over (.forLoop tg it body [] env) fs) (letOwnedTupleGo tg it v) (fun _ s2 => wpAny (model prog w) (A.over (.forLoop tg it body [] env) fs) (assign tg env v) (fun _ s3 =>
            Seg (model prog w) A R Y n s₀ (.forLoop tg it body [] env) ((execs body env).wrap (fun f => match f with
              | .next | .cont => .pure (.again (.forLoop tg it body [] env))
              | .brk => .pure (.done .next)
              | .ret v => .pure (.done (.ret v))) (noted env) id id) fs s3)
          (fun x s' => Seg (model prog w) A R Y n s₀ (.forLoop tg it body [] env) (noted env x) fs s') s2) (fun x s' => Seg (model prog w) A R Y n s₀ (.forLoop tg it body [] env) (noted env x) fs s') s1)
      (fun x s' => Seg (model prog w) A R Y n s₀ (.forLoop tg it body [] env) (noted env x) fs s') s) :
    Seg (model prog w) A R Y n s₀ (.forLoop tg it body [] env) ((model prog w).den (.forLoop tg it body [] env)) fs s := by
  have hx : ∀ (x : Value) (s' : Shared), Seg (model prog w) A R Y n s₀ (.forLoop tg it body [] env) (noted env x) fs s' → Seg (model prog w) A R Y n s₀ (.forLoop tg it body [] env) ((do noteFrame x env; theTreesLotGoes x : Sem Unit).bind fun _ => .raise x) fs s' := fun x s' z => by
    rw [Sem.bind_eq_wrap]
    exact z
  show Seg _ A R Y n s₀ _ ((forTurn tg it body [] env).onRaise (fun x => do noteFrame x env; theTreesLotGoes x)) fs s
  unfold forTurn
  rw [Sem.onRaise_eq_wrap]
  refine seg_bind_wrap (wpAny_standAt (seg_bind_wrap (wpAny_onRaise (wpAny_mono h (fun r s1 h1 => ?_) fun x s' z => wpAny_standAt (hx x s' z)))))
  cases r with
  | none => exact h1
  | some v =>
    refine seg_bind_wrap (wpAny_mono h1 (fun _ s2 h2 => ?_) fun x s' z => hx x s' z)
    refine seg_bind_wrap (wpAny_mono h2 (fun _ s3 h3 => ?_) fun x s' z => hx x s' z)
    rw [Sem.bind_eq_wrap', Sem.wrap_wrap]
    rw [Sem.wrap_congr (execs body env) _ _ (K' := fun f => match f with
            | .next | .cont => .pure (.again (.forLoop tg it body [] env))
            | .brk => .pure (.done .next)
            | .ret v => .pure (.done (.ret v))) (H' := noted env)
        (fun f => by cases f <;> rfl)
        (fun e => by first | exact Sem.bind_eq_wrap _ _ | (show (do noteFrame e env; theTreesLotGoes e : Sem Unit).bind (fun _ => .raise e) = _; rw [Sem.bind_eq_wrap]))]
    exact h3
/-- the end: no else -/
theorem seg_blockNil {k : Result → Sem PySem.Fin} {h : Option Value} {g : Bool} {l kp : List Value} {c₁ : Code} {p : Pos} {fs : List Frame} (hk : Seg (model prog w) A R Y n s₀ c₁ (k (.ok .next)) fs s) :
    Seg (model prog w) A R Y n s₀ (.block [] env) ((model prog w).den (.block [] env)) (.ret k h g l c₁ p kp :: fs) s := by
  exact seg_leaf (.ok .next) hk
end
end Gf
namespace Gf
open PySem PySem.Spec PyProof.Rows L2
section
variable {X : Cx}
def tGFor (wi : TI) (g : TG) (tb : TGn) : TGn := fun D ys σ H => wi σ H fun J H1 => ∃ W : Nat → Nat → List V → L2.St → Hp → Prop, (∃ m, W 0 m ys σ H1) ∧ ∀ i m ys σ H, W i m ys σ H →
  (J.stop i H ∧ D.nx ys σ H) ∨ (J.go i H ∧ ∃ N : List V → L2.St → Hp → Prop, (∀ ys' σ' H', N ys' σ' H' → ∃ m', m' < m ∧ W (i + 1) m' ys' σ' H') ∧ ∀ x H', J.yld i H x H' → g x σ H' fun σ2 H2 => tb { D with nx := N, ct := N, bk := D.nx } ys σ2 H2)
theorem gs_for {tg iter : Expr} {body : List Stmt} {wi : TI} {g : TG} {tb : TGn} {pos : Pos} (hp : PassesOwn (model X.prog X.w) X.A X.env X.xe) (hc : X.calm = true) (hi : PI X tg iter wi) (hg : PG X tg g) (hb : GSs X body tb)
    (hs : ∀ x, foldedSetIterable iter X.env x = pure x := by intro _; rfl) : GS X (.For tg iter body [] pos) (tGFor wi g tb) := by
  refine ⟨fun A S ip R n ys s₀ c fs K J gd lv s σ H D gc hn k hI ht => ?_⟩
  obtain ⟨acc0, c0, r0, I0⟩ := hI
  refine seg_For hs ?_
  rw [gc.over]
  refine wpAny_mono (hi.run _ s σ H _ I0 ht) (fun v s1 h1 => wpAny_mono h1 (fun itv s2 h2 => ?_) fun x s' hx => k.exc n s₀ x s' hx) fun x s' hx => k.exc n s₀ x s' hx
  obtain ⟨it, fp, tn, Jt, H2, e, I2, T, st2, f2, W, ⟨m0, w0⟩, turn⟩ := h2
  subst e
  intro p
  have gl := fun (ip' : List (Addr × Obj)) (h : ∀ q ∈ ip', q.1 ≠ S) (kk : Result → Sem PySem.Fin) => gc_loop (k := kk) (c' := .forLoop tg (.ref it) body [] X.env) (l := lv []) (kp := []) (p := p) (⟨gc.pn, h, gc.apart, gc.over, gc.split, gc.guard, gc.gd⟩ : GC X S ip' A c fs gd) rfl rfl
  have fS : ∀ b ∈ fp, b ≠ S := fun b hb z => (f2 b hb).2.2.2.2.2 (S, lstObj acc0 c0) (List.mem_append_right _ List.mem_cons_self) z.symm
  have stat : ∀ {H' : Hp} {acc : Array Value} {cc : Nat}, (∀ b ∈ fp, H' b = none) → ∀ b ∈ fp, FpOk X ((S, lstObj acc cc) :: ip) H' b := fun {H' acc cc} hn' b hb => by
    obtain ⟨_, q1, q2, q3, q4, q5⟩ := f2 b hb
    refine ⟨hn' b hb, q1, q2, q3, q4, fun q hq => ?_⟩
    rcases List.mem_append.mp hq with z | z
    · exact q5 q (List.mem_append_left _ z)
    · rcases List.mem_cons.mp z with z | z
      · rw [z]; exact (fS b hb).symm
      · exact q5 q (List.mem_append_right _ (List.mem_cons_of_mem _ z))
  have ee : ∀ (n : Nat) (s₀ : Shared) (x : Value) (s' : Shared), X.xe x s' → Seg (model X.prog X.w) A R (GY X S) n s₀ (.forLoop tg (.ref it) body [] X.env) (noted X.env x)
      (.ret (fun r => ((match r with | .ok f => (.pure f : Sem Flow) | .error e => .raise e).onRaise (cameBack X.env)).wrap K J gd lv) none (gd false) (lv []) c p [] :: fs) s' := fun n s₀ x s' hx => by
    refine seg_wrap ?_
    rw [(gl ip gc.ip _).over]
    refine wpAny_bind (wpAny_mono (hp x s' hx) (fun _ s'' hcb => wpAny_theTreesLotGoes ?_) fun y s'' hcb => ?_)
    · exact seg_leaf (.error x) (seg_cameBack gc k hcb)
    · exact seg_leaf (.error y) (seg_cameBack gc k hcb)
  have loop : ∀ (m i n : Nat) (ys : List V) (s₀ s : Shared) (σ : L2.St) (H : Hp), n + ys.length = sizeLine → W i m ys σ H → GI X S ip ys σ H s → tn i s.heap → (∀ b ∈ fp, H b = none) →
      Seg (model X.prog X.w) A R (GY X S) n s₀ (.forLoop tg (.ref it) body [] X.env) ((model X.prog X.w).den (.forLoop tg (.ref it) body [] X.env))
        (.ret (fun r => ((match r with | .ok f => (.pure f : Sem Flow) | .error e => .raise e).onRaise (cameBack X.env)).wrap K J gd lv) none (gd false) (lv []) c p [] :: fs) s := by
    intro m
    induction m using Nat.strongRecOn with
    | ind m ih =>
      intro i n ys s₀ s σ H hn w hI st3 fr3
      obtain ⟨acc, cc, r, I3⟩ := hI
      refine seg_forLoop ?_
      rw [(gl ip gc.ip _).over]
      rcases turn i m ys σ H w with ⟨stop, qn⟩ | ⟨go, N, hN, step⟩
      · refine wpAny_mono (T.done X rfl rfl rfl hc i _ s σ H X.xe I3 (stat fr3) st3 stop) (fun r' s4 ⟨hr, I4⟩ => ?_) fun x s' hx => ee n s₀ x s' hx
        subst hr
        exact seg_again rfl (seg_blockNil (k.ok n ys s₀ s4 .next hn ⟨σ, H, ⟨acc, cc, r, I4⟩, qn⟩))
      · refine wpAny_mono (T.item X rfl rfl rfl hc i _ s σ H X.xe I3 (stat fr3) st3 go) (fun r' s4 ⟨u, hr, h4⟩ => ?_) fun x s' hx => ee n s₀ x s' hx
        subst hr
        refine wpAny_mono h4 (fun _ s5 ⟨x, H5, I5, r5, y5, st5, fr5⟩ => ?_) fun x s' hx => ee n s₀ x s' hx
        have I5' := I5.pinned (stat fr5) (T.obj _ _ st5)
        refine wpAny_mono (hg.run _ s5 σ H5 x u _ I5' r5 (step x H5 y5)) (fun _ s6 ⟨σ6, H6, I6, q6⟩ => ?_) fun x s' hx => ee n s₀ x s' hx
        have hip : ∀ q ∈ ip ++ pinsAt fp s5.heap, q.1 ≠ S := fun q hq => by
          rcases List.mem_append.mp hq with z | z
          · exact gc.ip q z
          · exact fS _ (of_pinsAt z).1
        have after : ∀ {σ7 : L2.St} {H7 : Hp} {ys' : List V} {s7 : Shared}, GI X S (ip ++ pinsAt fp s5.heap) ys' σ7 H7 s7 → GI X S ip ys' σ7 H7 s7 ∧ tn (i + 1) s7.heap ∧ ∀ b ∈ fp, H7 b = none := fun {σ7 H7 ys' s7} z => by
          obtain ⟨acc7, c7, r7, I7⟩ := z
          refine ⟨⟨acc7, c7, r7, Inv.unpinned (pins := (S, lstObj acc7 c7) :: ip) (pl := pinsAt fp s5.heap) I7⟩, T.keep _ _ _ st5 fun b hb o e => ?_, fun b hb => ?_⟩
          · exact (I7.pin (b, o) (List.mem_append_right _ (List.mem_cons_of_mem _ (List.mem_append_right _ (mem_pinsAt hb e))))).1
          · obtain ⟨o, e, d⟩ := T.obj _ _ st5 b hb
            exact (I7.pin (b, o) (List.mem_append_right _ (List.mem_cons_of_mem _ (List.mem_append_right _ (mem_pinsAt hb e))))).2.1
        refine hb.run A S (ip ++ pinsAt fp s5.heap) R n ys s₀ _ _ _ _ id id s6 σ6 H6 { D with nx := N, ct := N, bk := D.nx } (gl _ hip _) hn ⟨fun n' ys' s₀' s7 f hn' hs' => ?_, fun n' s₀' x s7 hx => ee n' s₀' x s7 hx⟩ ⟨acc, cc, r, I6⟩ q6
        cases f with
        | next =>
          obtain ⟨σ7, H7, z, n7⟩ := hs'
          obtain ⟨z1, z2, z3⟩ := after z
          obtain ⟨m', hm, w7⟩ := hN ys' σ7 H7 n7
          exact seg_again rfl (ih m' hm (i + 1) n' ys' s₀' s7 σ7 H7 hn' w7 z1 z2 z3)
        | cont =>
          obtain ⟨σ7, H7, z, n7⟩ := hs'
          obtain ⟨z1, z2, z3⟩ := after z
          obtain ⟨m', hm, w7⟩ := hN ys' σ7 H7 n7
          exact seg_again rfl (ih m' hm (i + 1) n' ys' s₀' s7 σ7 H7 hn' w7 z1 z2 z3)
        | brk =>
          obtain ⟨σ7, H7, z, n7⟩ := hs'
          exact seg_leaf (.ok .next) (k.ok n' ys' s₀' s7 .next hn' ⟨σ7, H7, (after z).1, n7⟩)
        | ret v =>
          obtain ⟨x7, σ7, H7, z, r7, q7⟩ := hs'
          exact seg_leaf (.ok (.ret v)) (k.ok n' ys' s₀' s7 (.ret v) hn' ⟨x7, σ7, H7, (after z).1, r7, q7⟩)
  exact loop m0 0 n ys s₀ s2 σ H2 hn w0 ⟨acc0, c0, r0, I2⟩ st2 fun b hb => (f2 b hb).1
end
end Gf
/-! xs != ys where the items are equal by an own ==: False. -/
namespace No
open PySem PySem.SeqAt
open AutoSeq1 (wpAny_loadPart')
open MeetsSeq MeetsSeq2 MeetsSeq3 SeqRoads2
section
variable {prog : Program} {w : World} {A : Around} {R : Result → Shared → Prop}
theorem ne_walk (l b : Addr) (N : Nat) (I : Nat → Shared → Prop) (hl : GQ.ListI prog w A (fun e s' => R (.error e) s') l b N I) (fin : ∀ s, I N s → R (.ok (.ret (.bool false))) s) :
    ∀ (k i : Nat), i + k = N → ∀ s, I i s → wpAny (model prog w) A.in1 (Builtin.«list.__eq__.loop» ⟨[.ref l, .ref b, rawInt i, rawInt 3], []⟩) (GQ.FinOf prog w A R) (fun e s' => R (.error e) s') s
  | 0, i, hk, s, h => by
    have hi : i = N := hk
    subst hi
    obtain ⟨xs, ys, n, n2, h1, h2, z1, z2, _⟩ := hl _ _ h
    have hR := fin s h
    obtain ⟨hp, g, d, tk, os⟩ := s
    wp_walk using wpAny_loadPart' h1, wpAny_loadPart' h2
    rw [show xs[((i : Nat) : Int).toNat]? = none by simp [z1], show ys[((i : Nat) : Int).toNat]? = none by simp [z2]]
    wp_walk using wpAny_loadPart' h1, wpAny_loadPart' h2
    show R (.ok (.ret (.bool (xs.size != ys.size)))) _
    rw [z1, z2]
    simpa using hR
  | k + 1, i, hk, s, h => by
    obtain ⟨xs, ys, n, n2, h1, h2, z1, z2, turn⟩ := hl _ _ h
    have a1 : i < xs.size := by omega
    have a2 : i < ys.size := by omega
    have ht := turn a1 a2
    obtain ⟨hp, g, d, tk, os⟩ := s
    wp_walk using wpAny_loadPart' h1, wpAny_loadPart' h2
    rw [show xs[((i : Nat) : Int).toNat]? = some xs[i] by simp [a1], show ys[((i : Nat) : Int).toNat]? = some ys[i] by simp [a2]]
    refine wpAny_bind (wpAny_mono ht (fun r s2 q => ?_) fun _ _ x => x)
    obtain ⟨rfl, q⟩ := q
    have rec_ := ne_walk l b N I hl fin k (i + 1) (by omega) s2 q
    obtain ⟨hp2, g2, d2, tk2, os2⟩ := s2
    wp_walk
    rw [show ((i : Int) + 1) = ((i + 1 : Nat) : Int) by omega]
    exact ⟨plainId_quiet plain_eq_loop _, codeAny_builtin entry_eq_loop (by rw [Around.under_plainId plain_eq_loop _]; exact rec_)⟩
theorem ne_list (l b : Addr) (N : Nat) (I : Nat → Shared → Prop) (hl : GQ.ListI prog w A (fun e s' => R (.error e) s') l b N I) (fin : ∀ s, I N s → R (.ok (.ret (.bool false))) s) {s : Shared} (h : I 0 s) :
    wpAny (model prog w) A.in1 (Builtin.«list.__ne__» ⟨[.ref l, .ref b], []⟩) (GQ.FinOf prog w A R) (fun e s' => R (.error e) s') s := by
  obtain ⟨xs, ys, n, n2, h1, h2, z1, z2, _⟩ := hl _ _ h
  have rec_ := ne_walk l b N I hl fin N 0 (by omega) s h
  obtain ⟨hp, g, d, tk, os⟩ := s
  have f3 := AutoSeq1.sub_list_list
  have hne : ¬ (xs.size != ys.size) = true := by simp [z1, z2]
  wp_walk using wpAny_loadPart' h1, wpAny_loadPart' h2
  exact ⟨plainId_quiet plain_eq_loop _, codeAny_builtin entry_eq_loop (by rw [Around.under_plainId plain_eq_loop _]; exact rec_)⟩
end
theorem rich_ne {prog : Program} {w : World} {A : Around} {E : Value → Shared → Prop} {s : Shared} {l b : Addr} {N : Nat} {Q : Value → Shared → Prop} (hu : A.units < cLine) (I : Nat → Shared → Prop) (hl : GQ.ListI prog w A E l b N I)
    (fin : ∀ s, I N s → Q (.bool false) s) (h : I 0 s) : wpAny (model prog w) A (richCompare .NotEq (.ref l) (.ref b)) Q E s := by
  obtain ⟨xs, ys, n, n2, h1, h2, _, _, _⟩ := hl _ _ h
  refine wpAny_richCompare_same_room (op := .NotEq) ⟨_, h1, rfl⟩ ⟨_, h2, rfl⟩ F.slot_list_ne (GQ.call_here F.slot_list_ne ⟨_, h1, rfl⟩ F.entry_list_ne (F.args_list_ne_2 _ _) ?_) hu
  exact ne_list (R := wants (fun v s' => v ≠ .notImplemented ∧ Q v s') E) l b N I hl (fun s' q => ⟨(fun x => nomatch x), fin s' q⟩) h
end No
namespace No
open PySem PySem.Spec PyProof.Rows L2
section
variable {X : Cx} {n : Nat} {D : Eqv}
/-- xs != ys, all items equal -/
def rNeOwn (D : Eqv) : R2 := fun x y H Q => (∃ a b xs ys, x = .ref a ∧ y = .ref b ∧ H a = some (.lst xs) ∧ H b = some (.lst ys) ∧ Prs D xs ys H) ∧ ∀ H', Ext H H' → Q (.bl false) H'
theorem op_neOwn (hD : Mon D) (h : EqG X n D) (hr : Room (n + 1) X.A) : OpR X (compareOp .NotEq) (rNeOwn D) := by
  intro pins s σ H x y v u Q I rx ry hq
  obtain ⟨⟨a, b, xs, ys, rfl, rfl, ha, hb, p⟩, q⟩ := hq
  obtain rfl : v = Value.ref a := rx
  obtain rfl : u = Value.ref b := ry
  have sb : Sub X (n + 1) X.A := ⟨hr, rfl⟩
  show wpAny (model X.prog X.w) X.A (richCompare .NotEq (.ref a) (.ref b)) (EP X pins σ Q) X.xe s
  refine rich_ne (N := xs.length) hr.units0 (fun _ s' => LoopI X pins σ H s') (fun i s' z => ?_) (fun s' z => ?_) ⟨H, I, Ext.rfl'⟩
  · obtain ⟨H1, I1, e1⟩ := id z
    obtain ⟨y1, its, k, r, e⟩ := I1.hok a _ (e1 _ _ ha)
    obtain ⟨y2, its2, k2, r2, e2⟩ := I1.hok b _ (e1 _ _ hb)
    exact ⟨its.toArray, its2.toArray, k, k2, e, e2, by rw [List.size_toArray, ← r.length], by rw [List.size_toArray, ← r2.length, ← p.1], fun h1 h2 => turnG hD h sb p r r2 i h1 h2 s' z⟩
  · obtain ⟨H1, I1, e1⟩ := z
    exact ⟨.bl false, H1, I1, rfl, q H1 e1⟩
end
end No
/-! repr of a list of instances with their own __repr__, where no repr is under way. -/
namespace Rp
open PySem PySem.Spec PyProof.Rows L2
section
variable {prog : Program} {w : World} {A : Around} {E : Value → Shared → Prop} {s : Shared} {K : PySem.W.Frag} {x C f : Addr} {ox : Obj} {od : Option Obj}
theorem by_own {M : Model} {name : Str} {last : Value → List Value → Sem Value} {Q : Option Value → Shared → Prop} (X : K.In s.heap) (I : PySem.W.InstAt s.heap x ox C od) (hs : PySem.W.findIn K (.ref C) name = some (some (.ref f))) (hf : PySem.W.isFn K (.ref f) = true)
    (h : wpAny M A (last (.ref f) [.ref x]) (fun v => Q (some v)) E s) : wpAny M A (callSpecialIfBoundBy? last (.ref x) name) Q E s := by
  have lk := PySem.W.looks_findIn (M := M) X hs
  have fin : wpAny M A (last (.ref f) [.ref x] >>= fun v => pure (some v)) Q E s := by
    refine wpAny_bind (wpAny_mono h (fun v s' q => ?_) fun _ _ q => q)
    exact wpAny_pure q
  have bd := (PySem.W.bind_fn (M := M) X (.ref x) (beq_iff_eq.mp hf))
  simp only [callSpecialIfBoundBy?, bindSpecialIfBound?]
  refine wpAny_holding (wpAny_bind (wpAny_bind (wpAny_bind (I.type.here (lk.here ?_)))))
  refine wpAny_bind (wpAny_askSetting (wpAny_ite ?_))
  split
  · exact wpAny_bind (bd.here (wpAny_pure (by exact fin)))
  · exact wpAny_tryCatch (wpAny_bind (bd.here (wpAny_pure (by exact fin))))
theorem under_own {b : Nat} {Q : Str → Shared → Prop} (hb : b ≤ sizeLine) (hu : A.units < cLine) (X : K.In s.heap) (I : PySem.W.InstAt s.heap x ox C od) (hs : PySem.W.findIn K (.ref C) "__repr__" = some (some (.ref f))) (hf : PySem.W.isFn K (.ref f) = true)
    (h : wpAny (model prog w) A (call (.ref f) [.ref x]) (fun v s' => ∃ m u, v = .str m u ∧ Q m s') E s) : wpAny (model prog w) A (pyReprUnder b (.ref x)) Q E s := by
  refine wpAny_pyReprUnder_ref hb ?_
  unfold pyReprObjUnder pyReprObjBy
  refine wpAny_bind (wpAny_cRoomFor hu ?_)
  refine wpAny_bind (wpAny_bind (I.type.here ((PySem.W.looks_findIn X hs).here ?_)))
  show wpAny _ _ (if (some (Value.ref f)).isNone = true then _ else _) _ _ _
  rw [if_neg (by simp)]
  refine wpAny_bind (by_own X I hs hf ?_)
  show wpAny _ _ (call (.ref f) ([.ref x] ++ [])) _ _ _
  refine wpAny_mono h (fun v s' hv => ?_) fun _ _ z => z
  obtain ⟨m, u, rfl, hq⟩ := hv
  refine wpAny_bind (wpAny_isInstance (T := "str") (b := true) rfl isSubtype_str_str ?_)
  first
    | exact wpAny_pure ⟨m, u, rfl, hq⟩
    | (rw [if_pos rfl]; exact wpAny_pure ⟨m, u, rfl, hq⟩)
end
section
variable {X : Cx} {n : Nat} {pins : List (Addr × Obj)} {σ : L2.St} {H : Hp} {s : Shared}
/-- what the own __repr__ promises: the text t for the instance a -/
def spRepr (R : Addr → Str → Hp → Prop) : Sp := fun vs H Q _ => ∃ a t, vs = [.ref a] ∧ R a t H ∧ ∀ H', Ext H H' → Q (.str t) H'
theorem run_repr {CX : CXT} {C f a dx : Addr} {fd : FuncData} {ps : List Str} {R : Addr → Str → Hp → Prop} {E : XK} {A : Around} {t : Str} {fs : List (Str × V)} (F : FnOk X.prog X.w X.K X.mg X.base CX n f fd ps (spRepr R)) (hb : Binds X.K fd ps []) (hx : Passes CX X E)
    (sb : Sub X n A) (I : Inv X pins σ H s) (hr : R a t H) : wpAny (model X.prog X.w) A (call (.ref f) [.ref a]) (fun v s' => ∃ m u, v = .str m u ∧ m = t ∧ ∃ H', Inv X pins σ H' s' ∧ Ext H H') X.xe s := by
  have hsp : spRepr R [.ref a] H (fun v H' => v = .str t ∧ Ext H H') E := ⟨a, t, rfl, hr, fun H' e => ⟨rfl, e⟩⟩
  have e0 : Env0 X.prog X.w X.K X.mg X.base A X.stack s H := by
    have e := I.env0
    exact ⟨by rw [sb.fr]; exact e.frames, e.mod, e.bs, e.bsz, e.funs, e.frf, e.hok, e.bare⟩
  have hl := F.len _ _ _ _ hsp
  have r2 : Vals [V.ref a] [Value.ref a] := .cons rfl .nil
  refine wpAny_call (codeAny_mono (F.run A X.stack s H ⟨[.ref a], []⟩ [.ref a] [.ref a] _ E sb.room e0 (by
    have := hb s [.ref a] I.kIn (by simpa using hl)
    simpa using this) r2 hsp) fun r s' hq => ?_)
  cases r with
  | error e => exact hx pins σ H s e s' I hq
  | ok fl =>
    cases fl with
    | ret w =>
      obtain ⟨z, H', I', rz, ez, ex⟩ := I.after hq
      subst ez
      obtain ⟨u, rfl⟩ := rz
      exact ⟨t, u, rfl, rfl, H', I', ex⟩
    | next => exact False.elim hq
    | brk => exact False.elim hq
    | cont => exact False.elim hq
theorem under_run {CX : CXT} {C f a dx : Addr} {fd : FuncData} {ps : List Str} {R : Addr → Str → Hp → Prop} {E : XK} {A : Around} {t : Str} {fs : List (Str × V)} {b : Nat} (F : FnOk X.prog X.w X.K X.mg X.base CX n f fd ps (spRepr R)) (hb : Binds X.K fd ps []) (hx : Passes CX X E)
    (hs : PySem.W.findIn X.K (.ref C) "__repr__" = some (some (.ref f))) (hf : PySem.W.isFn X.K (.ref f) = true) (sb : Sub X n A) (I : Inv X pins σ H s) (ha : H a = some (.ins C dx fs)) (hr : R a t H) (hz : b ≤ sizeLine) :
    wpAny (model X.prog X.w) A (pyReprUnder b (.ref a)) (fun m s' => m = t ∧ ∃ H', Inv X pins σ H' s' ∧ Ext H H') X.xe s := by
  obtain ⟨mA, J, _⟩ := ins_get I.hok ha
  obtain ⟨od, J, _⟩ := J.look
  exact under_own hz sb.room.units0 I.kIn J hs hf (run_repr (dx := dx) (fs := fs) (C := C) F hb hx sb I hr)
/-- the pinned list of parts grows -/
theorem bump {P : Addr} {acc : Array Value} {c : Nat} {v : Value} (I : Inv X ((P, lstObj acc c) :: pins) σ H s) (hP : X.s_0.heap.objs.size ≤ P) (hp : ∀ p ∈ X.pn ++ pins, p.1 ≠ P) :
    ∃ c', Inv X ((P, lstObj (acc.push v) c') :: pins) σ H { s with heap := s.heap.update P (Obj.mapSeq (·.push v)) } := by
  obtain ⟨h1, h2, h3, h4, h5⟩ := I.pin (P, lstObj acc c) (List.mem_append_right _ List.mem_cons_self)
  have I0 : Inv X pins σ H s := I.pins_of fun p hp => I.pin p (List.mem_append_right _ (List.mem_cons_of_mem _ hp))
  have hc : ∀ x c', X.env.cells.lookup x = some c' → c' ≠ P := fun x c' e z => by
    obtain ⟨w, o, ho, hd⟩ := I.cell x c' e
    rw [z, h1] at ho
    cases ho
    exact h5 _ hd
  have J := I0.turned (t' := s.toks) (it := P) (h' := s.heap.update P (Obj.mapSeq (·.push v))) (fun b o hb e => (Heap.get?_update_other _ _ (Ne.symm hb)).trans e) h2 h3 (.inr hP) hc hp
  obtain ⟨c', e⟩ : ∃ c', (s.heap.update P (Obj.mapSeq (·.push v))).get? P = some (lstObj (acc.push v) c') := ⟨_, Heap.get?_update_self _ h1 rfl⟩
  refine ⟨c', J.pins_of fun p hp' => ?_⟩
  rcases List.mem_cons.mp hp' with z | z
  · rw [z]
    exact ⟨e, h2, h3, h4, fun v q => by cases q⟩
  · exact J.pin p (List.mem_append_right _ z)
theorem room_loop {k : Nat} {A : Around} {args : Args} (r : Room (k + 1) A) : Room k (A.under (.builtin "list.__repr__.loop" args)) ∧ (A.under (.builtin "list.__repr__.loop" args)).frames = A.frames := by
  have hu : (A.under (.builtin "list.__repr__.loop" args)).units = A.units + 1 := units_under_list_loop A args
  have hh : (A.under (.builtin "list.__repr__.loop" args)).handled = A.handled := rfl
  have hd : (A.under (.builtin "list.__repr__.loop" args)).depth ≤ A.depth + 1 := by
    show A.depth + (Code.builtin "list.__repr__.loop" args).weight ≤ A.depth + 1
    have hw : (Code.builtin "list.__repr__.loop" args).weight ≤ 1 := by
      simp [Code.weight, Code.isCreation, Code.isCaller, Code.frames, Code.isFrame]
      try (split <;> omega)
    omega
  have hf : (A.under (.builtin "list.__repr__.loop" args)).frames = A.frames := by
    first | rfl | (show pushEnvs _ A.frames = _; cases A.frames <;> rfl) | simp [Around.under, Code.envs, pushEnvs]
  refine ⟨⟨hh.trans r.hd, ?_, ?_⟩, hf⟩
  · have := r.dp; omega
  · have := r.un; omega
theorem loop_own {CX : CXT} {C f : Addr} {fd : FuncData} {ps : List Str} {R : Addr → Str → Hp → Prop} {E : XK} {A : Around} {l P : Addr} {as : List Addr} {ts : List Str} {Q : VK} (Fr : FnOk X.prog X.w X.K X.mg X.base CX n f fd ps (spRepr R)) (hb : Binds X.K fd ps []) (hx : Passes CX X E)
    (hs : PySem.W.findIn X.K (.ref C) "__repr__" = some (some (.ref f))) (hf : PySem.W.isFn X.K (.ref f) = true) (sb : Sub X (n + 1) A) (hR : ∀ a t H H', Ext H H' → R a t H → R a t H') (hP : X.s_0.heap.objs.size ≤ P) (hp : ∀ p ∈ X.pn ++ pins, p.1 ≠ P)
    (hl : H l = some (.lst (as.map V.ref))) (hT : ∀ (i : Nat) (a : Addr), as[i]? = some a → ∃ t dx fs, ts[i]? = some t ∧ H a = some (.ins C dx fs) ∧ R a t H) (hlen : ts.length = as.length) (hsz : (listText ts).length ≤ sizeLine) (hQ : ∀ H', Ext H H' → Q (.str (listText ts)) H') :
    ∀ (k i : Nat) (s : Shared) (H' : Hp) (acc : Array Value) (c : Nat) (done : List (Str × Tok)), as.length - i = k → i ≤ as.length → Ext H H' → Inv X ((P, lstObj acc c) :: pins) σ H' s → acc.toList = strValues done → done.map (·.1) = ts.take i →
      codeAny (model X.prog X.w) A (.builtin "list.__repr__.loop" ⟨[.ref l, rawInt i, .ref P, rawInt ((piled (ts.take i) : Nat) : Int)], []⟩) (wants (fun v s' => ∃ x u, v = .str x u ∧ EP X pins σ Q v s') X.xe) s := by
  have hp3 := piled_le_listText ts
  have hL := textFrom_len ts 0 "["
  have hX : (listText ts).length = (textFrom 0 "[" ts).length + 1 := by
    show (textFrom 0 "[" ts ++ "]").length = _
    rw [strLen_append]
    rfl
  have hz2 : ∀ t ∈ ts, t.length ≤ sizeLine := fun t ht => by
    have := hL.2.1 t ht
    omega
  have hz1 : as.length ≤ sizeLine := by
    have h1 := hL.1
    rw [if_neg (Nat.lt_irrefl 0)] at h1
    omega
  intro k
  induction k with
  | zero =>
    intro i s H' acc c done hk hi he I hacc hdone
    have hin : i = as.length := by omega
    obtain ⟨_, its, z, r, e⟩ := I.hok l _ (he _ _ hl)
    have hlenI : its.length = as.length := by rw [← r.length, List.length_map]
    have pP := (I.pin (P, lstObj acc c) (List.mem_append_right _ List.mem_cons_self)).1
    refine codeAny_builtin PySem.F.entry_list_repr_loop ?_
    show wpAny _ _ (Builtin.«list.__repr__.loop» ⟨[.ref l, .int i 0, .ref P, .int ((piled (ts.take i) : Nat) : Int) 0], []⟩) _ _ s
    rw [repr_loop_tree]
    refine wpAny_bind (wpAny_listItems e rfl ?_)
    have hno : its.toArray[(i : Int).toNat]? = none := by
      rw [Int.toNat_natCast]
      simp [hin, hlenI]
    simp only [hno]
    unfold reprEnd
    refine wpAny_bind (wpAny_listItems pP rfl ?_)
    rw [hacc, repr_fold]
    refine wpAny_bind (wpAny_pure ?_)
    have hall : done.map (·.1) = ts := by rw [hdone, hin, ← hlen, List.take_length]
    rw [hall]
    refine wpAny_bind (wpAny_mkStr (wpAny_pure ?_) hsz)
    have I1 : Inv X pins σ H' s := I.pins_of fun p hp => I.pin p (List.mem_append_right _ (List.mem_cons_of_mem _ hp))
    exact ⟨_, _, rfl, .str (listText ts), H', I1.tok _, ⟨_, rfl⟩, hQ H' he⟩
  | succ k ih =>
    intro i s H' acc c done hk hi he I hacc hdone
    have hlt : i < as.length := by omega
    obtain ⟨t, dx, fs, ht, ha, hrt⟩ := hT i as[i] (List.getElem?_eq_getElem hlt)
    obtain ⟨_, its, z, r, e⟩ := I.hok l _ (he _ _ hl)
    obtain ⟨u, hu, ru⟩ := r.get (i := i) (x := V.ref as[i]) (by rw [List.getElem?_map, List.getElem?_eq_getElem hlt]; rfl)
    cases ru
    have hp1 := piled_take_succ ht
    have hp2 := piled_take_le ts (i + 1)
    refine codeAny_builtin PySem.F.entry_list_repr_loop ?_
    show wpAny _ _ (Builtin.«list.__repr__.loop» ⟨[.ref l, .int i 0, .ref P, .int ((piled (ts.take i) : Nat) : Int) 0], []⟩) _ _ s
    rw [repr_loop_tree]
    refine wpAny_bind (wpAny_listItems e rfl ?_)
    have hso : its.toArray[(i : Int).toNat]? = some (.ref as[i]) := by
      rw [Int.toNat_natCast]
      simpa using hu
    simp only [hso]
    rw [Int.toNat_natCast]
    obtain ⟨rm, fr⟩ := room_loop (args := ⟨[.ref l, rawInt i, .ref P, rawInt ((piled (ts.take i) : Nat) : Int)], []⟩) sb.room
    refine wpAny_bind (wpAny_holding (wpAny_mono (under_run Fr hb hx hs hf ⟨rm, fr.trans sb.fr⟩ I (he _ _ ha) (hR _ _ _ _ he hrt) (by omega)) (fun m s2 hm => ?_) fun _ _ q => q))
    obtain ⟨rfl, H2, I2, e2⟩ := hm
    refine wpAny_bind (wpAny_mkStr ?_ (hz2 m (List.mem_of_getElem? ht)))
    have I3 := I2.tok (s2.toks + 1)
    have pP := (I3.pin (P, lstObj acc c) (List.mem_append_right _ List.mem_cons_self)).1
    refine wpAny_bind ?_
    show wpAny _ _ (updateSeq P _) _ _ _
    have hasz : acc.size ≤ sizeLine := by
      have n1 : acc.toList.length = acc.size := by simp
      have n2 : (strValues done).length = done.length := by simp [strValues]
      have n3 : done.length = (ts.take i).length := by rw [← hdone, List.length_map]
      have n4 : (ts.take i).length ≤ i := by rw [List.length_take]; omega
      rw [hacc] at n1
      omega
    refine wpAny_updateSeq pP rfl (wpAny_pure ⟨PySem.F.quiet_list_repr_loop _, ?_⟩) hasz
    obtain ⟨c', I4⟩ := bump (v := .str m s2.toks) I3 hP hp
    have n1 : ((i : Int) + 1) = ((i + 1 : Nat) : Int) := by omega
    have n2 : piled (ts.take i) + (m.length + 2) = piled (ts.take (i + 1)) := by omega
    rw [n1, n2]
    exact ih (i + 1) _ H2 (acc.push (.str m s2.toks)) c' (done ++ [(m, s2.toks)]) (by omega) hlt (he.trans e2) I4 (by simp [hacc, strValues]) (by simp [List.take_add_one, ht, hdone])
/-- repr of a list of instances -/
def rReprL (C : Addr) (R : Addr → Str → Hp → Prop) : List V → Hp → VK → Prop := fun xs H Q => ∃ (l : Addr) (as : List Addr) (ts : List Str), xs = [.ref l] ∧ H l = some (.lst (as.map V.ref)) ∧ (∀ (i : Nat) (a : Addr), as[i]? = some a → ∃ t dx fs, ts[i]? = some t ∧ H a = some (.ins C dx fs) ∧ R a t H) ∧
  ts.length = as.length ∧ (listText ts).length ≤ sizeLine ∧ ∀ H', Ext H H' → Q (.str (listText ts)) H'
theorem call_reprL {CX : CXT} {C f : Addr} {fd : FuncData} {ps : List Str} {R : Addr → Str → Hp → Prop} {E : XK} (Fr : FnOk X.prog X.w X.K X.mg X.base CX n f fd ps (spRepr R)) (hb : Binds X.K fd ps []) (hx : Passes CX X E)
    (hs : PySem.W.findIn X.K (.ref C) "__repr__" = some (some (.ref f))) (hf : PySem.W.isFn X.K (.ref f) = true) (hr : Room (n + 2) X.A) (hg : X.A.guards = some []) (hR : ∀ a t H H', Ext H H' → R a t H → R a t H') : CallR X (.builtin "repr") (rReprL C R) := by
  intro pins s σ H xs us Q I r h
  obtain ⟨l, as, ts, rfl, hl, hT, hlen, hsz, hQ⟩ := h
  cases r with
  | cons rx rr =>
    cases rr
    cases rx
    obtain ⟨_, its, z, rv, e⟩ := I.hok l _ hl
    have hlI : its.length = as.length := by rw [← rv.length, List.length_map]
    have ty : s.TypeIs (.ref l) "list" := ⟨_, e, rfl⟩
    refine call_repr_slot (T := "list") (idr := "list.__repr__") (by have := hr.un; omega) ty PySem.F.slot_list_repr.toG ?_
    cases its with
    | nil =>
      have ha : as = [] := List.length_eq_zero_iff.mp hlI.symm
      have htn : ts = [] := List.length_eq_zero_iff.mp (by rw [hlen, ha]; rfl)
      subst ha htn
      refine call_list_repr_empty ty e rfl ?_
      refine ⟨_, _, rfl, .str (listText []), H, I.tok _, ⟨_, by rw [listText_nil]⟩, hQ H Ext.rfl'⟩
    | cons y ys =>
      refine GQ.call_here PySem.F.slot_list_repr ty PySem.F.entry_list_repr (PySem.F.args_list_repr_1 _) ?_
      show wpAny _ _ (Builtin.listReprAt 0 ⟨[.ref l], []⟩) _ _ s
      refine wpAny_list_repr_head (g := []) hg (fun v rest kw hm => by cases hm) e rfl ?_
      refine wpAny_bind (m := newList []) (wpAny_newObj_type ?_)
      have hP : (s.heap.push { cls := .type "list", data := .seq #[] }).get? s.heap.objs.size = some { cls := .type "list", data := .seq #[] } := Heap.get?_push_size _ rfl
      have I1 := ClX.pin_new (t' := s.toks) I (fun b u q => Heap.get?_push_of_some _ q) (Nat.le_refl _) hP (fun v q => by cases q)
      refine wpAny_pure ⟨PySem.F.quiet_list_repr_loop _, ?_⟩
      have hr1 : Room (n + 1) X.A.in1 := hr.in1
      exact loop_own (A := X.A.in1) Fr hb hx hs hf ⟨hr1, rfl⟩ hR I.sz (fun p hp => Nat.ne_of_lt (Heap.lt_size (I.pin p hp).1)) hl hT hlen hsz hQ _ 0 _ H #[] _ [] rfl (Nat.zero_le _) Ext.rfl' I1 rfl (by simp)
end
end Rp
/-! A law's end where the run at the very top is wanted: nothing is under way above the law. -/
namespace Tp
open PySem PySem.Spec PyProof.Rows L2
section
variable {P : Program} {w : World} {K : PySem.W.Frag} {mg mb : Str → Option Value} {fa a : Addr} {s₁ : Shared} {vs : List Value} {ns : List Int} {H : Hp}
/-- where no entry of a dict is tracked -/
theorem env_top (KX : K.In s₁.heap) (hns : s₁.heap.Ns mainGlobals mg) (hb : s₁.heap.Ns builtinsNs mb) (hbb : ∀ x : Str, x ≠ "__name__" → mb x = bootBuiltins x) (hlim : s₁.heap.NoLimit) (hg : s₁.gens = #[])
    (ha : s₁.heap.get? a = some { cls := .type "list", data := .seq vs.toArray }) (hok : HOk P w H s₁.heap) (only : ∀ b, H b ≠ none → b = a) (hK : H a ≠ none → K.lookup a = none) :
    K.In (hidT s₁.heap H) ∧ (hidT s₁.heap H).Ns mainGlobals mg ∧ Env0 P w K mg (hidT s₁.heap H) callerA [] s₁ H := by
  have notA : ∀ {b : Addr}, b ≠ a → H b = none := fun {b} ne => by
    cases q : H b with
    | none => rfl
    | some u => exact absurd (only b (by rw [q]; exact fun z => nomatch z)) ne
  have dct : ∀ {b : Addr} {m : Str → Option Value}, s₁.heap.Ns b m → (hidT s₁.heap H).Ns b m := fun {b m} n => by
    obtain ⟨o, es, ep, e, d, r⟩ := n
    refine ⟨o, es, ep, hidT_get e (notA fun z => ?_), d, r⟩
    subst z
    rw [ha] at e
    cases e
    cases d
  have inK : K.In (hidT s₁.heap H) := fun b o e => hidT_get (KX b o e) (by
    by_cases z : b = a
    · subst z
      cases q : H b with
      | none => rfl
      | some u =>
        have := hK (by rw [q]; exact fun z => nomatch z)
        rw [this] at e
        cases e
    · exact notA z)
  obtain ⟨mc, l1, l2⟩ := hlim
  exact ⟨inK, dct hns, ⟨rfl, ⟨inK, dct hns, ⟨mb, dct hb, hbb⟩, ⟨mc, dct l1, l2⟩⟩, fun b o e => of_hidT e, Nat.le_of_eq (hidT_size _ _), trivial, fun b z => (by cases z), hok, .of_eq hg⟩⟩
/-- the answer True -/
theorem end_top (only : Only H) (hok : HOk P w H s₁.heap) {r : Result} {s' : Shared} (h : CR C8.CX0 [] P w H s₁ (fun v _ => v = .bl true) (fun _ _ _ => False) r s') :
    r = .ok (.ret (.bool true)) ∧ OldK s₁.heap s'.heap ∧ s'.os = s₁.os ∧ AllBare s'.gens := by
  cases r with
  | error e => exact (show False from h).elim
  | ok fl =>
    cases fl with
    | ret u =>
      obtain ⟨v, H', h1, h2, un, hok', rv, hv⟩ := h
      have hv : v = .bl true := hv
      subst hv
      cases rv
      refine ⟨rfl, OldK.of_keep fun b o e => ?_, h1, h2⟩
      rcases only b with q | ⟨ob, xs, q⟩
      · exact un.keep b o e q (fun z => by cases z) (fun z => by cases z)
      · obtain ⟨g1, _⟩ := hok b _ q
        obtain ⟨g2, _⟩ := hok' b _ (un.frzs b ob _ q)
        rw [e] at g1
        cases g1
        exact g2
    | next => exact (show False from h).elim
    | brk => exact (show False from h).elim
    | cont => exact (show False from h).elim
/-- the run of the law's def at the top, its answer True -/
def TopOk (P : Program) (w : World) (K : PySem.W.Frag) (mg : Str → Option Value) (fa : Addr) (n : Nat) : Prop :=
  ∀ (base : Heap) (s : Shared) (H : Hp) (a : Addr) (ns : List Int), ns.length ≤ n → K.In base → base.Ns mainGlobals mg → Env0 P w K mg base callerA [] s H → SqL K H a (ns.map V.int) →
    codeAny (model P w) callerA (.call (.ref fa) ⟨[.ref a], []⟩) (CR C8.CX0 [] P w H s (fun v _ => v = .bl true) fun _ _ _ => False) s
theorem top_call {n : Nat} (KX : K.In s₁.heap) (hns : s₁.heap.Ns mainGlobals mg) (hb : s₁.heap.Ns builtinsNs mb) (hbb : ∀ x : Str, x ≠ "__name__" → mb x = bootBuiltins x) (hlim : s₁.heap.NoLimit) (hg : s₁.gens = #[])
    (ha : s₁.heap.get? a = some { cls := .type "list", data := .seq vs.toArray }) (hi : IntsAre vs ns) (hl : ns.length ≤ n) (hn : n ≤ sizeLine) (F : TopOk P w K mg fa n) :
    codeAny (model P w) callerA (.call (.ref fa) ⟨[.ref a], []⟩) (fun r s' => r = .ok (.ret (.bool true)) ∧ OldK s₁.heap s'.heap ∧ s'.os = s₁.os ∧ AllBare s'.gens) s₁ := by
  have rv := vals_ints hi
  have sz : vs.length ≤ sizeLine := by rw [hi.length]; omega
  cases hk : K.lookup a with
  | some o =>
    have e := KX a o hk
    rw [ha] at e
    cases e
    have ok0 : HOk P w (fun _ => none) s₁.heap := fun b u z => nomatch (show (none : Option HO) = some u from z)
    obtain ⟨e1, e2, e3⟩ := env_top KX hns hb hbb hlim hg ha ok0 (fun b z => absurd rfl z) (fun z => absurd rfl z)
    refine codeAny_mono (F _ s₁ _ a ns hl e1 e2 e3 (.inr ⟨_, vs.toArray, _, hk, rfl, rfl, rfl, by rw [List.size_toArray]; exact sz, by simpa using rv⟩)) fun r s' h => end_top (fun _ => .inl rfl) ok0 h
  | none =>
    generalize hH : (fun b : Addr => if b = a then some (HO.frz { cls := .type "list", data := .seq vs.toArray } (.lst (ns.map V.int))) else none) = Hf
    have at_ : Hf a = some (.frz { cls := .type "list", data := .seq vs.toArray } (.lst (ns.map V.int))) := by rw [← hH]; exact if_pos rfl
    have off : ∀ b, b ≠ a → Hf b = none := fun b ne => by rw [← hH]; exact if_neg ne
    have ok1 : HOk P w Hf s₁.heap := fun b u z => by
      by_cases q : b = a
      · subst q
        rw [at_] at z
        cases z
        exact ⟨ha, by rw [List.length_map]; omega, vs, _, rv, ha⟩
      · rw [off b q] at z
        cases z
    obtain ⟨e1, e2, e3⟩ := env_top KX hns hb hbb hlim hg ha ok1 (fun b z => Classical.byContradiction fun q => z (off b q)) (fun _ => hk)
    refine codeAny_mono (F _ s₁ _ a ns hl e1 e2 e3 (.inl (.inr ⟨_, at_⟩))) fun r s' h => end_top (fun b => ?_) ok1 h
    by_cases q : b = a
    · subst q
      exact .inr ⟨_, _, at_⟩
    · exact .inl (off b q)
end
theorem walk_top {l : PySem.W.OpenLaw} {n : Nat} {q : Program} {loose : List Str} {XP : (Str → Option Value) → Heap → Prop} {YP : World → Heap → Prop} {d : DefRec} {K : Params → PySem.W.Frag}
    (hn : l.most = some n) (hn2 : n ≤ sizeLine) (hdf : d.params.defaults = []) (hY : ∀ (w : World) (h : Heap), YP w h → (K w.params).In h)
    (F : ∀ (w : World) (mg : Str → Option Value) (fa : Addr) (h : Heap), (K w.params).In h → h.Ns mainGlobals mg → mg d.name = some (.ref fa) → TopOk l.prog w (K w.params) mg fa n) :
    PySem.W.WalkO q loose XP YP l.row.toRowW d [] (fun f vs => PySem.call f vs) := by
  refine Att.attach_call hn hdf fun w s₀ s₁ mg mb fa o pm cd doc a vs ns G Y ho hd hcd hmg hobj hints hlen hg => ?_
  exact top_call (hY w _ Y) G.T.g G.T.b G.T.builtins G.T.nolimit hg hobj hints hlen hn2 (F w mg fa _ (hY w _ Y) G.T.g hmg)
end Tp
namespace Rf
open PySem L2
def top (i : Nat) : Stmt := PySem.Challenge.pw_devicewindows_k04_segments_by_greed.main.body.getD i (.Pass ⟨0, 0, 0, 0⟩)
abbrev sWhole : Stmt := top 6
abbrev sInteger : Stmt := top 5
abbrev sInit : Stmt := inClass (top 9) 2
abbrev sBetween : Stmt := inClass (top 9) 4
abbrev sEnd : Stmt := inClass (top 9) 5
abbrev sEq : Stmt := inClass (top 9) 6
abbrev sWords : Stmt := inClass (top 9) 11
abbrev sRepr : Stmt := inClass (top 9) 10
/-! ### a run -/
theorem n1 : ¬ (("first" : Str) = "many") := by decide +kernel
def rf (f m : Int) : List (Str × V) := putF "many" (.int m) (putF "first" (.int f) [])
theorem rf_f (f m : Int) : (rf f m).lookup ("first" : Str) = some (.int f) := by
  unfold rf
  rw [lookup_putF, if_neg n1, lookup_putF, if_pos rfl]
theorem rf_m (f m : Int) : (rf f m).lookup ("many" : Str) = some (.int m) := by
  unfold rf
  rw [lookup_putF, if_pos rfl]
theorem rf_no (f m : Int) {x : Str} (h1 : ¬ x = "many") (h2 : ¬ x = "first") : (rf f m).lookup x = none := by
  unfold rf
  rw [lookup_putF, if_neg h1, lookup_putF, if_neg h2]
  all_goals rfl
def RunAt (C : Addr) (H : Hp) (p : Addr) (f m : Int) : Prop := ∃ dx, H p = some (.ins C dx (rf f m))
abbrev Most : Int := 10 ^ 12
/-- what the walk asks of the class and the names -/
structure TR (K : PySem.W.Frag) (mg : Str → Option Value) (C : Addr) (mc : Value) (tM : Tok) : Prop where
  cl : Cls K C
  nF : NoAttr K C "first"
  nM : NoAttr K C "many"
  mgC : mg "Run" = some (.ref C)
  most : mg "_MOST" = some (.int (10 ^ 12) tM)
  isi : mg "isinstance" = none
  int : mg "int" = none
  bool : mg "bool" = none
  range : mg "range" = none
  rd : ClX.CRead K C mc
/-- integer(x): of an int; of a bool; of what is neither -/
def spInteger (K : PySem.W.Frag) : Sp := fun vs H Q _ => ∃ x : V, vs = [x] ∧ ((∃ v, x = .int v ∧ Q (.bl true) H) ∨ (∃ b, x = .bl b ∧ Q (.bl false) H) ∨ ∃ t, TyX K H x t ∧ PySem.W.kitOne K t (.type "int") = some false ∧ Q (.bl false) H)
/-- whole(x, least, most): of an int; of a bool; of what is neither -/
def spWhole (K : PySem.W.Frag) : Sp := fun vs H Q _ => ∃ (x : V) (lo hi : Int), vs = [x, .int lo, .int hi] ∧
  ((∃ v, x = .int v ∧ Q (.bl (decide (lo ≤ v ∧ v ≤ hi))) H) ∨ (∃ b, x = .bl b ∧ Q (.bl false) H) ∨ ∃ t, TyX K H x t ∧ PySem.W.kitOne K t (.type "int") = some false ∧ Q (.bl false) H)
/-- __init__, of numbers within the bounds -/
def spInit (C : Addr) : Sp := fun vs H Q _ => ∃ (p dx : Addr) (f m : Int), vs = [.ref p, .int f, .int m] ∧ H p = some (.ins C dx []) ∧ 0 ≤ f ∧ f ≤ Most ∧ 1 ≤ m ∧ m ≤ Most ∧ Q .non (upd H p (.ins C dx (rf f m)))
def spBetween (C : Addr) : Sp := fun vs H Q _ => ∃ (f e : Int), vs = [.ref C, .int f, .int e] ∧ 0 ≤ f ∧ f ≤ Most ∧ 1 ≤ e - f ∧ e - f ≤ Most ∧ ∀ p dx, H p = none → H dx = none → dx ≠ p → Q (.ref p) (upd (upd H dx (.own p)) p (.ins C dx (rf f (e - f))))
def spEnd (C : Addr) : Sp := fun vs H Q _ => ∃ (p : Addr) (f m : Int), vs = [.ref p] ∧ RunAt C H p f m ∧ Q (.int (f + m)) H
structure Def (K : PySem.W.Frag) (mg : Str → Option Value) (x : Str) (f : Addr) (fd : FuncData) (ps : List Str) : Prop where
  at_ : mg x = some (.ref f)
  kp : PySem.W.keepIn K (.ref f) = true
  bd : Binds K fd ps []
section
variable {P : Program} {w : World} {K : PySem.W.Frag} {mg : Str → Option Value} {base : Heap} {C : Addr} {mc : Value} {tM : Tok}
theorem scInteger : FnScope ["value"] ["value"] (defScope sInteger) := ⟨rfl, rfl, rfl, by decide +kernel, rfl, by decide +kernel, by decide +kernel⟩
theorem ok_integer {f : Addr} {fd : FuncData} (F : Fun K "integer" "integer" sInteger f fd) (T : TR K mg C mc tM) : FnOk P w K mg base CX0 1 f fd ["value"] (spInteger K) := by
  refine F.ok scInteger (fun vs H Q E h => ?_) (fun cdv A outer s H vs Q E hr h => ?_)
  · obtain ⟨x, rfl, _⟩ := h
    rfl
  · obtain ⟨x, rfl, h⟩ := h
    refine ⟨_, pss_one (ps_ret (pe_and (pe_callB call_isi (by rfl) T.isi (by decide +kernel) (pa_cons (pv 0) (pa_cons (pe_bltn (v := .ty "int") (by rfl) T.int (by decide +kernel) rfl) pa_nil)))
      (pe_one (pe_not (pe_callB call_isi (by rfl) T.isi (by decide +kernel) (pa_cons (pv 0) (pa_cons (pe_bltn (v := .ty "bool") (by rfl) T.bool (by decide +kernel) rfl) pa_nil))))))), ?_⟩
    rcases h with ⟨v, rfl, q⟩ | ⟨b, rfl, q⟩ | ⟨t, ty, hk, q⟩
    · refine ⟨_, rfl, _, _, .type "int", .type "int", true, rfl, .ty "int", .base (.int v), kit_ty (by decide +kernel), true, rfl, iteT ?_⟩
      exact ⟨_, rfl, _, _, .type "int", .type "bool", false, rfl, .ty "bool", .base (.int v), kit_ty (by decide +kernel), false, rfl, q⟩
    · refine ⟨_, rfl, _, _, .type "bool", .type "int", true, rfl, .ty "int", .base (.bl b), kit_ty (by decide +kernel), true, rfl, iteT ?_⟩
      exact ⟨_, rfl, _, _, .type "bool", .type "bool", true, rfl, .ty "bool", .base (.bl b), kit_ty (by decide +kernel), true, rfl, q⟩
    · exact ⟨_, rfl, _, _, t, .type "int", false, rfl, .ty "int", ty, hk, false, rfl, iteF q⟩
theorem scWhole : FnScope ["value", "least", "most"] ["value", "least", "most"] (defScope sWhole) := ⟨rfl, rfl, rfl, by decide +kernel, rfl, by decide +kernel, by decide +kernel⟩
theorem ok_whole {f fN : Addr} {fd fdN : FuncData} (F : Fun K "whole" "whole" sWhole f fd) (GN : FnOk P w K mg base CX0 1 fN fdN ["value"] (spInteger K)) (DN : Def K mg "integer" fN fdN ["value"]) : FnOk P w K mg base CX0 2 f fd ["value", "least", "most"] (spWhole K) := by
  refine F.ok scWhole (fun vs H Q E h => ?_) (fun cdv A outer s H vs Q E hr h => ?_)
  · obtain ⟨x, lo, hi, rfl, _⟩ := h
    rfl
  · obtain ⟨x, lo, hi, rfl, h⟩ := h
    refine ⟨_, pss_one (ps_ret (pe_and (pe_call GN hr (by rfl) DN.at_ DN.kp DN.bd .nil pass0 (pa_cons (pv 0) pa_nil)) (pe_one (pe_chain op_le op_le (pv 1) (pv 0) (pv 2))))), ?_⟩
    refine ⟨_, rfl, x, rfl, ?_⟩
    rcases h with ⟨v, rfl, q⟩ | ⟨b, rfl, q⟩ | ⟨t, ty, hk, q⟩
    · refine .inl ⟨v, rfl, true, rfl, iteT ?_⟩
      refine ⟨_, rfl, _, rfl, _, _, rfl, rfl, _, rfl, ite2 (fun h1 => ?_) fun h1 => ?_⟩
      · refine ⟨_, rfl, _, _, rfl, rfl, ?_⟩
        have h1' : lo ≤ v := of_decide_eq_true h1
        have e : decide (lo ≤ v ∧ v ≤ hi) = decide (v ≤ hi) := by
          by_cases z : v ≤ hi <;> simp [z, h1']
        rw [e] at q
        exact q
      · have h1' : ¬ lo ≤ v := of_decide_eq_false (by simpa using h1)
        have e : decide (lo ≤ v ∧ v ≤ hi) = false := decide_eq_false fun z => h1' z.1
        rw [e] at q
        exact q
    · exact .inr (.inl ⟨b, rfl, false, rfl, iteF q⟩)
    · exact .inr (.inr ⟨t, ty, hk, false, rfl, iteF q⟩)
theorem scInit : FnScope ["self", "first", "many"] ["self", "first", "many"] (defScope sInit) := ⟨rfl, rfl, rfl, by decide +kernel, rfl, by decide +kernel, by decide +kernel⟩
theorem ok_init {f fW : Addr} {fd fdW : FuncData} (F : Fun K "__init__" "Run.__init__" sInit f fd) (T : TR K mg C mc tM) (GW : FnOk P w K mg base CX0 2 fW fdW ["value", "least", "most"] (spWhole K)) (DW : Def K mg "whole" fW fdW ["value", "least", "most"]) :
    FnOk P w K mg base CX0 3 f fd ["self", "first", "many"] (spInit C) := by
  refine F.ok scInit (fun vs H Q E h => ?_) (fun cdv A outer s H vs Q E hr h => ?_)
  · obtain ⟨p, dx, f, m, rfl, _⟩ := h
    rfl
  · obtain ⟨p, dx, f, m, rfl, hp, f0, f1, m0, m1, k⟩ := h
    refine ⟨_, pss_cons (ps_if (PW.pt (pw_or (pt_not (pt_val (pe_call GW hr (by rfl) DW.at_ DW.kp DW.bd .nil pass0 (pa_cons (pv 1) (pa_cons pe_int (pa_cons (pe_glob (v := .int (10 ^ 12)) rfl T.most ⟨_, rfl⟩) pa_nil))))))
        (pw_or1 (pt_not (pt_val (pe_call GW hr (by rfl) DW.at_ DW.kp DW.bd .nil pass0 (pa_cons (pv 2) (pa_cons pe_int (pa_cons (pe_glob (v := .int (10 ^ 12)) rfl T.most ⟨_, rfl⟩) pa_nil))))))))) (pss_one ps_never) pss_nil)
      (pss_cons (ps_fld (pv 0) (pv 1) rfl) (pss_one (ps_fld (pv 0) (pv 2) rfl))), ?_⟩
    refine ⟨_, rfl, _, _, _, rfl, .inl ⟨_, rfl, _, rfl, ?_⟩⟩
    have e1 : decide (0 ≤ f ∧ f ≤ 10 ^ 12) = true := decide_eq_true ⟨f0, f1⟩
    have e2 : decide (1 ≤ m ∧ m ≤ 10 ^ 12) = true := decide_eq_true ⟨m0, m1⟩
    rw [e1]
    refine iteF ⟨_, rfl, _, _, _, rfl, .inl ⟨_, rfl, _, rfl, ?_⟩⟩
    rw [e2]
    refine iteF ?_
    refine ⟨_, rfl, _, rfl, p, C, dx, [], rfl, hp, T.cl, T.nF, (by show 0 < 1000; decide), _, rfl, _, rfl, p, C, dx, _, rfl, upd_same, T.cl, T.nM, (by show 1 < 1000; decide), ?_⟩
    rw [upd_upd]
    exact k
theorem scBetween : FnScope ["cls", "first", "end"] ["cls", "first", "end"] (defScope sBetween) := ⟨rfl, rfl, rfl, by decide +kernel, rfl, by decide +kernel, by decide +kernel⟩
theorem ok_between {f fW fI : Addr} {fd fdW fdI : FuncData} (F : Fun K "between" "Run.between" sBetween f fd) (T : TR K mg C mc tM) (GW : FnOk P w K mg base CX0 2 fW fdW ["value", "least", "most"] (spWhole K)) (DW : Def K mg "whole" fW fdW ["value", "least", "most"])
    (M : Mk K C fI) (GI : FnOk P w K mg base CX0 3 fI fdI ["self", "first", "many"] (spInit C)) (bI : Binds K fdI ["self", "first", "many"] []) : FnOk P w K mg base CX0 5 f fd ["cls", "first", "end"] (spBetween C) := by
  refine F.ok scBetween (fun vs H Q E h => ?_) (fun cdv A outer s H vs Q E hr h => ?_)
  · obtain ⟨f, e, rfl, _⟩ := h
    rfl
  · obtain ⟨f, e, rfl, f0, f1, m0, m1, k⟩ := h
    have hr1 : Room 2 _ := hr.mono (by decide)
    refine ⟨_, pss_cons (ps_if (PW.pt (pw_or (pt_not (pt_val (pe_call GW hr1 (by rfl) DW.at_ DW.kp DW.bd .nil pass0 (pa_cons (pv 1) (pa_cons pe_int (pa_cons (pe_glob (v := .int (10 ^ 12)) rfl T.most ⟨_, rfl⟩) pa_nil))))))
        (pw_or1 (pt_not (pt_val (pe_call GW hr1 (by rfl) DW.at_ DW.kp DW.bd .nil pass0 (pa_cons (pv 2) (pa_cons pe_int (pa_cons (pe_op op_mul pe_int (pe_glob (v := .int (10 ^ 12)) rfl T.most ⟨_, rfl⟩)) pa_nil))))))))) (pss_one ps_never) pss_nil)
      (pss_one (ps_ret (Ow.pe_makeL (i := 0) M GI hr rfl (Or.inl rfl) bI .nil pass0 (pa_cons (pv 1) (pa_cons (pe_op op_sub (pv 2) (pv 1)) pa_nil))))), ?_⟩
    refine ⟨_, rfl, _, _, _, rfl, .inl ⟨_, rfl, _, rfl, ?_⟩⟩
    have e1 : decide (0 ≤ f ∧ f ≤ 10 ^ 12) = true := decide_eq_true ⟨f0, f1⟩
    have e2 : decide (1 ≤ e ∧ e ≤ 2 * 10 ^ 12) = true := decide_eq_true (by unfold Most at *; omega)
    rw [e1]
    refine iteF ⟨_, rfl, _, _, rfl, rfl, .inl ⟨by decide, by decide⟩, _, _, _, rfl, .inl ⟨_, rfl, _, rfl, ?_⟩⟩
    rw [e2]
    refine iteF ⟨rfl, _, rfl, _, rfl, _, rfl, _, _, rfl, rfl, fun p dx hp hdx ne => ?_⟩
    refine ⟨p, dx, f, e - f, rfl, upd_same, f0, f1, m0, m1, rfl, ?_⟩
    rw [upd_upd]
    exact k p dx hp hdx ne
theorem scEnd : FnScope ["self"] ["self"] (defScope sEnd) := ⟨rfl, rfl, rfl, by decide +kernel, rfl, by decide +kernel, by decide +kernel⟩
theorem ok_end {f : Addr} {fd : FuncData} (F : Fun K "end" "Run.end" sEnd f fd) (T : TR K mg C mc tM) : FnOk P w K mg base CX0 2 f fd ["self"] (spEnd C) := by
  refine F.ok scEnd (fun vs H Q E h => ?_) (fun cdv A outer s H vs Q E hr h => ?_)
  · obtain ⟨p, f, m, rfl, _⟩ := h
    rfl
  · obtain ⟨p, f, m, rfl, ⟨dx, hp⟩, k⟩ := h
    refine ⟨_, pss_one (ps_ret (pe_op op_add (pe_fld (pv 0) rfl) (pe_fld (pv 0) rfl))), ?_⟩
    exact ⟨_, rfl, p, C, dx, _, _, rfl, hp, T.cl, T.nF, rf_f _ _, _, rfl, p, C, dx, _, _, rfl, hp, T.cl, T.nM, rf_m _ _, _, _, rfl, rfl, k⟩
end
end Rf
namespace Rf
open PySem L2
theorem gfor_range {lo : Int} {n : Nat} {g : TG} {tb : TGn} {D : GEnds} {ys : List V} {σ : L2.St} {H : Hp} (Pv : Nat → List V → L2.St → Hp → Prop) (h0 : Pv 0 ys σ H)
    (hs : ∀ i ys σ H, i < n → Pv i ys σ H → g (.int (lo + i)) σ H fun σ2 H2 => tb { D with nx := Pv (i + 1), ct := Pv (i + 1), bk := D.nx } ys σ2 H2) (hd : ∀ ys σ H, Pv n ys σ H → D.nx ys σ H) :
    ∃ W : Nat → Nat → List V → L2.St → Hp → Prop, (∃ m, W 0 m ys σ H) ∧ ∀ i m ys σ H, W i m ys σ H →
      ((Itr lo n).stop i H ∧ D.nx ys σ H) ∨ ((Itr lo n).go i H ∧ ∃ N : List V → L2.St → Hp → Prop, (∀ ys' σ' H', N ys' σ' H' → ∃ m', m' < m ∧ W (i + 1) m' ys' σ' H') ∧ ∀ x H', (Itr lo n).yld i H x H' → g x σ H' fun σ2 H2 => tb { D with nx := N, ct := N, bk := D.nx } ys σ2 H2) := by
  refine ⟨fun i m ys σ H => m = n - i ∧ i ≤ n ∧ Pv i ys σ H, ⟨n, by simp, Nat.zero_le _, h0⟩, ?_⟩
  rintro i m ys σ H ⟨rfl, hi, p⟩
  by_cases hlt : i < n
  · refine .inr ⟨hlt, Pv (i + 1), fun ys' σ' H' p' => ⟨n - (i + 1), by omega, rfl, hlt, p'⟩, fun x H' y => ?_⟩
    obtain ⟨e, y⟩ := y
    subst e
    subst y
    exact hs i ys σ H' hlt p
  · have e : i = n := by omega
    subst e
    exact .inl ⟨Nat.le_refl _, hd ys σ H p⟩
def wordsI (f : Int) (n : Nat) : List Int := (List.range n).map fun (j : Nat) => f + (j : Int)
theorem wordsI_succ (f : Int) (n : Nat) : (wordsI f (n + 1)).map V.int = (wordsI f n).map V.int ++ [V.int (f + (n : Int))] := by
  unfold wordsI
  rw [List.range_succ, List.map_append, List.map_append]
  rfl
theorem wordsI_len (f : Int) (n : Nat) : (wordsI f n).length = n := by unfold wordsI; rw [List.length_map, List.length_range]
/-- words(): a generator; all that it hands out, if it is drained -/
def spWords (C : Addr) : SpG := fun vs H cont _ => ∃ (p : Addr) (f m : Int), vs = [.ref p] ∧ RunAt C H p f m ∧ 0 ≤ f ∧ f ≤ 2 ^ 60 ∧ 0 ≤ m ∧ m ≤ 100000 ∧ cont ((wordsI f m.toNat).map V.int) H
section
variable {P : Program} {w : World} {K : PySem.W.Frag} {mg : Str → Option Value} {base : Heap} {C : Addr} {mc : Value} {tM : Tok}
theorem scWords : GScope ["self", "word"] ["self"] (defScope sWords) := ⟨rfl, rfl, rfl, by decide +kernel, rfl, by decide +kernel, by decide +kernel⟩
theorem ok_words {f fE pp : Addr} {fd fdE : FuncData} (F : Fun K "words" "Run.words" sWords f fd) (T : TR K mg C mc tM) (GE : FnOk P w K mg base CX0 2 fE fdE ["self"] (spEnd C)) (bE : Binds K fdE ["self"] []) (pE : PropOf K C "end" pp fE) : GFn P w K mg base 4 f fd ["self"] (spWords C) := by
  obtain ⟨oc, od, kV, doc, pm, an, cdv, ct, osl, rfl, lk, hcd⟩ := F.ex
  refine gfn_of lk hcd scWords (fun vs H Q E h => ?_) (fun A outer s H vs Q E pn hr h => ?_)
  · obtain ⟨p, f, m, rfl, _⟩ := h
    rfl
  · obtain ⟨p, f, m, rfl, ⟨dx, hp⟩, f0, f1, m0, m1, k⟩ := h
    refine ⟨_, gss_cons (Gf.gs_for owns_gcx rfl (pi_range2 (by rfl) T.range (pa_cons (pe_fld (pv 0) rfl) (pa_cons (pe_prop (pv 0) T.cl pE GE hr bE .nil pass0 rfl) pa_nil))) (pg_name (i := 1) scWords.nd rfl (Or.inl rfl)) (gss_cons (gs_yield (pv 1)) gss_nil)) gss_nil, ?_⟩
    refine ⟨_, rfl, p, C, dx, _, _, rfl, hp, T.cl, T.nF, rf_f _ _, _, rfl, p, dx, _, rfl, hp, p, f, m, rfl, ⟨dx, hp⟩, ?_⟩
    refine ⟨f, f + m, rfl, ⟨by omega, by omega, by omega, by omega⟩, ?_⟩
    refine gfor_range (lo := f) (n := (f + m - f).toNat) (fun i ys σ H' => ∃ v1 : Option V, σ = [some (.ref p), v1] ∧ ys = (wordsI f i).map V.int ∧ H' = H) ⟨none, rfl, rfl, rfl⟩ ?_ ?_
    · rintro i ys σ H' hi ⟨v1, rfl, rfl, rfl⟩
      refine ⟨?_, _, rfl, _, rfl, (wordsI_succ f i).symm, rfl⟩
      rw [List.length_map, wordsI_len]
      exact Nat.lt_of_lt_of_le (show i < 100000 by omega) (by decide)
    · rintro ys σ H' ⟨v1, rfl, rfl, rfl⟩
      have e : (f + m - f).toNat = m.toNat := by omega
      rw [e]
      exact k
end
end Rf
namespace Rf
open PySem L2
abbrev sPieces : Stmt := top 11
/-! ### the mirror -/
/-- where the piece from f on stops -/
def nxt (lg : Int) (bd : Option Int) (f e : Int) : Int := match bd with
  | none => min e (f + lg)
  | some b => min (min e (f + lg)) ((f / b + 1) * b)
def pcs (lg : Int) (bd : Option Int) : Nat → Int → Int → List (Int × Int)
  | 0, _, _ => []
  | n + 1, f, e => if f < e then (f, nxt lg bd f e - f) :: pcs lg bd n (nxt lg bd f e) e else []
/-- all pieces of the words from f to below e -/
def pieces (lg : Int) (bd : Option Int) (f e : Int) : List (Int × Int) := pcs lg bd (e - f).toNat f e
structure Cut (lg : Int) (bd : Option Int) : Prop where
  l1 : 1 ≤ lg
  l2 : lg ≤ 10 ^ 6
  b1 : ∀ b, bd = some b → 1 ≤ b ∧ b ≤ 10 ^ 6
theorem nxt_lt {lg f e : Int} {bd : Option Int} (c : Cut lg bd) (f0 : 0 ≤ f) (h : f < e) : f < nxt lg bd f e ∧ nxt lg bd f e ≤ e := by
  have l1 := c.l1
  unfold nxt
  cases bd with
  | none => simp only [] ; omega
  | some b =>
    obtain ⟨b1, _⟩ := c.b1 b rfl
    have h1 : f / b * b ≤ f := Int.ediv_mul_le f (by omega)
    have h2 : f < (f / b + 1) * b := Int.lt_ediv_add_one_mul_self f (by omega)
    simp only []
    omega
theorem pcs_stop {lg : Int} {bd : Option Int} {n : Nat} {f e : Int} (h : ¬ f < e) : pcs lg bd n f e = [] := by
  cases n with
  | zero => rfl
  | succ n => show (if f < e then _ else []) = []; rw [if_neg h]
/-- more fuel changes nothing -/
theorem pcs_fuel {lg : Int} {bd : Option Int} (c : Cut lg bd) : ∀ (n : Nat) (f e : Int), 0 ≤ f → (e - f).toNat ≤ n → pcs lg bd n f e = pieces lg bd f e := by
  intro n
  induction n with
  | zero =>
    intro f e f0 h
    unfold pieces
    rw [show (e - f).toNat = 0 by omega]
  | succ n ih =>
    intro f e f0 h
    unfold pieces
    by_cases q : f < e
    · obtain ⟨h1, h2⟩ := nxt_lt c f0 q
      obtain ⟨k, hk⟩ : ∃ k, (e - f).toNat = k + 1 := ⟨(e - f).toNat - 1, by omega⟩
      rw [hk]
      show (if f < e then _ else []) = (if f < e then _ else [])
      rw [if_pos q, if_pos q, ih (nxt lg bd f e) e (by omega) (by omega)]
      by_cases hkn : k = n
      · rw [hkn, ih (nxt lg bd f e) e (by omega) (by omega)]
      · have z : ∀ (k : Nat), (e - nxt lg bd f e).toNat ≤ k → k ≤ n → pcs lg bd k (nxt lg bd f e) e = pieces lg bd (nxt lg bd f e) e := fun k h1' h2' => by
          -- by the same induction, below n
          have key : ∀ (a b : Nat) (f e : Int), 0 ≤ f → (e - f).toNat ≤ a → (e - f).toNat ≤ b → pcs lg bd a f e = pcs lg bd b f e := by
            intro a
            induction a with
            | zero =>
              intro b f e f0 h1 h2
              rw [pcs_stop (by omega), pcs_stop (by omega)]
            | succ a iha =>
              intro b f e f0 h1 h2
              cases b with
              | zero => rw [pcs_stop (by omega), pcs_stop (by omega)]
              | succ b =>
                show (if f < e then _ else []) = (if f < e then _ else [])
                by_cases q : f < e
                · obtain ⟨g1, g2⟩ := nxt_lt c f0 q
                  rw [if_pos q, if_pos q, iha b (nxt lg bd f e) e (by omega) (by omega) (by omega)]
                · rw [if_neg q, if_neg q]
          exact key _ _ _ _ (by omega) h1' (Nat.le_refl _)
        rw [z k (by omega) (by omega)]
    · rw [pcs_stop q, pcs_stop q]
theorem pieces_step {lg f e : Int} {bd : Option Int} (c : Cut lg bd) (f0 : 0 ≤ f) (h : f < e) : pieces lg bd f e = (f, nxt lg bd f e - f) :: pieces lg bd (nxt lg bd f e) e := by
  obtain ⟨h1, h2⟩ := nxt_lt c f0 h
  obtain ⟨k, hk⟩ : ∃ k, (e - f).toNat = k + 1 := ⟨(e - f).toNat - 1, by omega⟩
  conv => lhs; unfold pieces
  rw [hk]
  show (if f < e then _ else []) = _
  rw [if_pos h, pcs_fuel c k _ e (by omega) (by omega)]
theorem pieces_nil {lg f e : Int} {bd : Option Int} (h : ¬ f < e) : pieces lg bd f e = [] := pcs_stop h
/-! ### the promise -/
def bdV : Option Int → V
  | none => .non
  | some b => .int b
def RunsAt (C : Addr) (H : Hp) (as : List Addr) (rs : List (Int × Int)) : Prop := Paired (fun (a : Addr) (r : Int × Int) => RunAt C H a r.1 r.2) as rs
theorem RunsAt.same {C : Addr} {H H' : Hp} {as : List Addr} {rs : List (Int × Int)} (h : RunsAt C H as rs) (k : Same H H') : RunsAt C H' as rs := L2.Paired.mapP h fun a r ⟨dx, e⟩ => ⟨dx, k _ _ e⟩
theorem paired_snoc {α β : Type} {F : α → β → Prop} {x : α} {y : β} (r : F x y) : ∀ {xs : List α} {ys : List β}, Paired F xs ys → Paired F (xs ++ [x]) (ys ++ [y])
  | _, _, .nil => .cons r .nil
  | _, _, .cons a t => .cons a (paired_snoc r t)
def spPieces (C : Addr) : Sp := fun vs H Q _ => ∃ (f e lg : Int) (bd : Option Int), vs = [.int f, .int e, .int lg, bdV bd] ∧ 0 ≤ f ∧ f ≤ 10 ^ 9 ∧ e ≤ 10 ^ 9 ∧ e - f ≤ 100000 ∧ Cut lg bd ∧
  ∀ (l : Addr) (as : List Addr) (H' : Hp), Same H H' → H l = none → H' l = some (.lst (as.map V.ref)) → RunsAt C H' as (pieces lg bd f e) → Q (.ref l) H'
structure TP (mg : Str → Option Value) : Prop where
  min : mg "min" = none
theorem put_same {H : Hp} {p : Addr} {o : HO} (h : H p = none) : Same H (upd H p o) := fun b u e => by rw [upd_ne (ne_of_none e h)]; exact e
section
variable {P : Program} {w : World} {K : PySem.W.Frag} {mg : Str → Option Value} {base : Heap} {C : Addr} {mc : Value} {tM : Tok}
theorem scPieces : FnScope ["first", "end", "longest", "boundary", "cut", "stop"] ["first", "end", "longest", "boundary"] (defScope sPieces) := ⟨rfl, rfl, rfl, by decide +kernel, rfl, by decide +kernel, by decide +kernel⟩
theorem ok_pieces {f fB pB : Addr} {fd fdB : FuncData} (F : Fun K "_pieces" "_pieces" sPieces f fd) (T : TR K mg C mc tM) (B : TP mg) (GB : FnR P w K mg base CX0 5 fB (spBetween C)) (cB : ClX.CMet K C mc "between" pB fB) :
    FnOk P w K mg base CX0 6 f fd ["first", "end", "longest", "boundary"] (spPieces C) := by
  refine F.ok scPieces (fun vs H Q E h => ?_) (fun cdv A outer s H vs Q E hr h => ?_)
  · obtain ⟨f, e, lg, bd, rfl, _⟩ := h
    rfl
  · obtain ⟨f, e, lg, bd, rfl, f0, f1, e1, ef, c, k⟩ := h
    refine ⟨_, pss_cons (ps_set (i := 4) scPieces.nd rfl (Or.inl rfl) (pe_lst pa_nil))
      (pss_cons (ps_while PassesOwn.never (pt_cmpR op_lt (pv 0) (pv 1) (nomark _))
        (pss_cons (ps_set (i := 5) scPieces.nd rfl (Or.inl rfl) (pe_callB (call_min2 rfl) (by rfl) B.min (by decide +kernel) (pa_cons (pv 1) (pa_cons (pe_op op_add (pv 0) (pv 2)) pa_nil))))
        (C8.pss_cut (ps_if (pt_cmpR op_notN (pv 3) pe_non (nomark _)) (pss_one (ps_set (i := 5) scPieces.nd rfl (Or.inl rfl) (pe_callB (call_min2 rfl) (by rfl) B.min (by decide +kernel) (pa_cons (pv 5) (pa_cons (pe_op op_mul (pe_op op_add (pe_op op_fdivN (pv 0) (pv 3)) pe_int) (pv 3)) pa_nil))))) pss_nil)
        (pss_cons (ps_expr (pe_bm PySem.F.plainAttrs_list PySem.F.slot_list_append PySem.F.type_list_append mt_append (pv 4) (pa_cons (ClX.pe_cmeth (pe_glob (v := .ref C) rfl T.mgC rfl) T.rd cB GB hr pass0 (pa_cons (pv 0) (pa_cons (pv 5) pa_nil))) pa_nil)))
        (pss_one (ps_set (i := 0) scPieces.nd rfl (Or.inl rfl) (pv 5)))))))
      (pss_one (ps_ret (pv 4)))), ?_⟩
    refine ⟨Nat.zero_le _, fun l hl => ?_⟩
    refine while_by (fun σ H' => ∃ (g : Int) (as : List Addr) (rs : List (Int × Int)) (v5 : Option V), σ = [some (.int g), some (.int e), some (.int lg), some (bdV bd), some (.ref l), v5] ∧ f ≤ g ∧ (g ≤ e ∨ g = f) ∧ Same H H' ∧ H' l = some (.lst (as.map V.ref)) ∧ RunsAt C H' as rs ∧ rs ++ pieces lg bd g e = pieces lg bd f e ∧ (as.length : Int) ≤ g - f)
      (fun σ _ => match σ with | some (.int g) :: _ => (e - g).toNat | _ => 0)
      ⟨f, [], [], none, rfl, Int.le_refl _, .inr rfl, put_same hl, upd_same, .nil, rfl, by simp⟩ ?_ ?_
    · rintro σ H1 ⟨g, as, rs, v5, rfl, fg, ge, s1, h1, r1, eq1, la⟩
      refine ⟨_, rfl, _, rfl, _, _, rfl, rfl, _, rfl, ?_⟩
      refine ite2 (fun hlt => ?_) (fun hlt => ?_)
      · have hge : g < e := of_decide_eq_true hlt
        obtain ⟨n1, n2⟩ := nxt_lt c (show 0 ≤ g by omega) hge
        refine ⟨_, rfl, _, rfl, _, rfl, _, _, rfl, rfl, _, _, rfl, ?_⟩
        have m0 : (if g + lg < e then g + lg else e) = min e (g + lg) := by
          by_cases z : g + lg < e
          · rw [if_pos z]; omega
          · rw [if_neg z]; omega
        rw [m0]
        refine ⟨fun σ H' => σ = [some (.int g), some (.int e), some (.int lg), some (bdV bd), some (.ref l), some (.int (nxt lg bd g e))] ∧ H' = H1, ?_, ?_⟩
        · refine ⟨_, rfl, rfl, _, rfl, ?_⟩
          cases bd with
          | none =>
            refine ite2 (fun z => ?_) (fun _ => ⟨rfl, rfl⟩)
            simp [bdV] at z
          | some b =>
            obtain ⟨b1, b2⟩ := c.b1 b rfl
            refine ite2 (fun _ => ?_) (fun z => ?_)
            · refine ⟨_, rfl, _, rfl, _, rfl, _, _, rfl, rfl, ⟨by omega, by omega⟩, _, _, rfl, rfl, _, rfl, _, _, rfl, rfl, .inr ⟨by omega, by omega⟩, _, _, rfl, ?_⟩
              have e0 : g.fdiv b = g / b := Int.fdiv_eq_ediv_of_nonneg g (by omega)
              have e1 : (if (g.fdiv b + 1) * b < min e (g + lg) then (g.fdiv b + 1) * b else min e (g + lg)) = nxt lg (some b) g e := by
                rw [e0]
                show _ = min (min e (g + lg)) ((g / b + 1) * b)
                generalize (g / b + 1) * b = y
                by_cases z : y < min e (g + lg)
                · rw [if_pos z]; omega
                · rw [if_neg z]; omega
              rw [e1]
              exact ⟨rfl, rfl⟩
            · exact (z (by simp [bdV])).elim
        · rintro σ H' ⟨rfl, rfl⟩
          refine ⟨_, rfl, .inl ⟨rfl, _, SqL.of h1⟩, rfl, _, rfl, _, rfl, g, nxt lg bd g e, rfl, by omega, by unfold Most; omega, by omega, by unfold Most; omega, fun p dx hp hdx ne => ?_⟩
          have lp : l ≠ p := ne_of_none h1 hp
          have ld : l ≠ dx := ne_of_none h1 hdx
          have k1 : Same H' (upd (upd H' dx (.own p)) p (.ins C dx (rf g (nxt lg bd g e - g)))) := fun a o z => by rw [upd_ne (ne_of_none z hp), upd_ne (ne_of_none z hdx)]; exact z
          refine ⟨l, _, _, rfl, rfl, k1 _ _ h1, by rw [List.length_map]; exact Nat.lt_of_lt_of_le (show as.length < 100001 by omega) (by decide), ?_⟩
          refine ⟨_, rfl, ⟨nxt lg bd g e, as ++ [p], rs ++ [(g, nxt lg bd g e - g)], _, rfl, by omega, .inl n2, fun a o z => ?_, by rw [upd_same, List.map_append]; rfl, ?_, ?_, ?_⟩, ?_⟩
          · have al : a ≠ l := ne_of_none z hl
            rw [upd_ne al]
            exact k1 _ _ (s1 a o z)
          · have nl : ∀ (a : Addr) (r : Int × Int), RunAt C H' a r.1 r.2 → RunAt C (upd (upd (upd H' dx (.own p)) p (.ins C dx (rf g (nxt lg bd g e - g)))) l (.lst (as.map V.ref ++ [V.ref p]))) a r.1 r.2 := fun a r ⟨d, z⟩ => ⟨d, by rw [upd_ne (ne_of z h1 (by intro q; cases q))]; exact k1 _ _ z⟩
            refine paired_snoc ⟨dx, ?_⟩ (L2.Paired.mapP r1 nl)
            rw [upd_ne lp.symm, upd_same]
          · rw [List.append_assoc]
            show rs ++ ((g, nxt lg bd g e - g) :: pieces lg bd (nxt lg bd g e) e) = _
            rw [← pieces_step c (by omega) hge]
            exact eq1
          · rw [List.length_append]
            show ((as.length + 1 : Nat) : Int) ≤ _
            omega
          · show (e - nxt lg bd g e).toNat < (e - g).toNat
            omega
      · have hge : ¬ g < e := of_decide_eq_false (by simpa using hlt)
        rw [pieces_nil hge, List.append_nil] at eq1
        exact ⟨_, rfl, k l as H1 s1 hl h1 (by rw [← eq1]; exact r1)⟩
    · intro σ H1 Q1 Q2 hq h
      obtain ⟨v, h1, u, h2, i, j, h3, h4, b, h5, h6⟩ := h
      exact ⟨v, h1, u, h2, i, j, h3, h4, b, h5, hq _ _ h6⟩
end
end Rf
namespace Rf
open PySem L2
abbrev sSegs : Stmt := top 10
def sgs (lg : Int) (bd : Option Int) : List (Int × Int) → Int → Int → List (Int × Int)
  | [], f, e => pieces lg bd f e
  | r :: rs, f, e => if r.1 = e then sgs lg bd rs f (r.1 + r.2) else pieces lg bd f e ++ sgs lg bd rs r.1 (r.1 + r.2)
def segs (lg : Int) (bd : Option Int) (rs : List (Int × Int)) : List (Int × Int) := sgs lg bd rs 0 0
/-- runs that the law hands in -/
structure Few (rs : List (Int × Int)) : Prop where
  len : rs.length ≤ 100
  ok : ∀ r ∈ rs, 0 ≤ r.1 ∧ 1 ≤ r.2 ∧ r.2 ≤ 1000 ∧ r.1 ≤ 10 ^ 8
theorem pcs_len {lg : Int} {bd : Option Int} : ∀ (n : Nat) (f e : Int), (pcs lg bd n f e).length ≤ n
  | 0, _, _ => Nat.le_refl _
  | n + 1, f, e => by
    show (if f < e then _ else []).length ≤ _
    by_cases h : f < e
    · rw [if_pos h]
      exact Nat.succ_le_succ (pcs_len n _ e)
    · rw [if_neg h]; exact Nat.zero_le _
theorem pieces_len {lg : Int} {bd : Option Int} (f e : Int) : (pieces lg bd f e).length ≤ (e - f).toNat := pcs_len _ _ _
def spSegs (C : Addr) : Sp := fun vs H Q _ => ∃ (a : Addr) (as : List Addr) (rs : List (Int × Int)) (lg : Int) (bd : Option Int), vs = [.ref a, .int lg, bdV bd] ∧ H a = some (.lst (as.map V.ref)) ∧ RunsAt C H as rs ∧ Few rs ∧ Cut lg bd ∧
  ∀ (l : Addr) (as' : List Addr) (H' : Hp), Same H H' → H l = none → H' l = some (.lst (as'.map V.ref)) → RunsAt C H' as' (segs lg bd rs) → Q (.ref l) H'
theorem paired_app {α β : Type} {F : α → β → Prop} : ∀ {xs xs' : List α} {ys ys' : List β}, Paired F xs ys → Paired F xs' ys' → Paired F (xs ++ xs') (ys ++ ys')
  | _, _, _, _, .nil, h => h
  | _, _, _, _, .cons a t, h => .cons a (paired_app t h)
theorem paired_at {α β : Type} {F : α → β → Prop} : ∀ {xs : List α} {ys : List β}, Paired F xs ys → ∀ {i : Nat} {y : β}, ys[i]? = some y → ∃ x, xs[i]? = some x ∧ F x y
  | _, _, .nil, i, y, h => by simp at h
  | _, _, .cons r t, 0, y, h => by
    have e := Option.some.inj h
    subst e
    exact ⟨_, rfl, r⟩
  | _, _, .cons r t, i + 1, y, h => paired_at t h
section
variable {P : Program} {w : World} {K : PySem.W.Frag} {mg : Str → Option Value} {base : Heap} {C : Addr} {mc : Value} {tM : Tok} {kws : List (Str × V)}
/-- such a def lets nothing out -/
theorem okD {x qual : Str} {params : Arguments} {body : List Stmt} {scope : Scope} {dvs : List V} {f : Addr} {fd : FuncData} {N ps : List Str} {k : Nat} {sp : Sp} (F : FunD K x qual params body scope dvs kws f fd) (S : FnScope N ps scope) (len : ∀ vs H Q E, sp vs H Q E → vs.length = ps.length)
    (hbody : ∀ (cdv : Value) (A : Around) (outer : List Env) (s : Shared) (H : Hp) (vs : List V) (Q : VK) (E : XK), Room k (A.deeper (PyProof.Rows.envOfC qual scope s.heap.objs.size f cdv)) → sp vs H Q E →
      ∃ t, PSs (cxOf CX0 P w K mg base N qual scope f cdv A outer s H E).nox body t ∧ t { nx := fun _ H' => Q .non H', rt := Q } (start N vs) H) : FnOk P w K mg base CX0 (k + 1) f fd ps sp :=
  F.ok S len fun cdv A outer s H vs Q E hr h => by
    obtain ⟨t, h1, h2⟩ := hbody cdv A outer s H vs Q E hr h
    exact ⟨t, h1.nox, h2⟩
theorem scSegs : FnScope ["runs", "longest", "boundary", "cut", "first", "end", "run"] ["runs", "longest", "boundary"] (defScope sSegs) := ⟨rfl, rfl, rfl, by decide +kernel, rfl, by decide +kernel, by decide +kernel⟩
theorem ok_segs {f fP fE pp : Addr} {fd fdP fdE : FuncData} (F : FunD K "segments" "segments" (defArgs sSegs) (defBody sSegs) (defScope sSegs) [] kws f fd) (T : TR K mg C mc tM) (GP : FnOk P w K mg base CX0 6 fP fdP ["first", "end", "longest", "boundary"] (spPieces C)) (DP : Def K mg "_pieces" fP fdP ["first", "end", "longest", "boundary"])
    (GE : FnOk P w K mg base CX0 2 fE fdE ["self"] (spEnd C)) (bE : Binds K fdE ["self"] []) (pE : PropOf K C "end" pp fE) : FnOk P w K mg base CX0 7 f fd ["runs", "longest", "boundary"] (spSegs C) := by
  refine okD F scSegs (fun vs H Q E h => ?_) (fun cdv A outer s H vs Q E hr h => ?_)
  · obtain ⟨a, as, rs, lg, bd, rfl, _⟩ := h
    rfl
  · obtain ⟨a, as, rs, lg, bd, rfl, ha, hrs, few, c, k⟩ := h
    have hr2 : Room 3 _ := hr.mono (by decide)
    have hlen : as.length = rs.length := Paired.length hrs
    refine ⟨_, pss_cons (ps_set (i := 3) scSegs.nd rfl (Or.inl rfl) (pe_lst pa_nil))
      (pss_cons (ps_asg2 pe_int (pg_name (i := 4) scSegs.nd rfl (Or.inl rfl)) (pg_name (i := 5) scSegs.nd rfl (Or.inl rfl)))
      (pss_cons (ps_for PassesOwn.never rfl (pi_list (pv 0)) (pg_name (i := 6) scSegs.nd rfl (Or.inl rfl))
        (C8.pss_cut (ps_if (pt_cmpR op_ne (pe_fld (pv 6) rfl) (pv 5) (nomark _))
          (pss_cons (ps_expr (pe_bm PySem.F.plainAttrs_list PySem.F.slot_list_extend PySem.F.type_list_extend mt_extend (pv 3) (pa_cons (pe_call GP hr (by rfl) DP.at_ DP.kp DP.bd .nil pass0 (pa_cons (pv 4) (pa_cons (pv 5) (pa_cons (pv 1) (pa_cons (pv 2) pa_nil))))) pa_nil)))
            (pss_one (ps_set (i := 4) scSegs.nd rfl (Or.inl rfl) (pe_fld (pv 6) rfl)))) pss_nil)
        (pss_one (ps_set (i := 5) scSegs.nd rfl (Or.inl rfl) (pe_prop (pv 6) T.cl pE GE hr2 bE .nil pass0 rfl)))))
      (pss_cons (ps_expr (pe_bm PySem.F.plainAttrs_list PySem.F.slot_list_extend PySem.F.type_list_extend mt_extend (pv 3) (pa_cons (pe_call GP hr (by rfl) DP.at_ DP.kp DP.bd .nil pass0 (pa_cons (pv 4) (pa_cons (pv 5) (pa_cons (pv 1) (pa_cons (pv 2) pa_nil))))) pa_nil)))
      (pss_one (ps_ret (pv 3)))))), ?_⟩
    refine ⟨Nat.zero_le _, fun l hl => ?_⟩
    have al : a ≠ l := ne_of_none ha hl
    refine ⟨_, rfl, a, rfl, ⟨_, SqL.of (put_same hl _ _ ha)⟩, for_list (K := K) (a := a) (xs := as.map V.ref) (fun i σ H' => ∃ (f e : Int) (v6 : Option V) (bs : List Addr) (qs : List (Int × Int)), σ = [some (.ref a), some (.int lg), some (bdV bd), some (.ref l), some (.int f), some (.int e), v6] ∧ Same H H' ∧ H' l = some (.lst (bs.map V.ref)) ∧ RunsAt C H' bs qs ∧
        qs ++ sgs lg bd (rs.drop i) f e = segs lg bd rs ∧ 0 ≤ f ∧ f ≤ 10 ^ 8 ∧ e ≤ 10 ^ 9 ∧ e - f ≤ 1000 * i ∧ bs.length ≤ 100000 * i) ⟨0, 0, none, [], [], rfl, put_same hl, upd_same, .nil, rfl, by decide, by decide, by decide, by decide, by decide⟩ (fun i σ H' _ ⟨_, _, _, _, _, _, s, _⟩ => s.seq (SqL.of ha)) ?_ ?_⟩
    · rintro i x σ H1 hx ⟨f, e, v6, bs, qs, rfl, s1, h1, r1, eq1, f0, f1, e1, ef, nb⟩
      have hil : i < as.length := by
        have q := (List.getElem?_eq_some_iff.mp hx).1
        rw [List.length_map] at q
        exact q
      have hir : i < rs.length := by omega
      have ex : x = V.ref as[i] := by
        rw [List.getElem?_map, List.getElem?_eq_getElem hil] at hx
        exact (Option.some.inj hx).symm
      subst ex
      obtain ⟨ai, hai, dx, hd⟩ := paired_at hrs (i := i) (List.getElem?_eq_getElem hir)
      rw [List.getElem?_eq_getElem hil] at hai
      have eai : as[i] = ai := Option.some.inj hai
      rw [eai]
      obtain ⟨g0, g1, g2, g3⟩ := few.ok rs[i] (List.getElem_mem hir)
      have hl100 := few.len
      rw [List.drop_eq_getElem_cons hir] at eq1
      generalize rs[i] = r at hd g0 g1 g2 g3 eq1
      have hd1 : H1 ai = some (.ins C dx (rf r.1 r.2)) := s1 _ _ hd
      refine ⟨fun σ H' => ∃ (f' : Int) (bs' : List Addr) (qs' : List (Int × Int)), σ = [some (.ref a), some (.int lg), some (bdV bd), some (.ref l), some (.int f'), some (.int e), some (.ref ai)] ∧ Same H H' ∧ H' l = some (.lst (bs'.map V.ref)) ∧ RunsAt C H' bs' qs' ∧
        qs' ++ sgs lg bd (rs.drop (i + 1)) f' (r.1 + r.2) = segs lg bd rs ∧ 0 ≤ f' ∧ f' ≤ 10 ^ 8 ∧ (r.1 + r.2) - f' ≤ 1000 * ((i : Int) + 1) ∧ bs'.length ≤ 100000 * (i + 1), ?_, ?_⟩
      · refine ⟨_, rfl, ai, C, dx, _, _, rfl, hd1, T.cl, T.nF, rf_f _ _, _, rfl, rfl, _, rfl, ?_⟩
        by_cases q : r.1 = e
        · have eq2 : sgs lg bd (r :: rs.drop (i + 1)) f e = sgs lg bd (rs.drop (i + 1)) f (r.1 + r.2) := by
            show (if r.1 = e then _ else _) = _
            rw [if_pos q]
          rw [eq2] at eq1
          refine iteNS (by rw [q]) ?_
          exact ⟨f, bs, qs, rfl, s1, h1, r1, eq1, f0, f1, by omega, by omega⟩
        · have eq2 : sgs lg bd (r :: rs.drop (i + 1)) f e = pieces lg bd f e ++ sgs lg bd (rs.drop (i + 1)) r.1 (r.1 + r.2) := by
            show (if r.1 = e then _ else _) = _
            rw [if_neg q]
          rw [eq2] at eq1
          have dq : decide (V.int r.1 = V.int e) = false := decide_eq_false fun z => q (V.int.inj z)
          refine ite2 (fun _ => ?_) (fun z => (z (by rw [dq]; rfl)).elim)
          refine ⟨_, rfl, .inl ⟨rfl, _, SqL.of h1⟩, _, rfl, _, rfl, _, rfl, _, rfl, f, e, lg, bd, rfl, f0, by omega, e1, by omega, c, fun l2 as2 H2 s2 hl2 h2 r2 => ?_⟩
          have n2 : as2.length ≤ (e - f).toNat := by
            have q1 := Paired.length r2
            rw [q1]
            exact pieces_len f e
          refine ⟨l, l2, _, _, rfl, rfl, s2 _ _ h1, h2, ?_, ?_⟩
          · rw [List.length_map, List.length_map]
            exact Nat.le_trans (show bs.length + as2.length ≤ 10100000 by omega) (by decide)
          · have lai : ai ≠ l := ne_of hd1 h1 (by intro z; cases z)
            refine ⟨_, rfl, ai, C, dx, _, _, rfl, (by rw [upd_ne lai]; exact s2 _ _ hd1), T.cl, T.nF, rf_f _ _, ?_⟩
            refine ⟨r.1, bs ++ as2, qs ++ pieces lg bd f e, rfl, fun q o z => ?_, by rw [upd_same, List.map_append], ?_, by rw [List.append_assoc]; exact eq1, g0, g3, by omega, by rw [List.length_append]; omega⟩
            · rw [upd_ne (ne_of_none z hl)]
              exact s2 _ _ (s1 _ _ z)
            · have nl : ∀ (q : Addr) (r : Int × Int), RunAt C H2 q r.1 r.2 → RunAt C (upd H2 l (.lst (bs.map V.ref ++ as2.map V.ref))) q r.1 r.2 := fun q r ⟨d, z⟩ => ⟨d, by rw [upd_ne (ne_of z (s2 _ _ h1) (by intro w; cases w))]; exact z⟩
              exact paired_app (L2.Paired.mapP (r1.same s2) nl) (L2.Paired.mapP r2 nl)
      · rintro σ H' ⟨f', bs', qs', rfl, s', h', r', eq', f0', f1', ef', nb'⟩
        refine ⟨_, rfl, ai, dx, _, rfl, s' _ _ hd, ai, r.1, r.2, rfl, ⟨dx, s' _ _ hd⟩, ?_⟩
        exact ⟨f', r.1 + r.2, _, bs', qs', rfl, s', h', r', eq', f0', f1', by omega, by omega, by omega⟩
    · rintro σ H1 ⟨f, e, v6, bs, qs, rfl, s1, h1, r1, eq1, f0, f1, e1, ef, nb⟩
      rw [List.length_map, hlen] at eq1 ef nb
      rw [List.drop_length] at eq1
      have hl100 := few.len
      refine ⟨_, rfl, .inl ⟨rfl, _, SqL.of h1⟩, _, rfl, _, rfl, _, rfl, _, rfl, f, e, lg, bd, rfl, f0, by omega, e1, by omega, c, fun l2 as2 H2 s2 hl2 h2 r2 => ?_⟩
      have hl2' : l ≠ l2 := ne_of_none h1 hl2
      have n2 : as2.length ≤ (e - f).toNat := by
        have q1 := Paired.length r2
        rw [q1]
        exact pieces_len f e
      refine ⟨l, l2, _, _, rfl, rfl, s2 _ _ h1, h2, ?_, ?_⟩
      · rw [List.length_map, List.length_map]
        exact Nat.le_trans (show bs.length + as2.length ≤ 10100000 by omega) (by decide)
      · refine ⟨_, rfl, k l (bs ++ as2) _ (fun q o z => ?_) hl (by rw [upd_same, List.map_append]) ?_⟩
        · rw [upd_ne (ne_of_none z hl)]
          exact s2 _ _ (s1 _ _ z)
        · rw [← eq1]
          have nl : ∀ (q : Addr) (r : Int × Int), RunAt C H2 q r.1 r.2 → RunAt C (upd H2 l (.lst (bs.map V.ref ++ as2.map V.ref))) q r.1 r.2 := fun q r ⟨d, z⟩ => ⟨d, by rw [upd_ne (ne_of z (s2 _ _ h1) (by intro w; cases w))]; exact z⟩
          exact paired_app (L2.Paired.mapP (r1.same s2) nl) (L2.Paired.mapP r2 nl)
end
end Rf
namespace Rf
open PySem L2
abbrev sBag : Stmt := top 13
abbrev sTake : Stmt := top 14
/-! ### drawn numbers -/
/-- all but b stands as before -/
def Off (b : Addr) (H H' : Hp) : Prop := ∀ c, c ≠ b → H' c = H c
/-- the bag's three numbers; at most N mixed numbers were taken so far -/
def BagAt (H : Hp) (b : Addr) (N : Nat) : Prop := ∃ l x c : Int, H b = some (.lst [.int l, .int x, .int c]) ∧ 0 ≤ l ∧ 0 ≤ x ∧ x < 6 * 10 ^ 18 ∧ 0 ≤ c ∧ c ≤ N
def spTake : Sp := fun vs H Q _ => ∃ (b : Addr) (m : Int) (N : Nat), vs = [.ref b, .int m] ∧ 1 ≤ m ∧ m < 1073741824 ∧ BagAt H b N ∧ N < 1000000 ∧
  ∀ (r : Int) (H' : Hp), 0 ≤ r → r < m → BagAt H' b (N + 1) → Off b H H' → Q (.int r) H'
theorem fmod_in {a m : Int} (h : 1 ≤ m) : 0 ≤ a.fmod m ∧ a.fmod m < m := by
  rw [Int.fmod_eq_emod_of_nonneg a (by omega)]
  exact ⟨Int.emod_nonneg _ (by omega), Int.emod_lt_of_pos _ (by omega)⟩
theorem fdiv_in {a m : Int} (h : 1 ≤ m) (ha : 0 ≤ a) : 0 ≤ a.fdiv m := by
  rw [Int.fdiv_eq_ediv_of_nonneg a (by omega)]
  exact Int.ediv_nonneg ha (by omega)
section
variable {P : Program} {w : World} {K : PySem.W.Frag} {mg : Str → Option Value} {base : Heap}
theorem scTake : FnScope ["_law_bag_here", "_law_many", "_law_digit", "_law_mixed"] ["_law_bag_here", "_law_many"] (defScope sTake) := ⟨rfl, rfl, rfl, by decide +kernel, rfl, by decide +kernel, by decide +kernel⟩
theorem sq_bd {c : Int} (h0 : 0 ≤ c) (h : c ≤ 1000001) : 0 ≤ 8081 * c * c ∧ 8081 * c * c ≤ 8081 * 1000001 * 1000001 := by
  have h1 : 0 ≤ 8081 * c := by omega
  refine ⟨Int.mul_nonneg h1 h0, ?_⟩
  exact Int.mul_le_mul (by omega) h h0 (by decide)
theorem ok_take {f : Addr} {fd : FuncData} (F : Fun K "_law_take" "_law_take" sTake f fd) : FnOk P w K mg base CX0 2 f fd ["_law_bag_here", "_law_many"] spTake := by
  refine F.ok scTake (fun vs H Q E h => ?_) (fun cdv A outer s H vs Q E hr h => ?_)
  · obtain ⟨b, m, N, rfl, _⟩ := h
    rfl
  · obtain ⟨b, m, N, rfl, m1, m2, ⟨l, x, c, hb, l0, x0, x1, c0, cN⟩, hN, k⟩ := h
    refine ⟨_, pss_cons (ps_if (pt_cmpR op_gt (pe_ix ix_list (pv 0) pe_int (fun _ _ => rfl)) pe_int (nomark _))
        (pss_cons (ps_set (i := 2) scTake.nd rfl (Or.inl rfl) (pe_op op_modN (pe_ix ix_list (pv 0) pe_int (fun _ _ => rfl)) (pv 1)))
        (pss_cons (ps_asg (pe_op op_fdivN (pe_ix ix_list (pv 0) pe_int (fun _ _ => rfl)) (pv 1)) (pg_sub (pv 0) pe_int set_list))
        (pss_one (ps_ret (pv 2))))) pss_nil)
      (pss_cons (ps_asg (pe_op op_add (pe_ix ix_list (pv 0) pe_int (fun _ _ => rfl)) pe_int) (pg_sub (pv 0) pe_int set_list))
      (pss_cons (ps_set (i := 3) scTake.nd rfl (Or.inl rfl) (pe_op op_mod (pe_op op_pow (pe_op op_add (pe_ix ix_list (pv 0) pe_int (fun _ _ => rfl))
          (pe_op op_mul (pe_op op_mul pe_int (pe_ix ix_list (pv 0) pe_int (fun _ _ => rfl))) (pe_ix ix_list (pv 0) pe_int (fun _ _ => rfl)))) pe_int) pe_int))
      (pss_one (ps_ret (pe_op op_modN (pe_op op_fdiv (pe_op op_mod (pe_op op_mul (pv 3) (pe_op op_add (pe_op op_fdiv (pv 3) pe_int) (pe_op op_mul pe_int (pe_ix ix_list (pv 0) pe_int (fun _ _ => rfl))))) pe_int) pe_int) (pv 1)))))), ?_⟩
    refine ⟨_, rfl, b, _, _, _, rfl, rfl, SqL.of hb, rfl, _, _, rfl, rfl, _, rfl, ?_⟩
    refine ite2 (fun hl => ?_) (fun hl => ?_)
    · have hl' : 0 < l := of_decide_eq_true hl
      refine ⟨_, rfl, b, _, _, _, rfl, rfl, SqL.of hb, rfl, _, rfl, _, _, rfl, rfl, by omega, ?_⟩
      refine ⟨_, rfl, b, _, _, _, rfl, rfl, SqL.of hb, rfl, _, rfl, _, _, rfl, rfl, ⟨by omega, by omega⟩, _, rfl, b, _, _, 0, rfl, rfl, hb, rfl, ?_⟩
      refine ⟨_, rfl, k _ _ (fmod_in m1).1 (fmod_in m1).2 ⟨_, x, c, upd_same, fdiv_in m1 l0, x0, x1, c0, by omega⟩ fun d hd => upd_ne hd⟩
    · obtain ⟨q0, q1⟩ := sq_bd (c := c + 1) (by omega) (by omega)
      refine ⟨_, rfl, b, _, _, _, rfl, rfl, SqL.of hb, rfl, _, _, rfl, rfl, _, rfl, b, _, _, 2, rfl, rfl, hb, rfl, ?_⟩
      have hb2 : (upd H b (.lst [.int l, .int x, .int (c + 1)])) b = some (.lst [.int l, .int x, .int (c + 1)]) := upd_same
      refine ⟨_, rfl, b, _, _, _, rfl, rfl, SqL.of hb2, rfl, _, rfl, b, _, _, _, rfl, rfl, SqL.of hb2, rfl, _, _, rfl, rfl, .inl ⟨by decide, by decide⟩, _, rfl, b, _, _, _, rfl, rfl, SqL.of hb2, rfl, _, _, rfl, rfl, .inr ⟨by omega, by omega⟩, _, _, rfl, rfl, _, _, rfl, rfl, ⟨by decide, by decide, by omega⟩, _, _, rfl, rfl, (by show (0 : Int) < 2147483563; decide), ?_⟩
      generalize hy : ((x + 8081 * (c + 1) * (c + 1)) ^ ((3 : Int)).toNat) % 2147483563 = y
      have y0 : 0 ≤ y := by rw [← hy]; exact Int.emod_nonneg _ (by decide)
      have y1 : y < 2147483563 := by rw [← hy]; exact Int.emod_lt_of_pos _ (by decide)
      refine ⟨_, rfl, _, rfl, _, _, rfl, rfl, ⟨by decide, by decide⟩, _, rfl, b, _, _, _, rfl, rfl, SqL.of hb2, rfl, _, _, rfl, rfl, .inl ⟨by decide, by decide⟩, _, _, rfl, rfl, _, _, rfl, rfl, .inl ⟨by omega, by omega⟩, _, _, rfl, rfl, (by show (0 : Int) < 2147483549; decide), _, _, rfl, rfl, ⟨by decide, by decide⟩, _, rfl, _, _, rfl, rfl, by omega, ?_⟩
      exact k _ _ (fmod_in m1).1 (fmod_in m1).2 ⟨l, x, c + 1, hb2, l0, x0, x1, by omega, by omega⟩ fun d hd => upd_ne hd
end
/-- what the walk asks of the built-ins -/
structure TB (mg : Str → Option Value) : Prop where
  len : mg "len" = none
  abs : mg "abs" = none
  range : mg "range" = none
  min : mg "min" = none
  max : mg "max" = none
  list : mg "list" = none
  all : mg "all" = none
theorem at_int {xs : List Int} {i : Int} (h0 : 0 ≤ i) (h1 : i < xs.length) : atI (xs.map V.int) i = some (.int (xs.getD i.toNat 0)) := by
  refine at_of (j := i.toNat) (by omega) ?_
  have q : i.toNat < xs.length := by omega
  rw [List.getElem?_map, List.getD_eq_getElem?_getD, List.getElem?_eq_getElem q]
  rfl
theorem eqv_self {d : PyData} (h : SeqAt.shaped d = true) : PyData.eqv d d = true := SeqAt.eqv_refl _ (SeqAt.canLay_of_shaped h)
abbrev g0 (l : List Int) (i : Nat) : Int := l.getD i 0
def dInts (xs : List Int) : PyData := .list (xs.map .int)
theorem canlay_ints : ∀ xs : List Int, PyData.canLayAll0 (xs.map .int) = true
  | [] => rfl
  | x :: xs => by
    rw [List.map_cons, PyData.canLayAll0, canlay_ints xs, PyData.canLay0]
    rfl
theorem depth_ints : ∀ xs : List Int, PyData.depthAll (xs.map .int) = 0
  | [] => rfl
  | x :: xs => by
    rw [List.map_cons, PyData.depthAll, depth_ints xs, PyData.depth]
    rfl
theorem shaped_ints (xs : List Int) : SeqAt.shaped (dInts xs) = true := by
  unfold SeqAt.shaped dInts
  rw [PyData.canLay0, canlay_ints, PyData.depth, depth_ints]
  rfl
theorem dpall_ints {K : PySem.W.Frag} {H : Hp} : ∀ xs : List Int, DpAll K H (xs.map V.int) (xs.map .int)
  | [] => .nil
  | x :: xs => .cons (.int x) (dpall_ints xs)
theorem dp_ints {K : PySem.W.Frag} {H : Hp} {a : Addr} {xs : List Int} (h : SqL K H a (xs.map V.int)) : Dp K H (.ref a) (dInts xs) := .lst h (dpall_ints xs)
theorem eqv_ints (xs : List Int) : PyData.eqv (dInts xs) (dInts xs) = true := eqv_self (shaped_ints xs)
def spBag (K : PySem.W.Frag) : Sp := fun vs H Q _ => ∃ (a : Addr) (ns : List Int) (i : Int), vs = [.ref a, .int i] ∧ SqL K H a (ns.map V.int) ∧ ns.length ≤ 63 ∧ 0 ≤ i ∧ i ≤ 63 ∧
  ∀ (p : Addr) (H' : Hp), H p = none → BagAt H' p 0 → Off p H H' → Q (.ref p) H'
section
variable {P : Program} {w : World} {K : PySem.W.Frag} {mg : Str → Option Value} {base : Heap}
theorem scBag : FnScope ["_law_script", "_law_at", "_law_number", "_law_large"] ["_law_script", "_law_at"] (defScope sBag) := ⟨rfl, rfl, rfl, by decide +kernel, rfl, by decide +kernel, by decide +kernel⟩
theorem ok_bag {f : Addr} {fd : FuncData} (F : Fun K "_law_bag" "_law_bag" sBag f fd) (T : TB mg) : FnOk P w K mg base CX0 2 f fd ["_law_script", "_law_at"] (spBag K) := by
  refine F.ok scBag (fun vs H Q E h => ?_) (fun cdv A outer s H vs Q E hr h => ?_)
  · obtain ⟨a, ns, i, rfl, _⟩ := h
    rfl
  · obtain ⟨a, ns, i, rfl, hS, hl, i0, i1, k⟩ := h
    refine ⟨_, pss_cons (ps_set (i := 2) scBag.nd rfl (Or.inl rfl) (pe_ifExp (pt_cmpR op_lt (pv 1) (pe_callB call_len_seq (by rfl) T.len PySem.boot_len (pa_cons (pv 0) pa_nil)) (nomark _)) (pe_ix ix_list (pv 0) (pv 1) (fun _ _ => rfl)) pe_int))
      (pss_cons (ps_set (i := 3) scBag.nd rfl (Or.inl rfl) (pe_ifExp (pt_cmpR op_ge (pe_callB call_abs (by rfl) T.abs (by decide +kernel) (pa_cons (pv 2) pa_nil)) (pe_op op_pow pe_int pe_int) (nomark _)) (pe_callB call_abs (by rfl) T.abs (by decide +kernel) (pa_cons (pv 2) pa_nil)) pe_int))
      (pss_one (ps_ret (pe_lst (pa_cons (pv 3) (pa_cons (pe_op op_add (pe_op op_add (pe_op op_mul (pe_op op_modN (pv 2) (pe_op op_add (pe_op op_pow pe_int pe_int) pe_int)) pe_int) (pe_op op_mul pe_int (pv 1))) pe_int) (pa_cons pe_int pa_nil))))))), ?_⟩
    refine ⟨_, rfl, _, rfl, a, _, rfl, .inl hS, _, _, rfl, rfl, _, rfl, ?_⟩
    have hw : ∀ z : Int, 0 ≤ z.fmod (10 ^ 18 + 9) * 5 + 7793 * i + 613 ∧ z.fmod (10 ^ 18 + 9) * 5 + 7793 * i + 613 < 6 * 10 ^ 18 := fun z => by
      obtain ⟨q1, q2⟩ := fmod_in (a := z) (m := 10 ^ 18 + 9) (by decide)
      omega
    have ha : ∀ z : Int, 0 ≤ (if z < 0 then -z else z) := fun z => by
      by_cases q : z < 0
      · rw [if_pos q]; omega
      · rw [if_neg q]; omega
    refine ite2 (fun h1 => ?_) (fun h1 => ?_)
    · have h2 : i < ((ns.map V.int).length : Int) := of_decide_eq_true h1
      rw [List.length_map] at h2
      have hn : i.toNat < ns.length := by omega
      refine ⟨_, rfl, _, rfl, a, _, _, .int ns[i.toNat], rfl, rfl, hS, ?_, ?_⟩
      · refine at_of (j := i.toNat) (by omega) ?_
        rw [List.getElem?_map, List.getElem?_eq_getElem hn] <;> rfl
      refine ⟨_, rfl, _, rfl, _, _, rfl, rfl, ⟨by decide, by decide, by decide⟩, _, _, rfl, rfl, _, rfl, ?_⟩
      refine ite2 (fun h3 => ?_) (fun h3 => ?_)
      · refine ⟨_, rfl, _, rfl, ?_⟩
        refine ⟨_, rfl, _, rfl, _, _, rfl, rfl, ⟨by decide, by decide, by decide⟩, _, _, rfl, rfl, _, _, rfl, rfl, (by show (10 ^ Int.toNat 18 + 9 : Int) ≠ 0; decide), _, _, rfl, rfl, .inr ⟨by decide, by decide⟩, _, rfl, _, _, rfl, rfl, .inl ⟨by decide, by decide⟩, _, _, rfl, rfl, _, _, rfl, rfl, (by show 3 ≤ sizeLine; decide), fun p hp => ?_⟩
        exact k p _ hp ⟨_, _, 0, upd_same, ha _, (hw _).1, (hw _).2, Int.le_refl _, Int.le_refl _⟩ fun c hc => upd_ne hc
      · refine ⟨_, rfl, _, rfl, _, _, rfl, rfl, ⟨by decide, by decide, by decide⟩, _, _, rfl, rfl, _, _, rfl, rfl, (by show (10 ^ Int.toNat 18 + 9 : Int) ≠ 0; decide), _, _, rfl, rfl, .inr ⟨by decide, by decide⟩, _, rfl, _, _, rfl, rfl, .inl ⟨by decide, by decide⟩, _, _, rfl, rfl, _, _, rfl, rfl, (by show 3 ≤ sizeLine; decide), fun p hp => ?_⟩
        exact k p _ hp ⟨_, _, 0, upd_same, Int.le_refl _, (hw _).1, (hw _).2, Int.le_refl _, Int.le_refl _⟩ fun c hc => upd_ne hc
    · refine ⟨_, rfl, _, rfl, _, _, rfl, rfl, ⟨by decide, by decide, by decide⟩, _, _, rfl, rfl, _, rfl, ?_⟩
      refine ite2 (fun h3 => ?_) (fun h3 => ?_)
      · refine ⟨_, rfl, _, rfl, ?_⟩
        refine ⟨_, rfl, _, rfl, _, _, rfl, rfl, ⟨by decide, by decide, by decide⟩, _, _, rfl, rfl, _, _, rfl, rfl, (by show (10 ^ Int.toNat 18 + 9 : Int) ≠ 0; decide), _, _, rfl, rfl, .inr ⟨by decide, by decide⟩, _, rfl, _, _, rfl, rfl, .inl ⟨by decide, by decide⟩, _, _, rfl, rfl, _, _, rfl, rfl, (by show 3 ≤ sizeLine; decide), fun p hp => ?_⟩
        exact k p _ hp ⟨_, _, 0, upd_same, ha _, (hw _).1, (hw _).2, Int.le_refl _, Int.le_refl _⟩ fun c hc => upd_ne hc
      · refine ⟨_, rfl, _, rfl, _, _, rfl, rfl, ⟨by decide, by decide, by decide⟩, _, _, rfl, rfl, _, _, rfl, rfl, (by show (10 ^ Int.toNat 18 + 9 : Int) ≠ 0; decide), _, _, rfl, rfl, .inr ⟨by decide, by decide⟩, _, rfl, _, _, rfl, rfl, .inl ⟨by decide, by decide⟩, _, _, rfl, rfl, _, _, rfl, rfl, (by show 3 ≤ sizeLine; decide), fun p hp => ?_⟩
        exact k p _ hp ⟨_, _, 0, upd_same, Int.le_refl _, (hw _).1, (hw _).2, Int.le_refl _, Int.le_refl _⟩ fun c hc => upd_ne hc
end
end Rf
/-! The mathematics of k05: the cut by greed, told over the words alone. -/
namespace Rf
/-- the block of a word -/
def blk (bd : Option Int) (x : Int) : Int := match bd with
  | none => 0
  | some b => x / b
/-- an open piece from f to below e takes w too -/
def Adj (lg : Int) (bd : Option Int) (f e w : Int) : Prop := w = e ∧ e - f < lg ∧ blk bd f = blk bd e
instance (lg : Int) (bd : Option Int) (f e w : Int) : Decidable (Adj lg bd f e w) := by unfold Adj; infer_instance
/-- the pieces, where the open one lies from f to below e -/
def fl (lg : Int) (bd : Option Int) : List Int → Int → Int → List (Int × Int)
  | [], f, e => [(f, e - f)]
  | w :: ws, f, e => if Adj lg bd f e w then fl lg bd ws f (e + 1) else (f, e - f) :: fl lg bd ws w (w + 1)
def grd (lg : Int) (bd : Option Int) : List Int → List (Int × Int)
  | [] => []
  | w :: ws => fl lg bd ws w (w + 1)
abbrev cnt (lg : Int) (bd : Option Int) (ws : List Int) (f e : Int) : Nat := (fl lg bd ws f e).length
section
variable {lg lg' : Int} {bd bd' : Option Int}
theorem fl_take {ws : List Int} {f e w : Int} (h : Adj lg bd f e w) : fl lg bd (w :: ws) f e = fl lg bd ws f (e + 1) := if_pos h
theorem fl_cut {ws : List Int} {f e w : Int} (h : ¬ Adj lg bd f e w) : fl lg bd (w :: ws) f e = (f, e - f) :: fl lg bd ws w (w + 1) := if_neg h
/-- b ≥ 1 -/
def Pos (bd : Option Int) : Prop := ∀ b, bd = some b → 1 ≤ b
theorem blk_mono (hp : Pos bd) {x y : Int} (h : x ≤ y) : blk bd x ≤ blk bd y := by
  cases bd with
  | none => exact Int.le_refl _
  | some b =>
    have := hp b rfl
    exact Int.ediv_le_ediv (by omega) h
theorem adj_in (hp : Pos bd) {f f' e w : Int} (h1 : f ≤ f') (h2 : f' ≤ e) (h : Adj lg bd f e w) : Adj lg bd f' e w := by
  obtain ⟨a, b, c⟩ := h
  have m1 := blk_mono hp h1
  have m2 := blk_mono hp h2
  exact ⟨a, by omega, by omega⟩
theorem mono2 (hp : Pos bd) : ∀ (ws : List Int), (∀ f f' e, f ≤ f' → f' < e → cnt lg bd ws f' e ≤ cnt lg bd ws f e) ∧ (∀ f f' e, f ≤ f' → f' < e → cnt lg bd ws f e ≤ 1 + cnt lg bd ws f' e)
  | [] => ⟨fun _ _ _ _ _ => Nat.le_refl _, fun _ _ _ _ _ => by show 1 ≤ 1 + 1; omega⟩
  | w :: ws => by
    obtain ⟨i1, i2⟩ := mono2 hp ws
    refine ⟨fun f f' e h1 h2 => ?_, fun f f' e h1 h2 => ?_⟩
    · unfold cnt
      by_cases q : Adj lg bd f e w
      · rw [fl_take q, fl_take (adj_in hp h1 (by omega) q)]
        exact i1 _ _ _ h1 (by omega)
      · rw [fl_cut q]
        by_cases q' : Adj lg bd f' e w
        · rw [fl_take q', List.length_cons]
          have z := i2 f' e (e + 1) (by omega) (by omega)
          rw [q'.1]
          unfold cnt at z
          omega
        · rw [fl_cut q']
          exact Nat.le_refl _
    · unfold cnt
      by_cases q : Adj lg bd f e w
      · rw [fl_take q, fl_take (adj_in hp h1 (by omega) q)]
        exact i2 _ _ _ h1 (by omega)
      · rw [fl_cut q]
        by_cases q' : Adj lg bd f' e w
        · rw [fl_take q', List.length_cons]
          have z := i1 f' e (e + 1) (by omega) (by omega)
          rw [q'.1]
          unfold cnt at z
          omega
        · rw [fl_cut q']
          simp only [List.length_cons]
          omega
/-- what is allowed with less is allowed with more -/
def Weaker (lg : Int) (bd : Option Int) (lg' : Int) (bd' : Option Int) : Prop := ∀ f e w, Adj lg bd f e w → Adj lg' bd' f e w
theorem fewer_cnt (hp' : Pos bd') (k : Weaker lg bd lg' bd') : ∀ (ws : List Int) (f e : Int), f < e → cnt lg' bd' ws f e ≤ cnt lg bd ws f e
  | [], f, e, _ => Nat.le_refl _
  | w :: ws, f, e, h => by
    unfold cnt
    by_cases q : Adj lg bd f e w
    · rw [fl_take q, fl_take (k _ _ _ q)]
      exact fewer_cnt hp' k ws _ _ (by omega)
    · rw [fl_cut q, List.length_cons]
      have i := fewer_cnt hp' k ws w (w + 1) (by omega)
      by_cases q' : Adj lg' bd' f e w
      · rw [fl_take q']
        have z := (mono2 (lg := lg') hp' ws).2 f w (e + 1) (by have := q'.1; omega) (by have := q'.1; omega)
        rw [← q'.1] at z ⊢
        unfold cnt at z i
        omega
      · rw [fl_cut q', List.length_cons]
        unfold cnt at i
        omega
theorem fewer (hp' : Pos bd') (k : Weaker lg bd lg' bd') : ∀ (ws : List Int), (grd lg' bd' ws).length ≤ (grd lg bd ws).length
  | [] => Nat.le_refl _
  | w :: ws => fewer_cnt hp' k ws w (w + 1) (by omega)
theorem weaker_none (h : lg ≤ lg') : Weaker lg bd lg' none := fun f e w ⟨a, b, c⟩ => ⟨a, by omega, rfl⟩
theorem weaker_lg (h : lg ≤ lg') : Weaker lg bd lg' bd := fun f e w ⟨a, b, c⟩ => ⟨a, by omega, c⟩
theorem weaker_two {b : Int} (hb : 0 ≤ b) : Weaker lg (some b) lg (some (2 * b)) := fun f e w ⟨a, h, c⟩ => ⟨a, h, by
  show f / (2 * b) = e / (2 * b)
  have c' : f / b = e / b := c
  rw [Int.mul_comm, ← Int.ediv_ediv_of_nonneg hb, ← Int.ediv_ediv_of_nonneg hb, c']⟩
/-! ### the words of the pieces -/
theorem wordsI_cons (f : Int) (n : Nat) : wordsI f (n + 1) = f :: wordsI (f + 1) n := by
  unfold wordsI
  rw [List.range_succ_eq_map, List.map_cons, List.map_map]
  congr 1
  · simp
  · apply List.map_congr_left
    intro j _
    show f + ((j + 1 : Nat) : Int) = f + 1 + (j : Int)
    omega
theorem wordsI_zero (f : Int) : wordsI f 0 = [] := rfl
theorem wordsI_snoc (f : Int) (n : Nat) : wordsI f (n + 1) = wordsI f n ++ [f + (n : Int)] := by
  unfold wordsI
  rw [List.range_succ, List.map_append]
  rfl
/-- the words of runs -/
def flat (rs : List (Int × Int)) : List Int := rs.flatMap fun r => wordsI r.1 r.2.toNat
theorem flat_cons (r : Int × Int) (rs : List (Int × Int)) : flat (r :: rs) = wordsI r.1 r.2.toNat ++ flat rs := rfl
theorem flat_fl : ∀ (ws : List Int) (f e : Int), f ≤ e → flat (fl lg bd ws f e) = wordsI f (e - f).toNat ++ ws
  | [], f, e, _ => by
    show wordsI f (e - f).toNat ++ [] = _
    rfl
  | w :: ws, f, e, h => by
    by_cases q : Adj lg bd f e w
    · rw [fl_take q, flat_fl ws f (e + 1) (by omega), q.1]
      rw [show (e + 1 - f).toNat = (e - f).toNat + 1 by omega, wordsI_snoc, List.append_assoc]
      rw [show f + ((e - f).toNat : Int) = e by omega]
      rfl
    · rw [fl_cut q, flat_cons, flat_fl ws w (w + 1) (by omega)]
      rw [show (w + 1 - w).toNat = 0 + 1 by omega, wordsI_cons, wordsI_zero]
      rfl
theorem flat_grd : ∀ (ws : List Int), flat (grd lg bd ws) = ws
  | [] => rfl
  | w :: ws => by
    show flat (fl lg bd ws w (w + 1)) = _
    rw [flat_fl ws w (w + 1) (by omega), show (w + 1 - w).toNat = 0 + 1 by omega, wordsI_cons, wordsI_zero]
    rfl
/-- an allowed piece -/
def Okp (lg : Int) (bd : Option Int) (r : Int × Int) : Prop := 1 ≤ r.2 ∧ r.2 ≤ lg ∧ blk bd r.1 = blk bd (r.1 + r.2 - 1)
theorem okp_fl (h1 : 1 ≤ lg) : ∀ (ws : List Int) (f e : Int), f < e → e - f ≤ lg → blk bd f = blk bd (e - 1) → ∀ r ∈ fl lg bd ws f e, Okp lg bd r
  | [], f, e, a, b, c, r, hr => by
    have z : r = (f, e - f) := by simpa [fl] using hr
    subst z
    exact ⟨by show 1 ≤ e - f; omega, b, by show blk bd f = blk bd (f + (e - f) - 1); rw [show f + (e - f) - 1 = e - 1 by omega]; exact c⟩
  | w :: ws, f, e, a, b, c, r, hr => by
    by_cases q : Adj lg bd f e w
    · rw [fl_take q] at hr
      exact okp_fl h1 ws f (e + 1) (by omega) (by have := q.2.1; omega) (by rw [show e + 1 - 1 = e by omega]; exact q.2.2) r hr
    · rw [fl_cut q] at hr
      rcases List.mem_cons.mp hr with z | z
      · subst z
        exact ⟨by show 1 ≤ e - f; omega, b, by show blk bd f = blk bd (f + (e - f) - 1); rw [show f + (e - f) - 1 = e - 1 by omega]; exact c⟩
      · exact okp_fl h1 ws w (w + 1) (by omega) (by omega) (by rw [show w + 1 - 1 = w by omega]) r z
theorem okp_grd (h1 : 1 ≤ lg) : ∀ (ws : List Int), ∀ r ∈ grd lg bd ws, Okp lg bd r
  | [], r, h => by cases h
  | w :: ws, r, h => okp_fl h1 ws w (w + 1) (by omega) (by omega) (by rw [show w + 1 - 1 = w by omega]) r h
/-! ### what segments cuts is the cut by greed of its words -/
theorem fl_run (c : Cut lg bd) {f e : Int} {ws : List Int} (f0 : 0 ≤ f) (hfe : f < e) (hw : ∀ w ws', ws = w :: ws' → w ≠ e) : ∀ (n : Nat) (x : Int), f < x → x ≤ nxt lg bd f e → (nxt lg bd f e - x).toNat = n →
    fl lg bd (wordsI x (e - x).toNat ++ ws) f x = (f, nxt lg bd f e - f) :: grd lg bd (wordsI (nxt lg bd f e) (e - nxt lg bd f e).toNat ++ ws) := by
  obtain ⟨n1, n2⟩ := nxt_lt c f0 hfe
  intro n
  induction n with
  | zero =>
    intro x h1 h2 h3
    have ex : x = nxt lg bd f e := by omega
    subst ex
    generalize hx : nxt lg bd f e = x at *
    by_cases q : x = e
    · subst q
      rw [show (x - x).toNat = 0 by omega, wordsI_zero, List.nil_append]
      cases ws with
      | nil => rfl
      | cons w ws' =>
        rw [fl_cut (fun z => hw w ws' rfl z.1)]
        rfl
    · obtain ⟨k, hk⟩ : ∃ k, (e - x).toNat = k + 1 := ⟨(e - x).toNat - 1, by omega⟩
      rw [hk, wordsI_cons, List.cons_append, fl_cut]
      · rfl
      · rintro ⟨_, a, b⟩
        unfold nxt at hx
        cases bd with
        | none => simp only [] at hx; omega
        | some b' =>
          obtain ⟨b1, _⟩ := c.b1 b' rfl
          simp only [] at hx
          have hb : f / b' = x / b' := b
          have hx2 : x < (x / b' + 1) * b' := Int.lt_ediv_add_one_mul_self x (by omega)
          rw [← hb] at hx2
          omega
  | succ n ih =>
    intro x h1 h2 h3
    obtain ⟨k, hk⟩ : ∃ k, (e - x).toNat = k + 1 := ⟨(e - x).toNat - 1, by omega⟩
    have hxn : x < nxt lg bd f e := by omega
    rw [hk, wordsI_cons, List.cons_append, fl_take]
    · rw [← ih (x + 1) (by omega) (by omega) (by omega), show (e - (x + 1)).toNat = k by omega]
    · unfold nxt at hxn
      cases bd with
      | none => exact ⟨rfl, by simp only [] at hxn; omega, rfl⟩
      | some b' =>
        obtain ⟨b1, _⟩ := c.b1 b' rfl
        simp only [] at hxn
        refine ⟨rfl, by omega, ?_⟩
        show f / b' = x / b'
        have l1 : f / b' ≤ x / b' := Int.ediv_le_ediv (by omega) (by omega)
        have l2 : x / b' < f / b' + 1 := Int.ediv_lt_of_lt_mul (by omega) (by omega)
        omega
theorem grd_pieces (c : Cut lg bd) {e : Int} {ws : List Int} (hw : ∀ w ws', ws = w :: ws' → w ≠ e) : ∀ (n : Nat) (f : Int), 0 ≤ f → (e - f).toNat = n → grd lg bd (wordsI f (e - f).toNat ++ ws) = pieces lg bd f e ++ grd lg bd ws := by
  intro n
  induction n using Nat.strongRecOn with
  | _ n ih =>
    intro f f0 hn
    by_cases q : f < e
    · obtain ⟨n1, n2⟩ := nxt_lt c f0 q
      obtain ⟨k, hk⟩ : ∃ k, (e - f).toNat = k + 1 := ⟨(e - f).toNat - 1, by omega⟩
      rw [pieces_step c f0 q, hk, wordsI_cons, List.cons_append]
      show fl lg bd _ f (f + 1) = _
      have z := fl_run c f0 q hw _ (f + 1) (by omega) (by omega) rfl
      rw [show (e - (f + 1)).toNat = k by omega] at z
      rw [z, List.cons_append, ih _ (by omega) (nxt lg bd f e) (by omega) rfl]
    · rw [pieces_nil q, show (e - f).toNat = 0 by omega, wordsI_zero]
      rfl
theorem wordsI_app (f : Int) (a b : Nat) : wordsI f (a + b) = wordsI f a ++ wordsI (f + (a : Int)) b := by
  induction b with
  | zero => simp [wordsI_zero]
  | succ b ih =>
    rw [show a + (b + 1) = (a + b) + 1 by omega, wordsI_snoc, wordsI_snoc, ih, List.append_assoc]
    rw [show f + ((a + b : Nat) : Int) = f + (a : Int) + (b : Int) by omega]
theorem sgs_grd (c : Cut lg bd) : ∀ (rs : List (Int × Int)) (f e : Int), (∀ r ∈ rs, 0 ≤ r.1 ∧ 1 ≤ r.2) → 0 ≤ f → f ≤ e → sgs lg bd rs f e = grd lg bd (wordsI f (e - f).toNat ++ flat rs)
  | [], f, e, _, f0, fe => by
    show pieces lg bd f e = grd lg bd (wordsI f (e - f).toNat ++ [])
    rw [grd_pieces c (ws := []) (e := e) (by intro w ws' h; cases h) _ f f0 rfl]
    show _ = _ ++ []
    rw [List.append_nil]
  | r :: rs, f, e, hr, f0, fe => by
    obtain ⟨r0, r1⟩ := hr r (.head _)
    have hr' : ∀ r ∈ rs, 0 ≤ r.1 ∧ 1 ≤ r.2 := fun x h => hr x (.tail _ h)
    show (if r.1 = e then _ else _) = _
    by_cases q : r.1 = e
    · rw [if_pos q, sgs_grd c rs f (r.1 + r.2) hr' f0 (by omega), flat_cons, ← List.append_assoc]
      rw [show (r.1 + r.2 - f).toNat = (e - f).toNat + r.2.toNat by omega, wordsI_app, show f + ((e - f).toNat : Int) = r.1 by omega]
    · rw [if_neg q, sgs_grd c rs r.1 (r.1 + r.2) hr' r0 (by omega), flat_cons, show r.1 + r.2 - r.1 = r.2 by omega]
      rw [grd_pieces c (ws := wordsI r.1 r.2.toNat ++ flat rs) (e := e) (fun w ws' h => ?_) _ f f0 rfl]
      obtain ⟨k, hk⟩ : ∃ k, r.2.toNat = k + 1 := ⟨r.2.toNat - 1, by omega⟩
      rw [hk, wordsI_cons, List.cons_append] at h
      have := (List.cons.inj h).1
      omega
/-- what segments cuts speaks of the words alone -/
theorem segs_grd (c : Cut lg bd) {rs : List (Int × Int)} (hr : ∀ r ∈ rs, 0 ≤ r.1 ∧ 1 ≤ r.2) : segs lg bd rs = grd lg bd (flat rs) := by
  unfold segs
  rw [sgs_grd c rs 0 0 hr (Int.le_refl _) (Int.le_refl _)]
  rfl
/-! ### the fewest -/
theorem fl_alone (hp : Pos bd) : ∀ (ws : List Int) (f e : Int), f < e → cnt lg bd ws f e ≤ 1 + (grd lg bd ws).length
  | [], f, e, h => by show 1 ≤ 1 + 0; omega
  | w :: ws, f, e, h => by
    unfold cnt
    show _ ≤ 1 + (fl lg bd ws w (w + 1)).length
    by_cases q : Adj lg bd f e w
    · rw [fl_take q]
      have z := (mono2 (lg := lg) hp ws).2 f w (e + 1) (by have := q.1; omega) (by have := q.1; omega)
      rw [← q.1] at z ⊢
      exact z
    · rw [fl_cut q, List.length_cons]
      omega
theorem fl_along {post : List Int} {f : Int} : ∀ (k : Nat) (e : Int), f < e → e - f + (k : Int) ≤ lg → (∀ x, f ≤ x → x < e + (k : Int) → blk bd f = blk bd x) → fl lg bd (wordsI e k ++ post) f e = fl lg bd post f (e + (k : Int))
  | 0, e, _, _, _ => by rw [wordsI_zero]; simp
  | k + 1, e, h1, h2, h3 => by
    rw [wordsI_cons, List.cons_append, fl_take ⟨rfl, by omega, h3 e (by omega) (by omega)⟩, fl_along k (e + 1) (by omega) (by omega) (fun x a b => h3 x a (by omega))]
    rw [show e + 1 + (k : Int) = e + ((k + 1 : Nat) : Int) by omega]
/-- an allowed first piece is never better than greed -/
theorem grd_le (hp : Pos bd) {w : Int} {k : Nat} {post : List Int} (h1 : 1 ≤ k) (h2 : (k : Int) ≤ lg) (h3 : blk bd w = blk bd (w + (k : Int) - 1)) : (grd lg bd (wordsI w k ++ post)).length ≤ 1 + (grd lg bd post).length := by
  obtain ⟨j, rfl⟩ : ∃ j, k = j + 1 := ⟨k - 1, by omega⟩
  rw [wordsI_cons, List.cons_append]
  show (fl lg bd (wordsI (w + 1) j ++ post) w (w + 1)).length ≤ _
  rw [fl_along j (w + 1) (by omega) (by omega) (fun x a b => ?_)]
  · exact fl_alone hp post _ _ (by omega)
  · have m1 := blk_mono hp (x := w) (y := x) a
    have m2 := blk_mono hp (x := x) (y := w + ((j + 1 : Nat) : Int) - 1) (by omega)
    omega
theorem fl_head : ∀ (ws : List Int) (f e : Int), f < e → e - f ≤ lg → blk bd f = blk bd (e - 1) → ∃ (k : Nat) (post : List Int), fl lg bd ws f e = (f, (k : Int)) :: grd lg bd post ∧ wordsI f (e - f).toNat ++ ws = wordsI f k ++ post ∧ Okp lg bd (f, (k : Int))
  | [], f, e, a, b, c => ⟨(e - f).toNat, [], by show [(f, e - f)] = [(f, _)]; rw [show (((e - f).toNat : Nat) : Int) = e - f by omega], rfl, ⟨by show 1 ≤ (((e - f).toNat : Nat) : Int); omega, by show (((e - f).toNat : Nat) : Int) ≤ lg; omega, by show blk bd f = blk bd (f + (((e - f).toNat : Nat) : Int) - 1); rw [show f + (((e - f).toNat : Nat) : Int) - 1 = e - 1 by omega]; exact c⟩⟩
  | w :: ws, f, e, a, b, c => by
    by_cases q : Adj lg bd f e w
    · obtain ⟨k, post, h1, h2, h3⟩ := fl_head ws f (e + 1) (by omega) (by have := q.2.1; omega) (by rw [show e + 1 - 1 = e by omega]; exact q.2.2)
      refine ⟨k, post, by rw [fl_take q]; exact h1, ?_, h3⟩
      rw [← h2, show (e + 1 - f).toNat = (e - f).toNat + 1 by omega, wordsI_snoc, List.append_assoc, show f + ((e - f).toNat : Int) = e by omega, q.1]
      rfl
    · refine ⟨(e - f).toNat, w :: ws, ?_, rfl, ⟨by show 1 ≤ (((e - f).toNat : Nat) : Int); omega, by show (((e - f).toNat : Nat) : Int) ≤ lg; omega, by show blk bd f = blk bd (f + (((e - f).toNat : Nat) : Int) - 1); rw [show f + (((e - f).toNat : Nat) : Int) - 1 = e - 1 by omega]; exact c⟩⟩
      rw [fl_cut q, show (((e - f).toNat : Nat) : Int) = e - f by omega]
      rfl
theorem grd_head (h1 : 1 ≤ lg) {ws : List Int} (h : ws ≠ []) : ∃ (w : Int) (k : Nat) (post : List Int), grd lg bd ws = (w, (k : Int)) :: grd lg bd post ∧ ws = wordsI w k ++ post ∧ Okp lg bd (w, (k : Int)) := by
  cases ws with
  | nil => exact absurd rfl h
  | cons w ws =>
    obtain ⟨k, post, a, b, c⟩ := fl_head (lg := lg) (bd := bd) ws w (w + 1) (by omega) (by omega) (by rw [show w + 1 - 1 = w by omega])
    refine ⟨w, k, post, a, ?_, c⟩
    rw [← b, show (w + 1 - w).toNat = 0 + 1 by omega, wordsI_cons, wordsI_zero]
    rfl
/-! what the law calls allowed -/
def Alw (lg : Int) (bd : Option Int) (ws : List Int) : Prop := (ws.length : Int) ≤ lg ∧ ws = wordsI (ws.headD 0) ws.length ∧ blk bd (ws.headD 0) = blk bd (ws.getLastD 0)
instance (ws : List Int) : Decidable (Alw lg bd ws) := by unfold Alw; infer_instance
theorem words_head {f : Int} {k : Nat} (h : 1 ≤ k) : (wordsI f k).headD 0 = f := by
  obtain ⟨j, rfl⟩ : ∃ j, k = j + 1 := ⟨k - 1, by omega⟩
  rw [wordsI_cons]
  rfl
theorem words_last {f : Int} {k : Nat} (h : 1 ≤ k) : (wordsI f k).getLastD 0 = f + (k : Int) - 1 := by
  obtain ⟨j, rfl⟩ : ∃ j, k = j + 1 := ⟨k - 1, by omega⟩
  rw [wordsI_snoc, List.getLastD_concat]
  omega
theorem alw_okp {f : Int} {k : Nat} (h : 1 ≤ k) : Alw lg bd (wordsI f k) ↔ Okp lg bd (f, (k : Int)) := by
  unfold Alw Okp
  rw [words_head h, words_last h, wordsI_len]
  constructor
  · rintro ⟨a, _, c⟩
    exact ⟨by show (1 : Int) ≤ (k : Int); omega, a, c⟩
  · rintro ⟨_, a, c⟩
    exact ⟨a, rfl, c⟩
/-- where the law looks for the best end: no allowed end is better than greed, and one is as good -/
theorem best_le (hp : Pos bd) {W : List Int} {i e : Nat} (h1 : i < e) (h2 : e ≤ W.length) (h : Alw lg bd ((W.take e).drop i)) : (grd lg bd (W.drop i)).length ≤ 1 + (grd lg bd (W.drop e)).length := by
  have hl : ((W.take e).drop i).length = e - i := by rw [List.length_drop, List.length_take]; omega
  have hs : W.drop i = (W.take e).drop i ++ W.drop e := by
    conv => lhs; rw [← List.take_append_drop e W]
    rw [List.drop_append_of_le_length (by rw [List.length_take]; omega)]
  obtain ⟨a, b, c⟩ := h
  rw [hs, b, hl]
  have hk : 1 ≤ e - i := by omega
  have hlast : ((W.take e).drop i).getLastD 0 = ((W.take e).drop i).headD 0 + ((e - i : Nat) : Int) - 1 := by
    conv => lhs; rw [b, hl]
    exact words_last hk
  rw [hlast] at c
  rw [hl] at a
  exact grd_le hp hk a c
theorem best_ex (h1 : 1 ≤ lg) {W : List Int} {i : Nat} (h : i < W.length) : ∃ e, i < e ∧ e ≤ W.length ∧ (e : Int) ≤ (i : Int) + lg ∧ Alw lg bd ((W.take e).drop i) ∧ (grd lg bd (W.drop i)).length = 1 + (grd lg bd (W.drop e)).length := by
  obtain ⟨w, k, post, a, b, c⟩ := grd_head (lg := lg) (bd := bd) h1 (ws := W.drop i) (by intro z; have := congrArg List.length z; rw [List.length_drop] at this; simp at this; omega)
  have c1 : (1 : Int) ≤ (k : Int) := c.1
  have c2 : (k : Int) ≤ lg := c.2.1
  have hk : 1 ≤ k := by omega
  have hl : W.length - i = k + post.length := by
    have z := congrArg List.length b
    rw [List.length_drop, List.length_append, wordsI_len] at z
    exact z
  have e1 : (W.take (i + k)).drop i = wordsI w k := by
    rw [List.drop_take, show i + k - i = k by omega, b, List.take_left' (wordsI_len w k)]
  have e2 : W.drop (i + k) = post := by
    rw [← List.drop_drop, b, List.drop_left' (wordsI_len w k)]
  refine ⟨i + k, by omega, by omega, by omega, by rw [e1]; exact (alw_okp hk).mpr c, ?_⟩
  rw [e2, a, List.length_cons]
  omega
end
end Rf
namespace Rf
open PySem L2
/-- what was there stands, but for b -/
def OffN (b : Addr) (H H' : Hp) : Prop := ∀ c, H c ≠ none → c ≠ b → H' c = H c
theorem OffN.refl {b : Addr} {H : Hp} : OffN b H H := fun _ _ _ => rfl
theorem OffN.put {b l : Addr} {H H' : Hp} {o : HO} (h : OffN b H H') (hl : H l = none) : OffN b H (upd H' l o) := fun c hc hb => by
  rw [upd_ne (fun z => hc (by rw [z]; exact hl))]
  exact h c hc hb
theorem OffN.step {b : Addr} {H H' H'' : Hp} (h : OffN b H H') (o : Off b H' H'') : OffN b H H'' := fun c hc hb => (o c hb).trans (h c hc hb)
theorem OffN.same {b : Addr} {H H' : Hp} (h : OffN b H H') {c : Addr} {o : HO} (e : H c = some o) (hb : c ≠ b) : H' c = some o := (h c (by rw [e]; simp) hb).trans e
theorem OffN.free {b : Addr} {H H' : Hp} (h : OffN b H H') {c : Addr} (e : H' c = none) (hb : c ≠ b) : H c = none := by
  cases z : H c with
  | none => rfl
  | some o => rw [h.same z hb] at e; cases e
def PairsAt (H : Hp) (ts : List Addr) (rs : List (Int × Int)) : Prop := Paired (fun (t : Addr) (r : Int × Int) => H t = some (.tup [.int r.1, .int r.2])) ts rs
theorem at4 {x0 x1 x2 x3 : Int} {r : Int} (h0 : 0 ≤ r) (h1 : r < 4) : ∃ z, atI [V.int x0, V.int x1, V.int x2, V.int x3] r = some (V.int z) ∧ (z = x0 ∨ z = x1 ∨ z = x2 ∨ z = x3) := by
  rcases (show r = 0 ∨ r = 1 ∨ r = 2 ∨ r = 3 by omega) with q | q | q | q <;> rw [q]
  · exact ⟨x0, rfl, .inl rfl⟩
  · exact ⟨x1, rfl, .inr (.inl rfl)⟩
  · exact ⟨x2, rfl, .inr (.inr (.inl rfl))⟩
  · exact ⟨x3, rfl, .inr (.inr (.inr rfl))⟩
theorem BagAt.le {H : Hp} {b : Addr} {N M : Nat} (h : BagAt H b N) (hn : N ≤ M) : BagAt H b M := by
  obtain ⟨l, x, c, e, a1, a2, a3, a4, a5⟩ := h
  exact ⟨l, x, c, e, a1, a2, a3, a4, by omega⟩
theorem BagAt.put {H : Hp} {b l : Addr} {N : Nat} {o : HO} (h : BagAt H b N) (hl : b ≠ l) : BagAt (upd H l o) b N := by
  obtain ⟨l', x, c, e, r⟩ := h
  exact ⟨l', x, c, by rw [upd_ne hl]; exact e, r⟩
theorem BagAt.ne {H : Hp} {b l : Addr} {N : Nat} (h : BagAt H b N) (hl : H l = none) : b ≠ l := fun z => by
  obtain ⟨_, _, _, e, _⟩ := h
  rw [z, hl] at e
  cases e
theorem BagAt.sameN {H H' : Hp} {b : Addr} {N : Nat} (h : BagAt H b N) (k : Same H H') : BagAt H' b N := by
  obtain ⟨l, x, c, e, r⟩ := h
  exact ⟨l, x, c, k _ _ e, r⟩
theorem offN_same {b : Addr} {H H' : Hp} (k : Same H H') : OffN b H H' := fun c hc _ => by
  cases h : H c with
  | none => exact absurd h hc
  | some o => exact k _ _ h
theorem offN_of {b : Addr} {H H' : Hp} (k : Off b H H') : OffN b H H' := fun c _ hb => k c hb
theorem offN_put {b l : Addr} {H : Hp} {o : HO} (h : H l = none) : OffN b H (upd H l o) := offN_same (put_same h)
theorem OffN.trans {b : Addr} {H H' H'' : Hp} (h : OffN b H H') (k : OffN b H' H'') : OffN b H H'' := fun c hc hb => (k c (by rw [h c hc hb]; exact hc) hb).trans (h c hc hb)
theorem BagAt.runs {C b : Addr} {as : List Addr} {rs : List (Int × Int)} {N : Nat} {H H' : Hp} (hb : BagAt H b N) (f : OffN b H H') (r : RunsAt C H as rs) : RunsAt C H' as rs := L2.Paired.mapP r fun q r ⟨d, z⟩ => ⟨d, f.same z (fun y => by
  obtain ⟨_, _, _, eb, _⟩ := hb
  rw [y, eb] at z
  cases z)⟩
end Rf
namespace Rf
open PySem L2
abbrev sLWords : Stmt := top 16
abbrev EN : XK := fun _ _ _ => False
theorem passN {X : Cx} : Passes (L2.CX X.prog X.w) X EN := fun _ _ _ _ _ _ _ h => by
  obtain ⟨_, _, _, _, _, _, _, _, _, _, _, _, z⟩ := h
  exact z.elim
theorem noStopN {K : PySem.W.Frag} : NoStop K EN := fun _ _ _ z => z.elim
/-- runs whose words are listed -/
structure Ws (rs : List (Int × Int)) : Prop where
  ok : ∀ r ∈ rs, 0 ≤ r.1 ∧ r.1 ≤ 2 ^ 50 ∧ 1 ≤ r.2 ∧ r.2 ≤ 10000
  all : (flat rs).length ≤ 10000
theorem flat_app (rs ss : List (Int × Int)) : flat (rs ++ ss) = flat rs ++ flat ss := by
  unfold flat
  rw [List.flatMap_append]
theorem flat_take_len (rs : List (Int × Int)) (i : Nat) : (flat (rs.take i)).length ≤ (flat rs).length := by
  conv => rhs; rw [← List.take_append_drop i rs, flat_app, List.length_append]
  exact Nat.le_add_right _ _
theorem flat_take_succ {rs : List (Int × Int)} {i : Nat} (h : i < rs.length) : flat (rs.take (i + 1)) = flat (rs.take i) ++ wordsI (rs[i]).1 (rs[i]).2.toNat := by
  rw [List.take_succ_eq_append_getElem h, flat_app]
  show _ ++ (_ ++ flat []) = _
  rw [show flat [] = [] from rfl, List.append_nil]
/-- _law_words(runs) -/
def spLWords (C : Addr) : Sp := fun vs H Q _ => ∃ (a : Addr) (as : List Addr) (rs : List (Int × Int)), vs = [.ref a] ∧ H a = some (.lst (as.map V.ref)) ∧ RunsAt C H as rs ∧ Ws rs ∧
  ∀ (l : Addr) (H' : Hp), Same H H' → H l = none → H' l = some (.lst ((flat rs).map V.int)) → Q (.ref l) H'
section
variable {P : Program} {w : World} {K : PySem.W.Frag} {mg : Str → Option Value} {base : Heap} {C : Addr} {mc : Value} {tM : Tok}
theorem scLWords : FnScope ["_law_runs_here", "_law_found", "_law_run"] ["_law_runs_here"] (defScope sLWords) := ⟨rfl, rfl, rfl, by decide +kernel, rfl, by decide +kernel, by decide +kernel⟩
theorem ok_lwords {f fW : Addr} {fd fdW : FuncData} (F : Fun K "_law_words" "_law_words" sLWords f fd) (T : TR K mg C mc tM) (B : TB mg) (GW : GFn P w K mg base 4 fW fdW ["self"] (spWords C)) (bW : Binds K fdW ["self"] []) (mW : Meth K C "words" fW) : FnOk P w K mg base CX0 8 f fd ["_law_runs_here"] (spLWords C) := by
  refine F.ok scLWords (fun vs H Q E h => ?_) (fun cdv A outer s H vs Q E hr h => ?_)
  · obtain ⟨a, as, rs, rfl, _⟩ := h
    rfl
  · obtain ⟨a, as, rs, rfl, ha, hrs, ws, k⟩ := h
    have hlen : as.length = rs.length := Paired.length hrs
    have hr6 : Room 7 _ := hr.mono (by decide)
    refine ⟨_, pss_cons (ps_set (i := 1) scLWords.nd rfl (Or.inl rfl) (pe_lst pa_nil))
      (pss_cons (ps_for PassesOwn.never rfl (pi_list (pv 0)) (pg_name (i := 2) scLWords.nd rfl (Or.inl rfl))
        (pss_one (ps_set (i := 1) scLWords.nd rfl (Or.inl rfl) (pe_op op_cat (pv 1) (pe_listG (pgen_meth0 (E := EN) (pv 2) T.cl mW GW (hr.mono (by decide)) bW .nil) passN noStopN (hr.mono (by decide)) (by rfl) B.list (by decide +kernel))))))
      (pss_one (ps_ret (pv 1)))), ?_⟩
    refine ⟨Nat.zero_le _, fun l hl => ?_⟩
    have al : a ≠ l := ne_of_none ha hl
    refine ⟨_, rfl, a, rfl, ⟨_, SqL.of (put_same hl _ _ ha)⟩, for_list (K := K) (a := a) (xs := as.map V.ref) (fun i σ H' => ∃ (p : Addr) (v2 : Option V), σ = [some (.ref a), some (.ref p), v2] ∧ Same H H' ∧ H p = none ∧ H' p = some (.lst ((flat (rs.take i)).map V.int)))
      ⟨l, none, rfl, put_same hl, hl, upd_same⟩ (fun i σ H' _ ⟨_, _, _, s, _⟩ => s.seq (SqL.of ha)) ?_ ?_⟩
    · rintro i x σ H1 hx ⟨p, v2, rfl, s1, p0, h1⟩
      have hil : i < as.length := by
        have q := (List.getElem?_eq_some_iff.mp hx).1
        rw [List.length_map] at q
        exact q
      have hir : i < rs.length := by omega
      have ex : x = V.ref as[i] := by
        rw [List.getElem?_map, List.getElem?_eq_getElem hil] at hx
        exact (Option.some.inj hx).symm
      subst ex
      obtain ⟨ai, hai, dx, hd⟩ := paired_at hrs (i := i) (List.getElem?_eq_getElem hir)
      rw [List.getElem?_eq_getElem hil] at hai
      have eai : as[i] = ai := Option.some.inj hai
      rw [eai]
      obtain ⟨g0, g1, g2, g3⟩ := ws.ok rs[i] (List.getElem_mem hir)
      have ft := flat_take_succ hir
      have fl1 := flat_take_len rs (i + 1)
      have wa := ws.all
      generalize rs[i] = r at hd g0 g1 g2 g3 ft
      rw [ft, List.length_append, wordsI_len] at fl1
      have hd1 : H1 ai = some (.ins C dx (rf r.1 r.2)) := s1 _ _ hd
      refine ⟨_, rfl, _, rfl, ai, dx, _, rfl, hd1, rf_no _ _ (by decide +kernel) (by decide +kernel), ai, r.1, r.2, rfl, ⟨dx, hd1⟩, g0, by omega, by omega, by omega, fun q hq => ?_⟩
      have pq : p ≠ q := ne_of_none h1 hq
      refine ⟨p, q, _, _, rfl, rfl, by rw [upd_ne pq]; exact h1, upd_same, ?_, fun z hz => ?_⟩
      · rw [List.length_map, List.length_map, wordsI_len]
        exact Nat.le_trans (show _ ≤ 10000 by omega) (by decide)
      · have zq : q ≠ z := fun e => by rw [e, upd_same] at hz; cases hz
        have hz1 : H1 z = none := by rw [upd_ne zq.symm] at hz; exact hz
        refine ⟨z, _, rfl, fun c o e => ?_, s1.free hz1, ?_⟩
        · rw [upd_ne (ne_of_none (s1 _ _ e) hz1), upd_ne (ne_of_none (s1 _ _ e) hq)]
          exact s1 _ _ e
        · rw [upd_same, ft, List.map_append]
    · rintro σ H1 ⟨p, v2, rfl, s1, p0, h1⟩
      rw [List.length_map, hlen, List.take_length] at h1
      exact ⟨_, rfl, k p H1 s1 p0 h1⟩
end
end Rf
namespace Rf
open PySem L2
theorem two_of {α : Type} {ws : List α} (h : ws.length = 2) : ∃ a b, ws = [a, b] := match ws, h with
  | [a, b], _ => ⟨a, b, rfl⟩
section
variable {P : Program} {w : World} {K : PySem.W.Frag} {mg : Str → Option Value} {base : Heap} {C : Addr} {mc : Value} {tM : Tok}
theorem segs_lb {f : Addr} {fd : FuncData} (F : FunD K "segments" "segments" (defArgs sSegs) (defBody sSegs) (defScope sSegs) [] [("boundary", .non)] f fd) :
    ∃ mv : List Value, KBn K fd ["runs", "longest", "boundary"] 1 ["longest", "boundary"] (fun us ws => us ++ ws ++ mv) (fun vs zs => vs ++ zs ++ []) :=
  F.kbinds0 1 ["longest", "boundary"] [] (fun us mv ws => us ++ ws ++ mv) (by simp) (fun q h => by cases h) (fun a b c => (a.append c).append b) (fun D doc pm an cdv ct us mv ws h1 h2 h3 => by
    obtain ⟨u, rfl⟩ : ∃ u, us = [u] := List.length_eq_one_iff.mp h1
    obtain ⟨a, b, rfl⟩ : ∃ a b, ws = [a, b] := two_of h3
    have := List.length_eq_zero_iff.mp h2
    subst this
    show _ = pure _
    rfl)
theorem segs_bl {f : Addr} {fd : FuncData} (F : FunD K "segments" "segments" (defArgs sSegs) (defBody sSegs) (defScope sSegs) [] [("boundary", .non)] f fd) :
    ∃ mv : List Value, KBn K fd ["runs", "longest", "boundary"] 1 ["boundary", "longest"] (fun us ws => us ++ ws.reverse ++ mv) (fun vs zs => vs ++ zs.reverse ++ []) :=
  F.kbinds0 1 ["boundary", "longest"] [] (fun us mv ws => us ++ ws.reverse ++ mv) (by simp) (fun q h => by cases h) (fun a b c => (a.append c.reverse).append b) (fun D doc pm an cdv ct us mv ws h1 h2 h3 => by
    obtain ⟨u, rfl⟩ : ∃ u, us = [u] := List.length_eq_one_iff.mp h1
    obtain ⟨a, b, rfl⟩ : ∃ a b, ws = [a, b] := two_of h3
    have := List.length_eq_zero_iff.mp h2
    subst this
    show _ = pure _
    rfl)
theorem segs_l {f : Addr} {fd : FuncData} (F : FunD K "segments" "segments" (defArgs sSegs) (defBody sSegs) (defScope sSegs) [] [("boundary", .non)] f fd) :
    ∃ mv : List Value, KBn K fd ["runs", "longest", "boundary"] 1 ["longest"] (fun us ws => us ++ ws ++ mv) (fun vs zs => vs ++ zs ++ [V.non]) :=
  F.kbinds0 1 ["longest"] [("boundary", .non)] (fun us mv ws => us ++ ws ++ mv) (by simp) (fun q h => h) (fun a b c => (a.append c).append b) (fun D doc pm an cdv ct us mv ws h1 h2 h3 => by
    obtain ⟨u, rfl⟩ : ∃ u, us = [u] := List.length_eq_one_iff.mp h1
    obtain ⟨a, rfl⟩ : ∃ a, ws = [a] := List.length_eq_one_iff.mp h3
    obtain ⟨m, rfl⟩ : ∃ m, mv = [m] := List.length_eq_one_iff.mp h2
    exact ⟨_, _, _, _, _, _, rfl, rfl, rfl⟩)
end
end Rf
namespace Rf
open PySem L2
/-- what isinstance asks of the class -/
structure IsR (K : PySem.W.Frag) (C : Addr) : Prop where
  ha : PySem.W.findIn K (.ref C) "__class__" = some (some (.builtin "object.__class__"))
  hn : PySem.W.specialIn K (.builtin "object.__class__") "__get__" = some (some (.builtin "getset_descriptor.__get__"))
  htk : PySem.W.takesIn K (.builtin "object.__class__") = some true
  hm : PySem.W.mroIn K C (.type "object") = some true
theorem kit_self {K : PySem.W.Frag} {C : Addr} : PySem.W.kitOne K (.ref C) (.ref C) = some true := by
  unfold PySem.W.kitOne
  rw [if_pos (by simp)]
/-- two runs of the same words -/
def SameRun (C : Addr) (a b : Addr) (H : Hp) : Prop := ∃ f m, RunAt C H a f m ∧ RunAt C H b f m
section
variable {P : Program} {w : World} {K : PySem.W.Frag} {mg : Str → Option Value} {base : Heap} {C : Addr} {mc : Value} {tM : Tok}
theorem scEq : FnScope ["self", "other"] ["self", "other"] (defScope sEq) := ⟨rfl, rfl, rfl, by decide +kernel, rfl, by decide +kernel, by decide +kernel⟩
theorem ok_eq {f : Addr} {fd : FuncData} (F : Fun K "__eq__" "Run.__eq__" sEq f fd) (T : TR K mg C mc tM) (Z : IsR K C) : FnOk P w K mg base CX0 2 f fd ["self", "other"] (spEq (SameRun C)) := by
  refine F.ok scEq (fun vs H Q E h => ?_) (fun cdv A outer s H vs Q E hr h => ?_)
  · obtain ⟨a, b, rfl, _⟩ := h
    rfl
  · obtain ⟨a, b, rfl, ⟨f, m, ⟨dx, ha⟩, ⟨dy, hb⟩⟩, k⟩ := h
    refine ⟨_, pss_one (ps_ret (pe_and (pe_callB call_isi (by rfl) T.isi (by decide +kernel) (pa_cons (pv 1) (pa_cons (pe_glob (v := .ref C) rfl T.mgC rfl) pa_nil)))
      (pe_and (pe_cmpR op_eq (pe_fld (pv 0) rfl) (pe_fld (pv 1) rfl) (nomark _)) (pe_one (pe_cmpR op_eq (pe_fld (pv 0) rfl) (pe_fld (pv 1) rfl) (nomark _)))))), ?_⟩
    refine ⟨_, rfl, _, _, .ref C, .ref C, true, rfl, .own C, .base (.ins hb T.cl Z.ha Z.hn Z.htk Z.hm), kit_self, true, rfl, iteT ?_⟩
    refine ⟨_, rfl, a, C, dx, _, _, rfl, ha, T.cl, T.nF, rf_f _ _, _, rfl, b, C, dy, _, _, rfl, hb, T.cl, T.nF, rf_f _ _, rfl, true, by simp, iteT ?_⟩
    refine ⟨_, rfl, a, C, dx, _, _, rfl, ha, T.cl, T.nM, rf_m _ _, _, rfl, b, C, dy, _, _, rfl, hb, T.cl, T.nM, rf_m _ _, rfl, ?_⟩
    rw [show decide (V.int m = V.int m) = true from decide_eq_true rfl]
    exact k H Ext.rfl'
theorem mon_same : Mon (DIns C (SameRun C)) := mon_ins fun a b H H' e ⟨f, m, ⟨dx, ha⟩, ⟨dy, hb⟩⟩ => ⟨f, m, ⟨dx, e _ _ ha⟩, ⟨dy, e _ _ hb⟩⟩
/-- two lists of runs of the same words -/
theorem prs_runs {H : Hp} : ∀ {as bs : List Addr} {rs : List (Int × Int)}, RunsAt C H as rs → RunsAt C H bs rs → Prs (DIns C (SameRun C)) (as.map V.ref) (bs.map V.ref) H
  | _, _, _, .nil, .nil => .nil
  | _, _, _, .cons (a := a) (b := r) ⟨dx, ha⟩ t, .cons (a := b) ⟨dy, hb⟩ u => .cons ⟨a, b, dx, dy, _, _, rfl, rfl, ha, hb, r.1, r.2, ⟨dx, ha⟩, ⟨dy, hb⟩⟩ (prs_runs t u)
end
end Rf
namespace Rf
open PySem L2
/-- the text of a run -/
def txt (f m : Int) : Str := Str.empty ++ "Run(" ++ (toString f : String) ++ ", " ++ (toString m : String) ++ ")"
/-- a run with its text -/
def RTxt (C : Addr) (a : Addr) (t : Str) (H : Hp) : Prop := ∃ f m, RunAt C H a f m ∧ 0 ≤ f ∧ f < 10 ^ 13 ∧ 0 ≤ m ∧ m < 10 ^ 13 ∧ t = txt f m
theorem rtxt_mon {C : Addr} : ∀ a t H H', Ext H H' → RTxt C a t H → RTxt C a t H' := fun a t H H' e ⟨f, m, ⟨d, h⟩, r⟩ => ⟨f, m, ⟨d, e _ _ h⟩, r⟩
theorem log_lt {i : Int} (h0 : 0 ≤ i) (h : i < 10 ^ 13) : i.natAbs.log2 < 1920 := by
  by_cases z : i.natAbs = 0
  · rw [z]
    decide
  · have h1 : i.natAbs < 2 ^ 44 := by omega
    have := (Nat.log2_lt z).mpr h1
    omega
theorem len_int {i : Int} (h0 : 0 ≤ i) (h : i < 10 ^ 13) : (Str.ofString (toString i)).length ≤ 13 := PyProof.Rows.toString_length_le h0 (by decide) h
section
variable {P : Program} {w : World} {K : PySem.W.Frag} {mg : Str → Option Value} {base : Heap} {C : Addr} {mc : Value} {tM : Tok}
theorem scRepr : FnScope ["self"] ["self"] (defScope sRepr) := ⟨rfl, rfl, rfl, by decide +kernel, rfl, by decide +kernel, by decide +kernel⟩
theorem ok_repr {f : Addr} {fd : FuncData} (F : Fun K "__repr__" "Run.__repr__" sRepr f fd) (T : TR K mg C mc tM) : FnOk P w K mg base CX0 2 f fd ["self"] (Rp.spRepr (RTxt C)) := by
  refine F.ok scRepr (fun vs H Q E h => ?_) (fun cdv A outer s H vs Q E hr h => ?_)
  · obtain ⟨a, t, rfl, _⟩ := h
    rfl
  · obtain ⟨a, t, rfl, ⟨f, m, ⟨dx, ha⟩, f0, f1, m0, m1, rfl⟩, k⟩ := h
    refine ⟨_, pss_one (ps_ret (pe_joined (.cons pe_str (.cons (pe_fmt (pe_fld (pv 0) rfl)) (.cons pe_str (.cons (pe_fmt (pe_fld (pv 0) rfl)) (.cons pe_str .nil))))))), ?_⟩
    have lf := len_int f0 f1
    have lm := len_int m0 m1
    have small : ∀ {n : Nat}, n ≤ 100 → n ≤ sizeLine := fun h => Nat.le_trans h (by decide)
    have n1 : ((Str.empty ++ "Run(" : Str)).length = 4 := by decide +kernel
    have n2 : ((", " : String) : Str).length = 2 := by decide +kernel
    have n3 : ((")" : String) : Str).length = 1 := by decide +kernel
    refine ⟨_, rfl, small (by rw [n1]; omega), ?_⟩
    refine ⟨_, rfl, a, C, dx, _, _, rfl, ha, T.cl, T.nF, rf_f _ _, .inr ⟨f, rfl, log_lt f0 f1, _, rfl, small ?_, ?_⟩⟩
    · rw [strLen_append, n1]; omega
    refine ⟨_, rfl, small ?_, ?_⟩
    · rw [strLen_append, strLen_append, n1, n2]; omega
    refine ⟨_, rfl, a, C, dx, _, _, rfl, ha, T.cl, T.nM, rf_m _ _, .inr ⟨m, rfl, log_lt m0 m1, _, rfl, small ?_, ?_⟩⟩
    · rw [strLen_append, strLen_append, strLen_append, n1, n2]; omega
    refine ⟨_, rfl, small ?_, ?_⟩
    · rw [strLen_append, strLen_append, strLen_append, strLen_append, n1, n2, n3]; omega
    exact k H Ext.rfl'
end
end Rf
namespace Rf
open PySem L2
abbrev sLRuns : Stmt := top 15
/-- _law_runs(bag, fewer than so many, of at most so many words) -/
def spLRuns : Sp := fun vs H Q _ => ∃ (b : Addr) (N : Nat) (nn zz : Int), vs = [.ref b, .int nn, .int zz] ∧ BagAt H b N ∧ N < 900000 ∧ 1 ≤ nn ∧ nn ≤ 40 ∧ 1 ≤ zz ∧ zz ≤ 100 ∧
  ∀ (l : Addr) (ts : List Addr) (rs : List (Int × Int)) (H' : Hp), H l = none → H' l = some (.lst (ts.map V.ref)) → PairsAt H' ts rs → (rs.length : Int) < nn → (∀ r ∈ rs, 0 ≤ r.1 ∧ r.1 ≤ 10000 ∧ 1 ≤ r.2 ∧ r.2 ≤ zz) → BagAt H' b (N + 200) → OffN b H H' → Q (.ref l) H'
section
variable {P : Program} {w : World} {K : PySem.W.Frag} {mg : Str → Option Value} {base : Heap} {C : Addr} {mc : Value} {tM : Tok}
theorem scLRuns : FnScope ["_law_bag_here", "_law_runs_here", "_law_size", "_law_found", "_law_here", "_law_turn", "_law_many"] ["_law_bag_here", "_law_runs_here", "_law_size"] (defScope sLRuns) := ⟨rfl, rfl, rfl, by decide +kernel, rfl, by decide +kernel, by decide +kernel⟩
theorem ok_lruns {f fT : Addr} {fd fdT : FuncData} (F : Fun K "_law_runs" "_law_runs" sLRuns f fd) (B : TB mg) (FT : Fun K "_law_take" "_law_take" sTake fT fdT) (DT : Def K mg "_law_take" fT fdT ["_law_bag_here", "_law_many"]) : FnOk P w K mg base CX0 3 f fd ["_law_bag_here", "_law_runs_here", "_law_size"] spLRuns := by
  have GT : FnOk P w K mg base CX0 2 fT fdT ["_law_bag_here", "_law_many"] spTake := ok_take FT
  refine F.ok scLRuns (fun vs H Q E h => ?_) (fun cdv A outer s H vs Q E hr h => ?_)
  · obtain ⟨b, N, nn, zz, rfl, _⟩ := h
    rfl
  · obtain ⟨b, N, nn, zz, rfl, hb, hN, nn1, nn2, zz1, zz2, k⟩ := h
    refine ⟨_, pss_cons (ps_par (i := 3) (j := 4) rfl scLRuns.nd rfl rfl (by decide) rfl rfl (pa_cons (pe_lst pa_nil) (pa_cons (pe_call GT hr (by rfl) DT.at_ DT.kp DT.bd .nil pass0 (pa_cons (pv 0) (pa_cons pe_int pa_nil))) pa_nil)) rfl)
      (pss_cons (ps_for PassesOwn.never rfl (pi_range1 (by rfl) B.range (pa_cons (pe_call GT hr (by rfl) DT.at_ DT.kp DT.bd .nil pass0 (pa_cons (pv 0) (pa_cons (pv 1) pa_nil))) pa_nil)) (pg_name (i := 5) scLRuns.nd rfl (Or.inl rfl))
        (pss_cons (ps_set (i := 6) scLRuns.nd rfl (Or.inl rfl) (pe_op op_add pe_int (pe_call GT hr (by rfl) DT.at_ DT.kp DT.bd .nil pass0 (pa_cons (pv 0) (pa_cons (pv 2) pa_nil)))))
        (pss_cons (ps_expr (pe_bm PySem.F.plainAttrs_list PySem.F.slot_list_append PySem.F.type_list_append mt_append (pv 3) (pa_cons (pe_tup (pa_cons (pv 4) (pa_cons (pv 6) pa_nil))) pa_nil)))
        (pss_one (ps_set (i := 4) scLRuns.nd rfl (Or.inl rfl) (pe_ix ix_list (pe_lst (pa_cons (pe_op op_add (pv 4) (pv 6)) (pa_cons (pe_op op_add (pv 4) (pv 6)) (pa_cons (pe_op op_add (pe_op op_add (pe_op op_add (pv 4) (pv 6)) pe_int) (pe_call GT hr (by rfl) DT.at_ DT.kp DT.bd .nil pass0 (pa_cons (pv 0) (pa_cons pe_int pa_nil)))) (pa_cons (pe_call GT hr (by rfl) DT.at_ DT.kp DT.bd .nil pass0 (pa_cons (pv 0) (pa_cons pe_int pa_nil))) pa_nil)))))
          (pe_call GT hr (by rfl) DT.at_ DT.kp DT.bd .nil pass0 (pa_cons (pv 0) (pa_cons pe_int pa_nil))) (fun _ _ => rfl)))))))
      (pss_one (ps_ret (pv 3)))), ?_⟩
    refine ⟨Nat.zero_le _, fun l hl => ?_⟩
    have bl : b ≠ l := hb.ne hl
    refine ⟨_, rfl, b, 20, N, rfl, by decide, by decide, hb.put bl, by omega, fun r0 H1 r00 r01 b1 o1 => ?_⟩
    have h1l : H1 l = some (.lst []) := by rw [o1 l bl.symm, upd_same]
    refine ⟨_, _, rfl, _, rfl, _, rfl, b, nn, N + 1, rfl, nn1, by omega, b1, by omega, fun r1 H2 r10 r11 b2 o2 => ?_⟩
    have f2 : OffN b H H2 := ((OffN.refl.put hl).step o1).step o2
    refine ⟨_, rfl, by omega, by omega, for_range (lo := 0) (n := r1.toNat) (fun i σ H' => ∃ (here : Int) (v5 v6 : Option V) (ts : List Addr) (rs : List (Int × Int)), σ = [some (.ref b), some (.int nn), some (.int zz), some (.ref l), some (.int here), v5, v6] ∧ H' l = some (.lst (ts.map V.ref)) ∧ PairsAt H' ts rs ∧ rs.length = i ∧ (∀ r ∈ rs, 0 ≤ r.1 ∧ r.1 ≤ 10000 ∧ 1 ≤ r.2 ∧ r.2 ≤ zz) ∧ 0 ≤ here ∧ here ≤ 30 + 105 * i ∧ BagAt H' b (N + 2 + 4 * i) ∧ OffN b H H')
      ⟨r0, none, none, [], [], rfl, by rw [o2 l bl.symm]; exact h1l, .nil, rfl, (fun r h => by cases h), r00, by omega, b2, f2⟩ ?_ ?_⟩
    · rintro i σ H3 hi ⟨here, v5, v6, ts, rs, rfl, h3l, p3, n3, g3, e0, e1, b3, f3⟩
      have hts : ts.length = rs.length := Paired.length p3
      refine ⟨_, rfl, _, rfl, b, zz, _, rfl, zz1, by omega, b3, by omega, fun m H4 m0 m1 b4 o4 => ?_⟩
      have h4l : H4 l = some (.lst (ts.map V.ref)) := by rw [o4 l bl.symm]; exact h3l
      have pb : ∀ {H : Hp} {t : Addr} {r : Int × Int} {N : Nat}, BagAt H b N → H t = some (.tup [.int r.1, .int r.2]) → t ≠ b := fun hb ht z => by
        obtain ⟨_, _, _, e, _⟩ := hb
        rw [z, e] at ht
        cases ht
      have p4 : PairsAt H4 ts rs := L2.Paired.mapP p3 fun t r e => by rw [o4 t (pb b3 e)]; exact e
      have f4 := f3.step o4
      refine ⟨_, _, rfl, rfl, _, rfl, .inl ⟨rfl, _, SqL.of h4l⟩, _, rfl, _, rfl, (by show 2 ≤ sizeLine; decide), fun q hq => ?_⟩
      have lq : l ≠ q := ne_of_none h4l hq
      have bq : b ≠ q := b4.ne hq
      have q0 : H q = none := f4.free hq bq.symm
      refine ⟨l, _, _, rfl, rfl, by rw [upd_ne lq]; exact h4l, by rw [List.length_map]; exact Nat.lt_of_lt_of_le (show ts.length < 100 by omega) (by decide), ?_⟩
      have b5 : BagAt (upd (upd H4 q (.tup [.int here, .int (1 + m)])) l (.lst (ts.map V.ref ++ [V.ref q]))) b (N + 2 + 4 * i + 1) := (b4.put bq).put bl
      have p5 : PairsAt (upd (upd H4 q (.tup [.int here, .int (1 + m)])) l (.lst (ts.map V.ref ++ [V.ref q]))) (ts ++ [q]) (rs ++ [(here, 1 + m)]) := by
        refine paired_snoc (by rw [upd_ne lq.symm, upd_same]) (L2.Paired.mapP p4 fun t r e => ?_)
        rw [upd_ne (ne_of e h4l (by intro z; cases z)), upd_ne (ne_of_none e hq)]
        exact e
      have f5 : OffN b H (upd (upd H4 q (.tup [.int here, .int (1 + m)])) l (.lst (ts.map V.ref ++ [V.ref q]))) := (f4.put q0).put hl
      have l5 : (upd (upd H4 q (.tup [.int here, .int (1 + m)])) l (.lst (ts.map V.ref ++ [V.ref q]))) l = some (.lst ((ts ++ [q]).map V.ref)) := by rw [upd_same, List.map_append]; rfl
      generalize (upd (upd H4 q (.tup [.int here, .int (1 + m)])) l (.lst (ts.map V.ref ++ [V.ref q]))) = H5 at b5 p5 f5 l5 ⊢
      refine ⟨_, rfl, _, rfl, _, _, rfl, rfl, _, rfl, _, rfl, _, _, rfl, rfl, _, rfl, _, rfl, _, _, rfl, rfl, _, _, rfl, rfl, _, rfl, b, 4, _, rfl, by decide, by decide, b5, by omega, fun r6 H6 r60 r61 b6 o6 => ?_⟩
      refine ⟨_, _, rfl, rfl, _, rfl, b, 30, _, rfl, by decide, by decide, b6, by omega, fun r7 H7 r70 r71 b7 o7 => ?_⟩
      refine ⟨(by show 4 ≤ sizeLine; decide), fun d hd => ?_⟩
      have bd : b ≠ d := b7.ne hd
      have l7 : H7 l = some (.lst ((ts ++ [q]).map V.ref)) := by rw [o7 l bl.symm, o6 l bl.symm]; exact l5
      have p7 : PairsAt H7 (ts ++ [q]) (rs ++ [(here, 1 + m)]) := L2.Paired.mapP p5 fun t r e => by rw [o7 t (pb b5 e), o6 t (pb b5 e)]; exact e
      have f7 := (f5.step o6).step o7
      have d0 : H d = none := f7.free hd bd.symm
      have dl : l ≠ d := ne_of_none l7 hd
      refine ⟨_, rfl, b, 4, _, rfl, by decide, by decide, b7.put bd, by omega, fun r8 H8 r80 r81 b8 o8 => ?_⟩
      obtain ⟨z, hz, hz2⟩ := at4 (x0 := here + (1 + m)) (x1 := here + (1 + m)) (x2 := here + (1 + m) + 1 + r6) (x3 := r7) r80 r81
      refine ⟨d, _, r8, _, rfl, rfl, SqL.of (by rw [o8 d bd.symm, upd_same]), hz, ?_⟩
      refine ⟨z, _, _, ts ++ [q], rs ++ [(here, 1 + m)], rfl, by rw [o8 l bl.symm, upd_ne dl]; exact l7, L2.Paired.mapP p7 fun t r e => ?_, by rw [List.length_append, n3]; rfl, fun r hr' => ?_, by omega, by omega, by rw [show N + 2 + 4 * (i + 1) = N + 2 + 4 * i + 1 + 1 + 1 + 1 by omega]; exact b8, (f7.put d0).step o8⟩
      · rw [o8 t (pb b7 e), upd_ne (ne_of_none e hd)]; exact e
      · rcases List.mem_append.mp hr' with h | h
        · exact g3 r h
        · rw [List.mem_singleton.mp h]
          exact ⟨e0, by show here ≤ 10000; omega, by show 1 ≤ 1 + m; omega, by show 1 + m ≤ zz; omega⟩
    · rintro σ H3 ⟨here, v5, v6, ts, rs, rfl, h3l, p3, n3, g3, e0, e1, b3, f3⟩
      exact ⟨_, rfl, k l ts rs H3 hl h3l p3 (by omega) g3 (b3.le (by omega)) f3⟩
end
end Rf
namespace Rf
open PySem L2
abbrev sCut : Stmt := top 17
abbrev NC : List Str := ["_law_words_here", "_law_most", "_law_border", "_law_found", "_law_at", "_law_end"]
/-- _law_cut(words, most, border) -/
def spCut : Sp := fun vs H Q _ => ∃ (a : Addr) (ws : List Int) (lg : Int) (bd : Option Int), vs = [.ref a, .int lg, bdV bd] ∧ H a = some (.lst (ws.map V.int)) ∧ ws.length ≤ 10000 ∧ (∀ x ∈ ws, 0 ≤ x ∧ x ≤ 2 ^ 50) ∧ Cut lg bd ∧
  ∀ (l : Addr) (ts : List Addr) (H' : Hp), Same H H' → H l = none → H' l = some (.lst (ts.map V.ref)) → PairsAt H' ts (grd lg bd ws) → Q (.ref l) H'
theorem at_nat {ws : List Int} {t : Nat} (h : t < ws.length) : atI (ws.map V.int) (t : Int) = some (V.int ws[t]) := at_of rfl (by rw [List.getElem?_map, List.getElem?_eq_getElem h]; rfl)
theorem at_g {ws : List Int} {t : Nat} (h : t < ws.length) : atI (ws.map V.int) (t : Int) = some (V.int (g0 ws t)) := by
  rw [at_nat h]
  congr 2
  show _ = ws.getD t 0
  rw [List.getD_eq_getElem?_getD, List.getElem?_eq_getElem h]
  rfl
theorem g0_at {ws : List Int} {t : Nat} (h : t < ws.length) : g0 ws t = ws[t] := by
  show ws.getD t 0 = _
  rw [List.getD_eq_getElem?_getD, List.getElem?_eq_getElem h]
  rfl
theorem drop_at {ws : List Int} {t : Nat} (h : t < ws.length) : ws.drop t = ws[t] :: ws.drop (t + 1) := List.drop_eq_getElem_cons h
section
variable {P : Program} {w : World} {K : PySem.W.Frag} {mg : Str → Option Value} {base : Heap} {C : Addr} {mc : Value} {tM : Tok}
/-- a new pair behind the list -/
theorem pair_put {H0 H : Hp} {l q : Addr} {ts : List Addr} {ps : List (Int × Int)} {x y : Int} (s : Same H0 H) (l0 : H0 l = none) (hl : H l = some (.lst (ts.map V.ref))) (p : PairsAt H ts ps) (hq : H q = none) :
    Same H0 (upd (upd H q (.tup [.int x, .int y])) l (.lst (ts.map V.ref ++ [V.ref q]))) ∧ (upd (upd H q (.tup [.int x, .int y])) l (.lst (ts.map V.ref ++ [V.ref q]))) l = some (.lst ((ts ++ [q]).map V.ref)) ∧ PairsAt (upd (upd H q (.tup [.int x, .int y])) l (.lst (ts.map V.ref ++ [V.ref q]))) (ts ++ [q]) (ps ++ [(x, y)]) := by
  have lq : l ≠ q := ne_of_none hl hq
  refine ⟨fun c o e => ?_, by rw [upd_same, List.map_append]; rfl, paired_snoc (by rw [upd_ne lq.symm, upd_same]) (L2.Paired.mapP p fun t r e => ?_)⟩
  · rw [upd_ne (ne_of_none e l0), upd_ne (ne_of_none (s _ _ e) hq)]
    exact s _ _ e
  · rw [upd_ne (ne_of e hl (by intro z; cases z)), upd_ne (ne_of_none e hq)]
    exact e
theorem scCut : FnScope NC ["_law_words_here", "_law_most", "_law_border"] (defScope sCut) := ⟨rfl, rfl, rfl, by decide +kernel, rfl, by decide +kernel, by decide +kernel⟩
theorem ok_cut {f : Addr} {fd : FuncData} (F : Fun K "_law_cut" "_law_cut" sCut f fd) (B : TB mg) : FnOk P w K mg base CX0 2 f fd ["_law_words_here", "_law_most", "_law_border"] spCut := by
  refine F.ok scCut (fun vs H Q E h => ?_) (fun cdv A outer s H vs Q E hr h => ?_)
  · obtain ⟨a, ws, lg, bd, rfl, _⟩ := h
    rfl
  · obtain ⟨a, ws, lg, bd, rfl, ha, hlen, hw, c, k⟩ := h
    refine ⟨_, pss_cons (ps_par (i := 3) (j := 4) rfl scCut.nd rfl rfl (by decide) rfl rfl (pa_cons (pe_lst pa_nil) (pa_cons pe_int pa_nil)) rfl)
      (pss_cons (ps_while PassesOwn.never (pt_cmpR op_lt (pv 4) (pe_callB call_len_seq (by rfl) B.len PySem.boot_len (pa_cons (pv 0) pa_nil)) (nomark _))
        (pss_cons (ps_set (i := 5) scCut.nd rfl (Or.inl rfl) (pe_op op_add (pv 4) pe_int))
        (C8.pss_cut (ps_while PassesOwn.never (PW.pt (pw_and (pt_cmpR op_lt (pv 5) (pe_callB call_len_seq (by rfl) B.len PySem.boot_len (pa_cons (pv 0) pa_nil)) (nomark _))
              (pw_and (pt_cmpR op_eq (pe_ix ix_list (pv 0) (pv 5) (fun _ _ => rfl)) (pe_op op_sub (pe_op op_add (pe_ix ix_list (pv 0) (pv 4) (fun _ _ => rfl)) (pv 5)) (pv 4)) (nomark _))
                (pw_and1 (pt_cmpR op_lt (pe_op op_sub (pv 5) (pv 4)) (pv 1) (nomark _))))))
            (C8.pss_cut (ps_if (PW.pt (pw_and (pt_cmpR op_notN (pv 2) pe_non (nomark _)) (pw_and1 (pt_cmpR op_ne (pe_op op_fdivN (pe_ix ix_list (pv 0) (pv 5) (fun _ _ => rfl)) (pv 2)) (pe_op op_fdivN (pe_ix ix_list (pv 0) (pv 4) (fun _ _ => rfl)) (pv 2)) (nomark _)))))
                (pss_cons (ps_expr (pe_bm PySem.F.plainAttrs_list PySem.F.slot_list_append PySem.F.type_list_append mt_append (pv 3) (pa_cons (pe_tup (pa_cons (pe_ix ix_list (pv 0) (pv 4) (fun _ _ => rfl)) (pa_cons (pe_op op_sub (pv 5) (pv 4)) pa_nil))) pa_nil)))
                (pss_one (ps_set (i := 4) scCut.nd rfl (Or.inl rfl) (pv 5)))) pss_nil)
            (pss_one (ps_set (i := 5) scCut.nd rfl (Or.inl rfl) (pe_op op_add (pv 5) pe_int)))))
        (pss_cons (ps_expr (pe_bm PySem.F.plainAttrs_list PySem.F.slot_list_append PySem.F.type_list_append mt_append (pv 3) (pa_cons (pe_tup (pa_cons (pe_ix ix_list (pv 0) (pv 4) (fun _ _ => rfl)) (pa_cons (pe_op op_sub (pv 5) (pv 4)) pa_nil))) pa_nil)))
        (pss_one (ps_set (i := 4) scCut.nd rfl (Or.inl rfl) (pv 5)))))))
      (pss_one (ps_ret (pv 3)))), ?_⟩
    have lgn : ∀ {H' : Hp} {ts : List Addr} {ps : List (Int × Int)} {s : Nat}, PairsAt H' ts ps → ps.length ≤ s → s ≤ ws.length → (ts.map V.ref).length < sizeLine := fun {H' ts ps s} p h1 h2 => by
      rw [List.length_map, Paired.length p]
      exact Nat.lt_of_le_of_lt (show ps.length ≤ 10000 by omega) (by decide)
    refine ⟨Nat.zero_le _, fun l hl => ?_⟩
    refine ⟨_, _, rfl, ?_⟩
    refine ⟨fun m σ H' => ∃ (t : Nat) (v5 : Option V) (ts : List Addr) (ps : List (Int × Int)), σ = [some (.ref a), some (.int lg), some (bdV bd), some (.ref l), some (.int (t : Int)), v5] ∧ t ≤ ws.length ∧ Same H H' ∧ H' l = some (.lst (ts.map V.ref)) ∧ PairsAt H' ts ps ∧ ps ++ grd lg bd (ws.drop t) = grd lg bd ws ∧ ps.length ≤ t ∧ m = ws.length - t,
      ⟨_, 0, none, [], [], rfl, Nat.zero_le _, put_same hl, upd_same, .nil, rfl, Nat.zero_le _, rfl⟩, ?_⟩
    rintro m σ H1 ⟨t, v5, ts, ps, rfl, tn, s1, h1l, p1, e1, n1, rfl⟩
    have ha1 := s1 _ _ ha
    refine ⟨_, rfl, _, rfl, a, _, rfl, .inl (SqL.of ha1), _, _, rfl, rfl, _, rfl, ?_⟩
    rw [List.length_map]
    by_cases hlt : t < ws.length
    · rw [show decide ((t : Int) < (ws.length : Int)) = true from decide_eq_true (by omega)]
      refine iteT ?_
      have dg : ∀ {e : Nat}, e < ws.length → ws.drop e = g0 ws e :: ws.drop (e + 1) := fun {e} h => by rw [drop_at h, g0_at h]
      have gb : ∀ {e : Nat}, e < ws.length → 0 ≤ g0 ws e ∧ g0 ws e ≤ 2 ^ 50 := fun {e} h => by rw [g0_at h]; exact hw _ (List.getElem_mem h)
      refine ⟨fun σ' H' => ∃ (t' : Nat) (v5 : Option V) (ts : List Addr) (ps : List (Int × Int)), σ' = [some (.ref a), some (.int lg), some (bdV bd), some (.ref l), some (.int (t' : Int)), v5] ∧ t < t' ∧ t' ≤ ws.length ∧ Same H H' ∧ H' l = some (.lst (ts.map V.ref)) ∧ PairsAt H' ts ps ∧ ps ++ grd lg bd (ws.drop t') = grd lg bd ws ∧ ps.length ≤ t',
        fun σ' H' ⟨t', v5, ts, ps, h1, h2, h3, h4, h5, h6, h7, h8⟩ => ⟨ws.length - t', by omega, t', v5, ts, ps, h1, h3, h4, h5, h6, h7, h8, rfl⟩, ?_⟩
      refine ⟨_, rfl, _, _, rfl, rfl, fun σ H' => ∃ (s e : Nat) (ts : List Addr) (ps : List (Int × Int)), σ = [some (.ref a), some (.int lg), some (bdV bd), some (.ref l), some (.int (s : Int)), some (.int (e : Int))] ∧ t ≤ s ∧ s < e ∧ e ≤ ws.length ∧ Same H H' ∧ H' l = some (.lst (ts.map V.ref)) ∧ PairsAt H' ts ps ∧ ps ++ ((g0 ws s, (e : Int) - (s : Int)) :: grd lg bd (ws.drop e)) = grd lg bd ws ∧ ps.length ≤ s, ?_, ?_⟩
      · refine ⟨fun m σ H' => ∃ (s e : Nat) (ts : List Addr) (ps : List (Int × Int)), σ = [some (.ref a), some (.int lg), some (bdV bd), some (.ref l), some (.int (s : Int)), some (.int (e : Int))] ∧ t ≤ s ∧ s < e ∧ e ≤ ws.length ∧ Same H H' ∧ H' l = some (.lst (ts.map V.ref)) ∧ PairsAt H' ts ps ∧ ps ++ fl lg bd (ws.drop e) (g0 ws s) (g0 ws s + ((e : Int) - (s : Int))) = grd lg bd ws ∧ ps.length ≤ s ∧ m = ws.length - e,
          ⟨_, t, t + 1, ts, ps, rfl, Nat.le_refl _, by omega, hlt, s1, h1l, p1, ?_, n1, rfl⟩, ?_⟩
        · rw [dg hlt] at e1
          rw [← e1]
          show _ = ps ++ fl lg bd (ws.drop (t + 1)) (g0 ws t) (g0 ws t + 1)
          rw [show (((t + 1 : Nat) : Int) - (t : Int)) = 1 by omega]
        · rintro m σ H2 ⟨s, e, ts2, ps2, rfl, ts1, se, en, s2, h2l, p2, e2, n2, rfl⟩
          have ha2 := s2 _ _ ha
          have hsn : s < ws.length := by omega
          have ef : g0 ws s + ((e : Int) - (s : Int)) - g0 ws s = (e : Int) - (s : Int) := by omega
          -- the piece ends here
          have out : (∀ w ws', ws.drop e = w :: ws' → ¬ Adj lg bd (g0 ws s) (g0 ws s + ((e : Int) - (s : Int))) w) → ps2 ++ ((g0 ws s, (e : Int) - (s : Int)) :: grd lg bd (ws.drop e)) = grd lg bd ws := fun na => by
            rw [← e2]
            congr 1
            cases hd : ws.drop e with
            | nil =>
              show _ = [(g0 ws s, g0 ws s + ((e : Int) - (s : Int)) - g0 ws s)]
              rw [ef]
              rfl
            | cons w ws' =>
              rw [fl_cut (na w ws' hd), ef]
              rfl
          refine ⟨_, rfl, _, rfl, a, _, rfl, .inl (SqL.of ha2), _, _, rfl, rfl, _, rfl, ?_⟩
          rw [List.length_map]
          by_cases q1 : e < ws.length
          · rw [show decide ((e : Int) < (ws.length : Int)) = true from decide_eq_true (by omega)]
            refine iteT ⟨_, rfl, _, rfl, a, _, _, _, rfl, rfl, SqL.of ha2, at_g q1, _, rfl, _, rfl, a, _, _, _, rfl, rfl, SqL.of ha2, at_g hsn, _, rfl, _, _, rfl, rfl, _, rfl, _, _, rfl, rfl, rfl, _, rfl, ?_⟩
            have hde := dg q1
            by_cases q2 : g0 ws e = g0 ws s + (e : Int) - (s : Int)
            · rw [show decide (V.int (g0 ws e) = V.int (g0 ws s + (e : Int) - (s : Int))) = true from decide_eq_true (by rw [q2])]
              refine iteT ⟨_, rfl, _, rfl, _, _, rfl, rfl, _, rfl, _, _, rfl, rfl, _, rfl, ?_⟩
              by_cases q3 : (e : Int) - (s : Int) < lg
              · rw [decide_eq_true q3]
                refine iteT ?_
                refine ⟨fun σ' H' => ∃ (s' : Nat) (ts' : List Addr) (ps' : List (Int × Int)), σ' = [some (.ref a), some (.int lg), some (bdV bd), some (.ref l), some (.int (s' : Int)), some (.int ((e + 1 : Nat) : Int))] ∧ t ≤ s' ∧ s' < e + 1 ∧ Same H H' ∧ H' l = some (.lst (ts'.map V.ref)) ∧ PairsAt H' ts' ps' ∧ ps' ++ fl lg bd (ws.drop (e + 1)) (g0 ws s') (g0 ws s' + (((e + 1 : Nat) : Int) - (s' : Int))) = grd lg bd ws ∧ ps'.length ≤ s',
                  fun σ' H' ⟨s', ts', ps', x1, x2, x3, x4, x5, x6, x7, x8⟩ => ⟨ws.length - (e + 1), by omega, s', e + 1, ts', ps', x1, x2, x3, by omega, x4, x5, x6, x7, x8, rfl⟩, ?_⟩
                refine ⟨fun σ' H' => ∃ (s' : Nat) (ts' : List Addr) (ps' : List (Int × Int)), σ' = [some (.ref a), some (.int lg), some (bdV bd), some (.ref l), some (.int (s' : Int)), some (.int (e : Int))] ∧ t ≤ s' ∧ s' < e + 1 ∧ Same H H' ∧ H' l = some (.lst (ts'.map V.ref)) ∧ PairsAt H' ts' ps' ∧ ps' ++ fl lg bd (ws.drop (e + 1)) (g0 ws s') (g0 ws s' + (((e + 1 : Nat) : Int) - (s' : Int))) = grd lg bd ws ∧ ps'.length ≤ s', ?_, ?_⟩
                · have stay : blk bd (g0 ws s) = blk bd (g0 ws e) → ps2 ++ fl lg bd (ws.drop (e + 1)) (g0 ws s) (g0 ws s + (((e + 1 : Nat) : Int) - (s : Int))) = grd lg bd ws := fun hb => by
                    rw [← e2, hde, fl_take ⟨by omega, by omega, by rw [show g0 ws s + ((e : Int) - (s : Int)) = g0 ws e by omega]; exact hb⟩]
                    rw [show g0 ws s + (((e + 1 : Nat) : Int) - (s : Int)) = g0 ws s + ((e : Int) - (s : Int)) + 1 by omega]
                  have brk : blk bd (g0 ws s) ≠ blk bd (g0 ws e) → (ps2 ++ [(g0 ws s, (e : Int) - (s : Int))]) ++ fl lg bd (ws.drop (e + 1)) (g0 ws e) (g0 ws e + (((e + 1 : Nat) : Int) - (e : Int))) = grd lg bd ws := fun hb => by
                    rw [← e2, hde, fl_cut (fun ad => hb (by have h3 := ad.2.2; rw [show g0 ws s + ((e : Int) - (s : Int)) = g0 ws e by omega] at h3; exact h3)), List.append_assoc, ef]
                    rw [show (((e + 1 : Nat) : Int) - (e : Int)) = 1 by omega]
                    rfl
                  refine ⟨_, rfl, rfl, _, rfl, ?_⟩
                  cases bd with
                  | none =>
                    refine ite2 (fun z => ?_) (fun _ => ⟨s, ts2, ps2, rfl, ts1, by omega, s2, h2l, p2, stay rfl, n2⟩)
                    simp [bdV] at z
                  | some bo =>
                    obtain ⟨b1, b2⟩ := c.b1 bo rfl
                    refine ite2 (fun _ => ?_) (fun z => (z (by simp [bdV])).elim)
                    obtain ⟨ge0, ge1⟩ := gb q1
                    obtain ⟨gs0, gs1⟩ := gb hsn
                    refine ⟨_, rfl, _, rfl, a, _, _, _, rfl, rfl, SqL.of ha2, at_g q1, _, rfl, _, _, rfl, rfl, ⟨by omega, by omega⟩, _, rfl, _, rfl, a, _, _, _, rfl, rfl, SqL.of ha2, at_g hsn, _, rfl, _, _, rfl, rfl, ⟨by omega, by omega⟩, rfl, _, rfl, ?_⟩
                    have d1 : (g0 ws e).fdiv bo = g0 ws e / bo := Int.fdiv_eq_ediv_of_nonneg _ (by omega)
                    have d2 : (g0 ws s).fdiv bo = g0 ws s / bo := Int.fdiv_eq_ediv_of_nonneg _ (by omega)
                    refine ite2 (fun z => ?_) (fun z => ?_)
                    rotate_left
                    · have z' : ¬ (!decide (V.int ((g0 ws e).fdiv bo) = V.int ((g0 ws s).fdiv bo))) = true := z
                      have hb : g0 ws e / bo = g0 ws s / bo := by
                        rw [d1, d2] at z'
                        by_cases q : g0 ws e / bo = g0 ws s / bo
                        · exact q
                        · exact absurd (by rw [show decide (V.int (g0 ws e / bo) = V.int (g0 ws s / bo)) = false from decide_eq_false (fun y => q (V.int.inj y))]; rfl) z'
                      exact ⟨s, ts2, ps2, rfl, ts1, by omega, s2, h2l, p2, stay hb.symm, n2⟩
                    · have z' : (!decide (V.int ((g0 ws e).fdiv bo) = V.int ((g0 ws s).fdiv bo))) = true := z
                      have hb : ¬ g0 ws e / bo = g0 ws s / bo := fun q => by
                        rw [d1, d2, show decide (V.int (g0 ws e / bo) = V.int (g0 ws s / bo)) = true from decide_eq_true (by rw [q])] at z'
                        cases z'
                      refine ⟨_, rfl, .inl ⟨rfl, _, SqL.of h2l⟩, _, rfl, _, rfl, a, _, _, _, rfl, rfl, SqL.of ha2, at_g hsn, _, rfl, _, rfl, _, _, rfl, rfl, (by show 2 ≤ sizeLine; decide), fun q hq => ?_⟩
                      have lq : l ≠ q := ne_of_none h2l hq
                      refine ⟨l, _, _, rfl, rfl, by rw [upd_ne lq]; exact h2l, lgn p2 n2 (by omega), ?_⟩
                      obtain ⟨x1, x2, x3⟩ := pair_put (x := g0 ws s) (y := (e : Int) - (s : Int)) s2 hl h2l p2 hq
                      exact ⟨_, rfl, e, ts2 ++ [q], ps2 ++ [(g0 ws s, (e : Int) - (s : Int))], rfl, by omega, by omega, x1, x2, x3, brk (fun z => hb z.symm), by rw [List.length_append]; show ps2.length + 1 ≤ e; omega⟩
                · rintro σ' H' ⟨s', ts', ps', rfl, x2, x3, x4, x5, x6, x7, x8⟩
                  exact ⟨_, rfl, _, _, rfl, rfl, s', ts', ps', rfl, x2, x3, x4, x5, x6, x7, x8⟩
              · rw [decide_eq_false q3]
                refine iteF ⟨s, e, ts2, ps2, rfl, ts1, se, en, s2, h2l, p2, out fun w ws' hw' ad => q3 ?_, n2⟩
                have := ad.2.1
                omega
            · rw [show decide (V.int (g0 ws e) = V.int (g0 ws s + (e : Int) - (s : Int))) = false from decide_eq_false (fun z => q2 (V.int.inj z))]
              refine iteF ⟨s, e, ts2, ps2, rfl, ts1, se, en, s2, h2l, p2, out fun w ws' hw' ad => q2 ?_, n2⟩
              have h1 := ad.1
              rw [hde] at hw'
              have h2 := (List.cons.inj hw').1
              omega
          · rw [show decide ((e : Int) < (ws.length : Int)) = false from decide_eq_false (by omega)]
            refine iteF ⟨s, e, ts2, ps2, rfl, ts1, se, en, s2, h2l, p2, out fun w ws' hw' => ?_, n2⟩
            have : ws.drop e = [] := List.drop_eq_nil_of_le (by omega)
            rw [this] at hw'
            cases hw'
      · rintro σ H2 ⟨s, e, ts2, ps2, rfl, ts1, se, en, s2, h2l, p2, e2, n2⟩
        have ha2 := s2 _ _ ha
        refine ⟨_, rfl, .inl ⟨rfl, _, SqL.of h2l⟩, _, rfl, _, rfl, a, _, _, _, rfl, rfl, SqL.of ha2, at_g (show s < ws.length by omega), _, rfl, _, rfl, _, _, rfl, rfl, (by show 2 ≤ sizeLine; decide), fun q hq => ?_⟩
        have lq : l ≠ q := ne_of_none h2l hq
        refine ⟨l, _, _, rfl, rfl, by rw [upd_ne lq]; exact h2l, lgn p2 n2 (by omega), ?_⟩
        obtain ⟨x1, x2, x3⟩ := pair_put (x := g0 ws s) (y := (e : Int) - (s : Int)) s2 hl h2l p2 hq
        exact ⟨_, rfl, e, _, ts2 ++ [q], ps2 ++ [(g0 ws s, (e : Int) - (s : Int))], rfl, by omega, en, x1, x2, x3, by rw [List.append_assoc]; exact e2, by rw [List.length_append]; show ps2.length + 1 ≤ e; omega⟩
    · rw [show decide ((t : Int) < (ws.length : Int)) = false from decide_eq_false (by omega)]
      refine iteF ?_
      have ht : t = ws.length := by omega
      rw [ht, List.drop_length] at e1
      have e1' : ps = grd lg bd ws := by rw [← e1]; exact (List.append_nil ps).symm
      rw [e1'] at p1
      exact ⟨_, rfl, k l ts H1 s1 hl h1l p1⟩
end
end Rf
namespace Rf
open PySem L2
abbrev sLaw : Stmt := top 18
abbrev NL : List Str := ["_law_script", "_law_k", "_law_bag_here", "_law_turn", "_law_some", "_law_most", "_law_border", "_law_runs_here", "_law_words_here", "_law_text", "_law_due", "_law_told", "_law_first", "_law_many"]
structure Mth (P : Program) (w : World) (K : PySem.W.Frag) (mg : Str → Option Value) (base : Heap) (k : Nat) (x : Str) (ps : List Str) (sp : Sp) (f : Addr) (fd : FuncData) : Prop where
  ok : FnOk P w K mg base CX0 k f fd ps sp
  df : Def K mg x f fd ps
/-- a weaker reading of an expression -/
theorem pe_imp {X : Cx} {e : Expr} {te t' : TE} (h : PE X e te) (k : ∀ σ H Q, t' σ H Q → te σ H Q) : PE X e t' := ⟨fun pins s σ H Q I q => h.run pins s σ H Q I (k σ H Q q)⟩
/-- the runs that the law makes -/
structure Small (rs : List (Int × Int)) : Prop where
  n : rs.length ≤ 33
  ok : ∀ r ∈ rs, 0 ≤ r.1 ∧ r.1 ≤ 10000 ∧ 1 ≤ r.2 ∧ r.2 ≤ 60
theorem flat_len : ∀ {rs : List (Int × Int)}, (∀ r ∈ rs, 0 ≤ r.1 ∧ r.1 ≤ 10000 ∧ 1 ≤ r.2 ∧ r.2 ≤ 60) → (flat rs).length ≤ 60 * rs.length
  | [], _ => Nat.zero_le _
  | r :: rs, h => by
    have i := flat_len (rs := rs) fun x hx => h x (.tail _ hx)
    have g := h r (.head _)
    rw [flat_cons, List.length_append, wordsI_len, List.length_cons]
    omega
theorem flat_mem : ∀ {rs : List (Int × Int)}, (∀ r ∈ rs, 0 ≤ r.1 ∧ r.1 ≤ 10000 ∧ 1 ≤ r.2 ∧ r.2 ≤ 60) → ∀ x ∈ flat rs, 0 ≤ x ∧ x ≤ 20000
  | [], _, x, hx => by cases hx
  | r :: rs, h, x, hx => by
    rw [flat_cons] at hx
    rcases List.mem_append.mp hx with z | z
    · have g := h r (.head _)
      unfold wordsI at z
      obtain ⟨j, hj, e⟩ := List.mem_map.mp z
      have := List.mem_range.mp hj
      omega
    · exact flat_mem (rs := rs) (fun x hx => h x (.tail _ hx)) x z
theorem mem_flat {r : Int × Int} : ∀ {rs : List (Int × Int)}, r ∈ rs → 1 ≤ r.2 → r.1 ∈ flat rs
  | r' :: rs, h, h1 => by
    rw [flat_cons]
    rcases List.mem_cons.mp h with z | z
    · refine List.mem_append_left _ ?_
      rw [← z]
      obtain ⟨k, hk⟩ : ∃ k, r.2.toNat = k + 1 := ⟨r.2.toNat - 1, by omega⟩
      rw [hk, wordsI_cons]
      exact List.mem_cons_self
    · exact List.mem_append_right _ (mem_flat z h1)
theorem Small.few {rs : List (Int × Int)} (h : Small rs) : Few rs := ⟨by have := h.n; omega, fun r hr => by have := h.ok r hr; exact ⟨by omega, by omega, by omega, by omega⟩⟩
theorem Small.ws {rs : List (Int × Int)} (h : Small rs) : Ws rs := ⟨fun r hr => by have := h.ok r hr; exact ⟨by omega, by omega, by omega, by omega⟩, by have := flat_len h.ok; have := h.n; omega⟩
theorem PairsAt.off {b : Addr} {N : Nat} {H H' : Hp} {ts : List Addr} {rs : List (Int × Int)} (p : PairsAt H ts rs) (hb : BagAt H b N) (f : OffN b H H') : PairsAt H' ts rs := L2.Paired.mapP p fun t r e => f.same e fun z => by
  obtain ⟨_, _, _, q, _⟩ := hb
  rw [z, q] at e
  cases e
/-- the texts of runs -/
def txts (rs : List (Int × Int)) : List Str := rs.map fun r => txt r.1 r.2
theorem txt_len {f m : Int} (f0 : 0 ≤ f) (f1 : f < 10 ^ 13) (m0 : 0 ≤ m) (m1 : m < 10 ^ 13) : (txt f m).length ≤ 33 := by
  have lf := len_int f0 f1
  have lm := len_int m0 m1
  have n1 : ((Str.empty ++ "Run(" : Str)).length = 4 := by decide +kernel
  have n2 : ((", " : String) : Str).length = 2 := by decide +kernel
  have n3 : ((")" : String) : Str).length = 1 := by decide +kernel
  unfold txt
  rw [strLen_append, strLen_append, strLen_append, strLen_append, n1, n2, n3]
  omega
theorem txts_sum : ∀ {rs : List (Int × Int)}, (∀ r ∈ rs, 0 ≤ r.1 ∧ r.1 ≤ 10000 ∧ 1 ≤ r.2 ∧ r.2 ≤ 60) → ((txts rs).map (·.length)).sum ≤ 33 * rs.length
  | [], _ => Nat.zero_le _
  | r :: rs, h => by
    have i := txts_sum (rs := rs) fun x hx => h x (.tail _ hx)
    have g := h r (.head _)
    have t := txt_len (f := r.1) (m := r.2) (by omega) (by omega) (by omega) (by omega)
    show (txt r.1 r.2).length + ((txts rs).map (·.length)).sum ≤ 33 * (rs.length + 1)
    omega
theorem repr_runs {C : Addr} {H : Hp} {as : List Addr} {rs : List (Int × Int)} (h : RunsAt C H as rs) (sm : Small rs) :
    (∀ (i : Nat) (a : Addr), as[i]? = some a → ∃ t dx fs, (txts rs)[i]? = some t ∧ H a = some (.ins C dx fs) ∧ RTxt C a t H) ∧ (txts rs).length = as.length ∧ (listText (txts rs)).length ≤ sizeLine := by
  have hl : as.length = rs.length := Paired.length h
  refine ⟨fun i a ha => ?_, by unfold txts; rw [List.length_map, hl], ?_⟩
  · have hi : i < as.length := (List.getElem?_eq_some_iff.mp ha).1
    have hir : i < rs.length := by omega
    obtain ⟨a', ha', dx, e⟩ := paired_at h (i := i) (List.getElem?_eq_getElem hir)
    rw [ha] at ha'
    cases ha'
    have g := sm.ok rs[i] (List.getElem_mem hir)
    exact ⟨txt rs[i].1 rs[i].2, dx, _, by unfold txts; rw [List.getElem?_map, List.getElem?_eq_getElem hir]; rfl, e, rs[i].1, rs[i].2, ⟨dx, e⟩, by omega, by omega, by omega, by omega, rfl⟩
  · have h1 := listText_len_le (txts rs)
    have h2 := txts_sum sm.ok
    have h3 : (txts rs).length = rs.length := by unfold txts; rw [List.length_map]
    have h4 := sm.n
    exact Nat.le_trans (show _ ≤ 2000 by omega) (by decide)
theorem at3 {x0 x1 x2 : Int} {r : Int} (h0 : 0 ≤ r) (h1 : r < 3) : ∃ z, atI [V.int x0, V.int x1, V.int x2] r = some (V.int z) ∧ (z = x0 ∨ z = x1 ∨ z = x2) := by
  rcases (show r = 0 ∨ r = 1 ∨ r = 2 by omega) with q | q | q <;> rw [q]
  · exact ⟨x0, rfl, .inl rfl⟩
  · exact ⟨x1, rfl, .inr (.inl rfl)⟩
  · exact ⟨x2, rfl, .inr (.inr rfl)⟩
theorem at4b {x0 x1 x2 : Int} {r : Int} (h0 : 0 ≤ r) (h1 : r < 4) : ∃ bd : Option Int, atI [V.int x0, V.int x1, V.int x2, V.non] r = some (bdV bd) ∧ ∀ z, bd = some z → z = x0 ∨ z = x1 ∨ z = x2 := by
  rcases (show r = 0 ∨ r = 1 ∨ r = 2 ∨ r = 3 by omega) with q | q | q | q <;> rw [q]
  · exact ⟨some x0, rfl, fun z hz => .inl (Option.some.inj hz).symm⟩
  · exact ⟨some x1, rfl, fun z hz => .inr (.inl (Option.some.inj hz).symm)⟩
  · exact ⟨some x2, rfl, fun z hz => .inr (.inr (Option.some.inj hz).symm)⟩
  · exact ⟨none, rfl, fun z hz => nomatch hz⟩

section
variable {P : Program} {w : World} {K : PySem.W.Frag} {mg : Str → Option Value} {base : Heap} {C : Addr} {mc : Value} {tM : Tok}
theorem scLaw : FnScope NL ["_law_script"] (defScope sLaw) := ⟨rfl, rfl, rfl, by decide +kernel, rfl, by decide +kernel, by decide +kernel⟩
theorem law_run {f fB fT fR fL fC fS fW fI fQ fP : Addr} {fdB fdT fdR fdL fdC fdS fdW fdI fdQ fdP : FuncData} {g1 g3 : List Value → List Value → List Value} {dV kV doc pm ct cdv oc : Value} {an od : Option Addr} {osl : Array (Option Value)}
    (lk : K.lookup f = some ⟨oc, od, .func (PySem.W.fnOf "law" "law" (defArgs sLaw) (defBody sLaw) (defScope sLaw) dV kV doc pm an cdv ct), osl⟩) (hcd : PySem.W.codeIn K cdv "law" = true) (hbd : ∀ (s : Shared) (u : Value), BindsTo s (PySem.W.fnOf "law" "law" (defArgs sLaw) (defBody sLaw) (defScope sLaw) dV kV doc pm an cdv ct) ⟨[u], []⟩ [("_law_script", u)])
    (T : TR K mg C mc tM) (B : TB mg) (hrepr : mg "repr" = none)
    (YB : Mth P w K mg base 2 "_law_bag" ["_law_script", "_law_at"] (spBag K) fB fdB) (YT : Mth P w K mg base 2 "_law_take" ["_law_bag_here", "_law_many"] spTake fT fdT) (YR : Mth P w K mg base 3 "_law_runs" ["_law_bag_here", "_law_runs_here", "_law_size"] spLRuns fR fdR)
    (YL : Mth P w K mg base 8 "_law_words" ["_law_runs_here"] (spLWords C) fL fdL) (YC : Mth P w K mg base 2 "_law_cut" ["_law_words_here", "_law_most", "_law_border"] spCut fC fdC)
    (GS : FnOk P w K mg base CX0 7 fS fdS ["runs", "longest", "boundary"] (spSegs C)) (aS : mg "segments" = some (.ref fS)) (kS : PySem.W.keepIn K (.ref fS) = true)
    (k1 : KBn K fdS ["runs", "longest", "boundary"] 1 ["longest", "boundary"] g1 (fun vs zs => vs ++ zs ++ [])) (k3 : KBn K fdS ["runs", "longest", "boundary"] 1 ["longest"] g3 (fun vs zs => vs ++ zs ++ [V.non]))
    (M : Mk K C fI) (GI : FnOk P w K mg base CX0 3 fI fdI ["self", "first", "many"] (spInit C)) (bI : Binds K fdI ["self", "first", "many"] [])
    (GQ : FnOk P w K mg base CX0 2 fQ fdQ ["self", "other"] (spEq (SameRun C))) (eQ : PySem.W.findIn K (.ref C) "__eq__" = some (some (.ref fQ))) (iQ : PySem.W.isFn K (.ref fQ) = true) (bQ : Binds K fdQ ["self", "other"] [])
    (GR : FnOk P w K mg base CX0 2 fP fdP ["self"] (Rp.spRepr (RTxt C))) (sR : PySem.W.findIn K (.ref C) "__repr__" = some (some (.ref fP))) (fR : PySem.W.isFn K (.ref fP) = true) (bR : Binds K fdP ["self"] [])
    {s : Shared} {H : Hp} {a : Addr} {ns : List Int} (hl : ns.length ≤ 63) (e0 : Env0 P w K mg base callerA [] s H) (hS : SqL K H a (ns.map V.int)) :
    codeAny (model P w) callerA (.call (.ref f) ⟨[.ref a], []⟩) (CR C8.CX0 [] P w H s (fun v _ => v = .bl true) fun _ _ _ => False) s := by
  refine LamX.run_ofS (k := 8) (N := NL) (ps := ["_law_script"]) (us := [.ref a]) (vs := [.ref a]) lk hcd scLaw ⟨rfl, by decide, by decide⟩ e0 (hbd s (.ref a)) (.cons rfl .nil) rfl fun hr => ?_
  have hr7 : Room 8 _ := hr
  have hr1 : Room 2 _ := hr.mono (show 2 ≤ 8 by decide)
  have hr2 : Room 3 _ := hr.mono (show 3 ≤ 8 by decide)
  have hr3 : Room 4 _ := hr.mono (show 4 ≤ 8 by decide)
  have hr6 : Room 7 _ := hr.mono (show 7 ≤ 8 by decide)
  suffices hh : ∃ t, PSs (cxOf C8.CX0 P w K mg base NL "law" (defScope sLaw) f cdv callerA [] s H fun _ _ _ => False).nox (defBody sLaw) t ∧ t { nx := fun x H' => (fun v (_ : Hp) => v = V.bl true) .non H', rt := fun v _ => v = V.bl true } (L2.start NL [.ref a]) H by
    obtain ⟨t, h1, h2⟩ := hh
    exact ⟨t, h1.nox, h2⟩
  refine ⟨_, pss_cons (ps_for PassesOwn.never rfl (pi_range1 (by rfl) B.range (pa_cons (pe_callB (call_max2 rfl) (by rfl) B.max (by decide +kernel) (pa_cons pe_int (pa_cons (pe_callB (call_min2 rfl) (by rfl) B.min (by decide +kernel) (pa_cons pe_int (pa_cons (pe_callB call_len_seq (by rfl) B.len PySem.boot_len (pa_cons (pv 0) pa_nil)) pa_nil))) pa_nil))) pa_nil)) (pg_name (i := 1) scLaw.nd rfl (Or.inl rfl)) (pss_cons (ps_set (i := 2) scLaw.nd rfl (Or.inl rfl) (pe_call YB.ok hr1 (by rfl) YB.df.at_ YB.df.kp YB.df.bd .nil pass0 (pa_cons (pv 0) (pa_cons (pv 1) pa_nil))))
 (pss_one (ps_for PassesOwn.never rfl (pi_range1 (by rfl) B.range (pa_cons (pe_imp (t' := fun σ H Q => (∃ i, σ[1]? = some (some (V.int i))) ∧ ∀ n : Int, (n = 5 ∨ n = 4) → Q (V.int n) H) (pe_ifExp (pt_cmpR op_eq (pv 1) pe_int (nomark _)) pe_int pe_int) (fun σ H Q h => by
      obtain ⟨⟨i, hi⟩, h⟩ := h
      refine ⟨_, hi, rfl, _, rfl, ?_⟩
      exact ite2 (fun _ => h 5 (.inl rfl)) (fun _ => h 4 (.inr rfl)))) pa_nil)) (pg_name (i := 3) scLaw.nd rfl (Or.inl rfl)) (pss_cons (ps_par (i := 4) (j := 5) rfl scLaw.nd rfl rfl (by decide) rfl rfl (pa_cons (pe_call YR.ok hr2 (by rfl) YR.df.at_ YR.df.kp YR.df.bd .nil pass0 (pa_cons (pv 2) (pa_cons pe_int (pa_cons pe_int pa_nil)))) (pa_cons (pe_op op_add pe_int (pe_call YT.ok hr1 (by rfl) YT.df.at_ YT.df.kp YT.df.bd .nil pass0 (pa_cons (pv 2) (pa_cons pe_int pa_nil)))) pa_nil)) rfl)
 (C8.pss_cut (ps_set (i := 6) scLaw.nd rfl (Or.inl rfl) (pe_ifExp (pt_cmpR op_gt (pe_call YT.ok hr1 (by rfl) YT.df.at_ YT.df.kp YT.df.bd .nil pass0 (pa_cons (pv 2) (pa_cons pe_int pa_nil))) pe_int (nomark _)) (pe_op op_add pe_int (pe_call YT.ok hr1 (by rfl) YT.df.at_ YT.df.kp YT.df.bd .nil pass0 (pa_cons (pv 2) (pa_cons pe_int pa_nil)))) pe_non))
 (C8.pss_cut (ps_if (pt_cmpR op_eq (pv 3) pe_int (nomark _)) (pss_cons (ps_par (i := 4) (j := 5) rfl scLaw.nd rfl rfl (by decide) rfl rfl (pa_cons (pe_call YR.ok hr2 (by rfl) YR.df.at_ YR.df.kp YR.df.bd .nil pass0 (pa_cons (pv 2) (pa_cons pe_int (pa_cons pe_int pa_nil)))) (pa_cons (pe_op op_add pe_int (pe_call YT.ok hr1 (by rfl) YT.df.at_ YT.df.kp YT.df.bd .nil pass0 (pa_cons (pv 2) (pa_cons (pe_ix ix_list (pe_lst (pa_cons pe_int (pa_cons pe_int (pa_cons pe_int pa_nil)))) (pe_call YT.ok hr1 (by rfl) YT.df.at_ YT.df.kp YT.df.bd .nil pass0 (pa_cons (pv 2) (pa_cons pe_int pa_nil))) (fun _ _ => rfl)) pa_nil)))) pa_nil)) rfl)
 (pss_one (ps_set (i := 6) scLaw.nd rfl (Or.inl rfl) (pe_ix ix_list (pe_lst (pa_cons (pe_op op_add pe_int (pe_call YT.ok hr1 (by rfl) YT.df.at_ YT.df.kp YT.df.bd .nil pass0 (pa_cons (pv 2) (pa_cons pe_int pa_nil)))) (pa_cons pe_int (pa_cons (pe_op op_pow pe_int pe_int) (pa_cons pe_non pa_nil))))) (pe_call YT.ok hr1 (by rfl) YT.df.at_ YT.df.kp YT.df.bd .nil pass0 (pa_cons (pv 2) (pa_cons pe_int pa_nil))) (fun _ _ => rfl))))) pss_nil)
 (pss_cons (ps_setLc (i := 7) (own := [("_law_first", 12), ("_law_many", 13)]) (g := gTup K 2 (gCons (gName 12) (gCons (gName 13) gNil))) (tt := tYes) rfl scLaw.nd rfl rfl (sw_true rfl rfl rfl (by decide +kernel)) (pi_list (pv 4)) (blkOk_by (N := NL) (sc := defScope sLaw) (by decide +kernel))
              (fun _ _ _ _ _ => pg_tup rfl (pgs_cons (pg_name (i := 12) scLaw.nd rfl (Or.inl rfl)) (pgs_cons (pg_name (i := 13) scLaw.nd rfl (Or.inl rfl)) pgs_nil))) (fun _ _ _ _ _ => pts_nil) (fun _ _ _ _ _ => pe_make M GI hr3 (by rfl) T.mgC bI .nil pass0 (pa_cons (pv 12) (pa_cons (pv 13) pa_nil))))
 (pss_cons (ps_set (i := 8) scLaw.nd rfl (Or.inl rfl) (pe_call YL.ok hr7 (by rfl) YL.df.at_ YL.df.kp YL.df.bd .nil pass0 (pa_cons (pv 7) pa_nil)))
 (pss_cons (ps_par (i := 9) (j := 10) rfl scLaw.nd rfl rfl (by decide) rfl rfl (pa_cons (pe_callB (Rp.call_reprL GR bR pass0 sR fR hr3 rfl rtxt_mon) (by rfl) hrepr (by decide +kernel) (pa_cons (pv 7) pa_nil)) (pa_cons (pe_lc (own := [("_law_first", 12), ("_law_many", 13)]) (g := gTup K 2 (gCons (gName 12) (gCons (gName 13) gNil))) (tt := tYes) rfl scLaw.nd (pi_list (pe_call YC.ok hr1 (by rfl) YC.df.at_ YC.df.kp YC.df.bd .nil pass0 (pa_cons (pv 8) (pa_cons (pv 5) (pa_cons (pv 6) pa_nil))))) (blkOk_by (N := NL) (sc := defScope sLaw) (by decide +kernel))
              (fun _ _ _ _ _ => pg_tup rfl (pgs_cons (pg_name (i := 12) scLaw.nd rfl (Or.inl rfl)) (pgs_cons (pg_name (i := 13) scLaw.nd rfl (Or.inl rfl)) pgs_nil))) (fun _ _ _ _ _ => pts_nil) (fun _ _ _ _ _ => pe_make M GI hr3 (by rfl) T.mgC bI .nil pass0 (pa_cons (pv 12) (pa_cons (pv 13) pa_nil)))) pa_nil)) rfl)
 (pss_cons (ps_set (i := 11) scLaw.nd rfl (Or.inl rfl) (pe_callN GS hr6 (by rfl) aS kS k1 pass0 (pa_cons (pv 7) pa_nil) (pk_cons (pv 5) (pk_cons (pv 6) pk_nil))))
 (pss_cons (ps_if (PW.pt (pw_or (pt_not (pt_val (pe_callB call_isi (by rfl) T.isi (by decide +kernel) (pa_cons (pv 11) (pa_cons (pe_bltn (v := .ty "list") (by rfl) B.list (by decide +kernel) rfl) pa_nil))))) (pw_or (pt_cmpR (No.op_neOwn mon_same (eqG_ins GQ eQ iQ bQ pass0) hr2) (pv 11) (pv 10) (nomark _)) (pw_or1 (pt_cmpR op_ne (pe_callB (Rp.call_reprL GR bR pass0 sR fR hr3 rfl rtxt_mon) (by rfl) hrepr (by decide +kernel) (pa_cons (pv 7) pa_nil)) (pv 9) (nomark _)))))) (pss_one (ps_ret pe_bl)) pss_nil)
 (pss_one (ps_if (PW.pt (pw_and (pt_cmpR op_isN (pv 6) pe_non (nomark _)) (pw_and1 (pt_cmpR (No.op_neOwn mon_same (eqG_ins GQ eQ iQ bQ pass0) hr2) (pe_callN GS hr6 (by rfl) aS kS k3 pass0 (pa_cons (pv 7) pa_nil) (pk_cons (pv 5) pk_nil)) (pv 10) (nomark _))))) (pss_one (ps_ret pe_bl)) pss_nil))))))))))))))
 (pss_one (ps_ret (pe_cmpR (op_eqD hr1.units) (pe_callN GS hr6 (by rfl) aS kS k3 pass0 (pa_cons (pe_lst pa_nil) pa_nil) (pk_cons pe_int pk_nil)) (pe_lst pa_nil) (nomark _)))), ?_⟩
  refine ⟨_, rfl, a, _, rfl, .inl hS, _, _, rfl, _, _, rfl, _, rfl, ?_⟩
  have hJ : ∀ n : Int, 0 ≤ n → n ≤ 63 → 2 ≤ (if (if n < 4 then n else 4) > 2 then (if n < 4 then n else 4) else 2) ∧ (if (if n < 4 then n else 4) > 2 then (if n < 4 then n else 4) else 2) ≤ 63 := fun n h0 h1 => by
    by_cases q : n < 4
    · rw [if_pos q]
      by_cases z : n > 2
      · rw [if_pos z]; omega
      · rw [if_neg z]; omega
    · rw [if_neg q]
      decide
  have hJ2 := hJ ((ns.map V.int).length : Int) (by omega) (by rw [List.length_map]; omega)
  generalize (if (if ((ns.map V.int).length : Int) < 4 then ((ns.map V.int).length : Int) else 4) > 2 then (if ((ns.map V.int).length : Int) < 4 then ((ns.map V.int).length : Int) else 4) else 2) = J at hJ2 ⊢
  obtain ⟨J0, J1⟩ := hJ2
  refine ⟨by omega, by omega, for_range (lo := 0) (n := J.toNat) (fun i σ H2 => ∃ (v1 v2 v3 v4 v5 v6 v7 v8 v9 v10 v11 v12 v13 : Option V), σ = [some (.ref a), v1, v2, v3, v4, v5, v6, v7, v8, v9, v10, v11, v12, v13] ∧ Same H H2) ⟨none, none, none, none, none, none, none, none, none, none, none, none, none, rfl, Same.refl H⟩ ?_ ?_⟩
  · rintro i σ H2 hi ⟨v1, v2, v3, v4, v5, v6, v7, v8, v9, v10, v11, v12, v13, rfl, s2⟩
    refine ⟨_, rfl, _, rfl, a, ns, _, rfl, s2.seq hS, hl, by omega, by omega, fun b H3 nb b3 o3 => ?_⟩
    have b0 : H b = none := s2.free nb
    have s3 : Same H H3 := fun c u e => (o3 c (ne_of_none e b0)).trans (s2 c u e)
    refine ⟨⟨_, rfl⟩, fun n hn => ?_⟩
    have hn5 : 0 ≤ n ∧ n ≤ 5 := by omega
    refine ⟨n, rfl, by omega, by omega, for_range (lo := 0) (n := n.toNat) (fun j σ H5 => ∃ (v3 v4 v5 v6 v7 v8 v9 v10 v11 v12 v13 : Option V), σ = [some (.ref a), some (.int (0 + (i : Int))), some (.ref b), v3, v4, v5, v6, v7, v8, v9, v10, v11, v12, v13] ∧ Same H H5 ∧ BagAt H5 b (600 * j)) ⟨v3, v4, v5, v6, v7, v8, v9, v10, v11, v12, v13, rfl, s3, b3⟩ ?_ ?_⟩
    · rintro j σ H5 hj ⟨v3, v4, v5, v6, v7, v8, v9, v10, v11, v12, v13, rfl, s5, b5⟩
      have fin : ∀ H', OffN b H5 H' → Same H H' := fun H' f c u e => (f c (by rw [s5 c u e]; simp) (ne_of_none e b0)).trans (s5 c u e)
      refine ⟨_, rfl, b, 600 * j, 10, 9, rfl, b5, by omega, by decide, by decide, by decide, by decide, fun ls ts prs H6 hl6 h6l p6 n6 g6 b6 f6 => ?_⟩
      refine ⟨_, rfl, b, 12, _, rfl, by decide, by decide, b6, by omega, fun mo H7 m0 m1 b7 o7 => ⟨_, _, rfl, rfl, _, _, rfl, ?_⟩⟩
      have bls : b ≠ ls := b5.ne hl6
      have f7 : OffN b H5 H7 := f6.trans (offN_of o7)
      have h7l := (offN_of o7).same h6l bls.symm
      have p7 : PairsAt H7 ts prs := PairsAt.off p6 b6 (offN_of o7)
      have sm0 : Small prs := ⟨by omega, fun r hr => by have := g6 r hr; omega⟩
      refine ⟨fun σ H' => ∃ bd : Option Int, σ = [some (.ref a), some (.int (0 + (i : Int))), some (.ref b), some (.int (0 + (j : Int))), some (.ref ls), some (.int (1 + mo)), some (bdV bd), v7, v8, v9, v10, v11, v12, v13] ∧ (∀ z, bd = some z → 1 ≤ z ∧ z ≤ 10 ^ 6) ∧ H' ls = some (.lst (ts.map V.ref)) ∧ PairsAt H' ts prs ∧ BagAt H' b (600 * j + 203) ∧ OffN b H5 H', ?_, ?_⟩
      · refine ⟨_, rfl, b, 3, _, rfl, by decide, by decide, b7, by omega, fun r9 H9 r90 r91 b9 o9 => ?_⟩
        have k9 := offN_of o9
        have p9 := PairsAt.off p7 b7 k9
        have h9l := k9.same h7l bls.symm
        refine ⟨_, _, rfl, rfl, _, rfl, ?_⟩
        refine ite2 (fun q4 => ?_) (fun q4 => ?_)
        · refine ⟨_, rfl, b, 9, _, rfl, by decide, by decide, b9, by omega, fun bo H10 bo0 bo1 b10 o10 => ?_⟩
          have k10 := offN_of o10
          refine ⟨_, _, rfl, rfl, some (1 + bo), rfl, fun z hz => ?_, k10.same h9l bls.symm, PairsAt.off p9 b9 k10, b10.le (by omega), (f7.trans k9).trans k10⟩
          have := Option.some.inj hz
          omega
        · exact ⟨none, rfl, (fun z hz => nomatch hz), h9l, p9, b9.le (by omega), f7.trans k9⟩
      · rintro σ H9 ⟨bd0, rfl, hbd0, h9l, p9, b9, f9⟩
        refine ⟨fun σ H' => ∃ (ls : Addr) (ts : List Addr) (prs : List (Int × Int)) (lg : Int) (bd : Option Int), σ = [some (.ref a), some (.int (0 + (i : Int))), some (.ref b), some (.int (0 + (j : Int))), some (.ref ls), some (.int lg), some (bdV bd), v7, v8, v9, v10, v11, v12, v13] ∧ b ≠ ls ∧ H' ls = some (.lst (ts.map V.ref)) ∧ PairsAt H' ts prs ∧ Small prs ∧ Cut lg bd ∧ BagAt H' b (600 * j + 500) ∧ OffN b H5 H', ?_, ?_⟩
        · refine ⟨_, rfl, rfl, _, rfl, ?_⟩
          refine ite2 (fun _ => ?_) (fun _ => ⟨ls, ts, prs, 1 + mo, bd0, rfl, bls, h9l, p9, sm0, ⟨by omega, by omega, hbd0⟩, b9.le (by omega), f9⟩)
          refine ⟨_, rfl, b, _, 34, 60, rfl, b9, by omega, by decide, by decide, by decide, by decide, fun l2 ts2 ps2 H10 hl10 h10l p10 n10 g10 b10 f10 => ?_⟩
          have bl2 : b ≠ l2 := b9.ne hl10
          refine ⟨_, rfl, (by show 3 ≤ sizeLine; decide), fun q hq => ?_⟩
          have bq : b ≠ q := b10.ne hq
          have kq := offN_put (b := b) (o := .lst [.int 40, .int 300, .int 2000]) hq
          have b11 := b10.put (o := .lst [.int 40, .int 300, .int 2000]) bq
          have h11l := kq.same h10l bl2.symm
          have p11 := PairsAt.off p10 b10 kq
          have h11q : (upd H10 q (.lst [.int 40, .int 300, .int 2000])) q = some (.lst [.int 40, .int 300, .int 2000]) := upd_same
          generalize (upd H10 q (.lst [.int 40, .int 300, .int 2000])) = H11 at kq b11 h11l p11 h11q ⊢
          refine ⟨_, rfl, b, 3, _, rfl, by decide, by decide, b11, by omega, fun r3 H12 r30 r31 b12 o12 => ?_⟩
          have k12 := offN_of o12
          obtain ⟨z3, hz3, z3c⟩ := at3 (x0 := 40) (x1 := 300) (x2 := 2000) r30 r31
          refine ⟨q, _, r3, _, rfl, rfl, SqL.of (k12.same h11q bq.symm), hz3, ?_⟩
          refine ⟨b, z3, _, rfl, by omega, by omega, b12, by omega, fun mo2 H13 mo20 mo21 b13 o13 => ?_⟩
          have k13 := offN_of o13
          refine ⟨_, _, rfl, rfl, _, _, rfl, ?_⟩
          refine ⟨_, rfl, b, 200, _, rfl, by decide, by decide, b13, by omega, fun r4 H14 r40 r41 b14 o14 => ?_⟩
          have k14 := offN_of o14
          refine ⟨_, _, rfl, rfl, _, _, rfl, rfl, ⟨by decide, by decide, by decide⟩, (by show 4 ≤ sizeLine; decide), fun q2 hq2 => ?_⟩
          have bq2 : b ≠ q2 := b14.ne hq2
          have kq2 := offN_put (b := b) (o := .lst [.int (1 + r4), .int 64, .int (10 ^ Int.toNat 6), .non]) hq2
          have b15 := b14.put (o := .lst [.int (1 + r4), .int 64, .int (10 ^ Int.toNat 6), .non]) bq2
          have k15 := ((((kq.trans k12).trans k13).trans k14).trans kq2)
          have h15q : (upd H14 q2 (.lst [.int (1 + r4), .int 64, .int (10 ^ Int.toNat 6), .non])) q2 = some (.lst [.int (1 + r4), .int 64, .int (10 ^ Int.toNat 6), .non]) := upd_same
          have h15l := kq2.same (k14.same (k13.same (k12.same h11l bl2.symm) bl2.symm) bl2.symm) bl2.symm
          have p15 := PairsAt.off (PairsAt.off (PairsAt.off (PairsAt.off p11 b11 k12) b12 k13) b13 k14) b14 kq2
          have f15 : OffN b H5 (upd H14 q2 (.lst [.int (1 + r4), .int 64, .int (10 ^ Int.toNat 6), .non])) := (f9.trans f10).trans k15
          show tCall _ _ _ _ _ (upd H14 q2 (.lst [.int (1 + r4), .int 64, .int (10 ^ Int.toNat 6), .non])) _
          generalize (upd H14 q2 (.lst [.int (1 + r4), .int 64, .int (10 ^ Int.toNat 6), .non])) = H15 at kq2 b15 h15q h15l p15 k15 f15 ⊢
          refine ⟨_, rfl, b, 4, _, rfl, by decide, by decide, b15, by omega, fun r5 H16 r50 r51 b16 o16 => ?_⟩
          have k16 := offN_of o16
          obtain ⟨bd1, hz5, z5⟩ := at4b (x0 := 1 + r4) (x1 := 64) (x2 := 10 ^ Int.toNat 6) r50 r51
          refine ⟨q2, _, r5, _, rfl, rfl, SqL.of (k16.same h15q bq2.symm), hz5, ?_⟩
          refine ⟨l2, ts2, ps2, 1 + mo2, bd1, rfl, bl2, k16.same h15l bl2.symm, PairsAt.off p15 b15 k16, ⟨by omega, fun r hr => by have := g10 r hr; omega⟩, ⟨by omega, by omega, fun z hz => ?_⟩, b16.le (by omega), f15.trans k16⟩
          have e6 : (10 ^ Int.toNat 6 : Int) = 1000000 := by decide
          rcases z5 z hz with h | h | h <;> rw [h]
          · omega
          · decide
          · rw [e6]; decide
        · rintro σ H10 ⟨ls, ts, prs, lg, bd, rfl, bls, h10l, p10, sm, hc, b10, f10⟩
          have smb := sm.ok
          have smn := sm.n
          refine ⟨_, rfl, ?_⟩
          refine ⟨ls, rfl, ⟨_, SqL.of h10l⟩, fun D hD => lc_list (K := K) (a := ls) (xs := ts.map V.ref) (fun i H' => ∃ as : List Addr, Same H10 H' ∧ H' D = some (.lst (as.map V.ref)) ∧ RunsAt C H' as (prs.take i) ∧ as.length ≤ i)
            ⟨[], put_same hD, upd_same, .nil, Nat.zero_le _⟩ (fun i H' _ ⟨_, s, _⟩ => s.seq (SqL.of h10l)) ?_ ?_⟩
          · rintro i7 x H7 hx ⟨as, s7, h7D, r7, n7⟩
            have hil : i7 < ts.length := by
              have q := (List.getElem?_eq_some_iff.mp hx).1
              rw [List.length_map] at q
              exact q
            have elen : ts.length = prs.length := Paired.length p10
            have hir : i7 < prs.length := by omega
            have ex : x = V.ref ts[i7] := by
              rw [List.getElem?_map, List.getElem?_eq_getElem hil] at hx
              exact (Option.some.inj hx).symm
            subst ex
            obtain ⟨ti, hti, et⟩ := paired_at p10 (i := i7) (List.getElem?_eq_getElem hir)
            rw [List.getElem?_eq_getElem hil] at hti
            have eti : ts[i7] = ti := Option.some.inj hti
            rw [eti]
            have g7 := smb prs[i7] (List.getElem_mem hir)
            have htk := List.take_succ_eq_append_getElem hir
            generalize prs[i7] = r at et g7 htk
            refine ⟨ti, _, rfl, SqT.of (s7 _ _ et), rfl, _, _, rfl, _, _, rfl, rfl, rfl, iteT (B := ∃ as : List Addr, Same H10 H7 ∧ H7 D = some (.lst (as.map V.ref)) ∧ RunsAt C H7 as (prs.take (i7 + 1)) ∧ as.length ≤ i7 + 1) ?_⟩
            refine ⟨_, rfl, _, rfl, fun p dx hp hdx ne => ?_⟩
            refine ⟨p, dx, _, _, rfl, upd_same, by omega, by unfold Most; omega, by omega, by unfold Most; omega, rfl, ?_⟩
            rw [upd_upd]
            have Dp : D ≠ p := ne_of_none h7D hp
            have Dd : D ≠ dx := ne_of_none h7D hdx
            refine ⟨as.map V.ref, by rw [upd_ne Dp, upd_ne Dd]; exact h7D, ?_, as ++ [p], fun q o e => ?_, by rw [upd_same, List.map_append]; rfl, ?_, by rw [List.length_append]; show as.length + 1 ≤ i7 + 1; omega⟩
            · rw [List.length_map]
              exact Nat.lt_of_le_of_lt (show as.length ≤ 20000 by omega) (by decide)
            · have e7 := s7 _ _ e
              rw [upd_ne (ne_of_none e hD), upd_ne (ne_of_none e7 hp), upd_ne (ne_of_none e7 hdx)]
              exact e7
            · rw [htk]
              refine paired_snoc ⟨dx, by rw [upd_ne Dp.symm, upd_same]⟩ (L2.Paired.mapP r7 fun q r' ⟨d, z⟩ => ⟨d, ?_⟩)
              rw [upd_ne (ne_of z h7D (by intro y; cases y)), upd_ne (ne_of_none z hp), upd_ne (ne_of_none z hdx)]
              exact z
          · rintro H11 ⟨as, s11, h11D, r11, n11⟩
            rw [List.length_map, show ts.length = prs.length from Paired.length p10, List.take_length] at r11
            have f11 := f10.trans (offN_same (b := b) s11)
            have b11 := b10.sameN s11
            have bD : b ≠ D := b10.ne hD
            refine ⟨_, rfl, D, as, prs, rfl, h11D, r11, sm.ws, fun lw H12 s12 lw0 h12w => ?_⟩
            have f12 := f11.trans (offN_same (b := b) s12)
            have b12 := b11.sameN s12
            have h12D := s12 _ _ h11D
            have r12 := r11.same s12
            obtain ⟨w1, w2, w3⟩ := repr_runs r12 sm
            refine ⟨_, rfl, D, as, txts prs, rfl, h12D, w1, w2, w3, fun H13 e13 => ?_⟩
            have s13 : Same H12 H13 := fun q o e => e13 q o e
            have f13 := f12.trans (offN_same (b := b) s13)
            have b13 := b12.sameN s13
            have h13D := s13 _ _ h12D
            have h13w := s13 _ _ h12w
            have r13 := r12.same s13
            have fl7 := flat_len sm.ok
            have fmem := flat_mem sm.ok
            refine ⟨_, rfl, _, rfl, _, rfl, lw, flat prs, lg, bd, rfl, h13w, by omega, (fun x hx => by have := fmem x hx; omega), hc, fun lc tc H14 s14 lc0 h14c p14 => ?_⟩
            have f14 := f13.trans (offN_same (b := b) s14)
            have b14 := b13.sameN s14
            have h14D := s14 _ _ h13D
            have r14 := r13.same s14
            have hok : ∀ r ∈ grd lg bd (flat prs), Okp lg bd r := okp_grd hc.l1 _
            have hl2 := hc.l2
            have hgb : ∀ r ∈ grd lg bd (flat prs), 0 ≤ r.1 ∧ r.1 ≤ 20000 ∧ 1 ≤ r.2 ∧ r.2 ≤ 10 ^ 6 := fun r hr => by
              obtain ⟨u1, u2, _⟩ := hok r hr
              have := fmem r.1 (by
                have z := mem_flat hr u1
                rw [flat_grd] at z
                exact z)
              omega
            have hgn : (grd lg bd (flat prs)).length ≤ 2000 := by
              have h0 : ∀ (ws : List Int) (f e : Int), (fl lg bd ws f e).length ≤ ws.length + 1 := by
                intro ws
                induction ws with
                | nil => intro f e; exact Nat.le_refl _
                | cons w ws ih =>
                  intro f e
                  by_cases q : Adj lg bd f e w
                  · rw [fl_take q]
                    exact Nat.le_trans (ih _ _) (Nat.le_succ _)
                  · rw [fl_cut q, List.length_cons, List.length_cons]
                    exact Nat.succ_le_succ (ih _ _)
              have h1 : (grd lg bd (flat prs)).length ≤ (flat prs).length + 1 := by
                cases flat prs with
                | nil => exact Nat.zero_le _
                | cons w ws => exact Nat.le_trans (h0 ws w (w + 1)) (by rw [List.length_cons]; omega)
              omega
            have hsg : segs lg bd prs = grd lg bd (flat prs) := segs_grd hc fun r hr => ⟨(smb r hr).1, (smb r hr).2.2.1⟩
            generalize hgd : grd lg bd (flat prs) = gd at p14 hgb hgn hsg
            refine ⟨lc, rfl, ⟨_, SqL.of h14c⟩, fun D2 hD2 => lc_list (K := K) (a := lc) (xs := tc.map V.ref) (fun i H' => ∃ as : List Addr, Same H14 H' ∧ H' D2 = some (.lst (as.map V.ref)) ∧ RunsAt C H' as (gd.take i) ∧ as.length ≤ i)
              ⟨[], put_same hD2, upd_same, .nil, Nat.zero_le _⟩ (fun i H' _ ⟨_, s, _⟩ => s.seq (SqL.of h14c)) ?_ ?_⟩
            · rintro i7 x H7 hx ⟨as, s7, h7D, r7, n7⟩
              have hil : i7 < tc.length := by
                have q := (List.getElem?_eq_some_iff.mp hx).1
                rw [List.length_map] at q
                exact q
              have elen : tc.length = gd.length := Paired.length p14
              have hir : i7 < gd.length := by omega
              have ex : x = V.ref tc[i7] := by
                rw [List.getElem?_map, List.getElem?_eq_getElem hil] at hx
                exact (Option.some.inj hx).symm
              subst ex
              obtain ⟨ti, hti, et⟩ := paired_at p14 (i := i7) (List.getElem?_eq_getElem hir)
              rw [List.getElem?_eq_getElem hil] at hti
              have eti : tc[i7] = ti := Option.some.inj hti
              rw [eti]
              have g7 := hgb gd[i7] (List.getElem_mem hir)
              have htk := List.take_succ_eq_append_getElem hir
              generalize gd[i7] = r at et g7 htk
              refine ⟨ti, _, rfl, SqT.of (s7 _ _ et), rfl, _, _, rfl, _, _, rfl, rfl, rfl, iteT (B := ∃ as : List Addr, Same H14 H7 ∧ H7 D2 = some (.lst (as.map V.ref)) ∧ RunsAt C H7 as (gd.take (i7 + 1)) ∧ as.length ≤ i7 + 1) ?_⟩
              refine ⟨_, rfl, _, rfl, fun p dx hp hdx ne => ?_⟩
              refine ⟨p, dx, _, _, rfl, upd_same, by omega, by unfold Most; omega, by omega, by unfold Most; omega, rfl, ?_⟩
              rw [upd_upd]
              have Dp : D2 ≠ p := ne_of_none h7D hp
              have Dd : D2 ≠ dx := ne_of_none h7D hdx
              refine ⟨as.map V.ref, by rw [upd_ne Dp, upd_ne Dd]; exact h7D, ?_, as ++ [p], fun q o e => ?_, by rw [upd_same, List.map_append]; rfl, ?_, by rw [List.length_append]; show as.length + 1 ≤ i7 + 1; omega⟩
              · rw [List.length_map]
                exact Nat.lt_of_le_of_lt (show as.length ≤ 20000 by omega) (by decide)
              · have e7 := s7 _ _ e
                rw [upd_ne (ne_of_none e hD2), upd_ne (ne_of_none e7 hp), upd_ne (ne_of_none e7 hdx)]
                exact e7
              · rw [htk]
                refine paired_snoc ⟨dx, by rw [upd_ne Dp.symm, upd_same]⟩ (L2.Paired.mapP r7 fun q r' ⟨d, z⟩ => ⟨d, ?_⟩)
                rw [upd_ne (ne_of z h7D (by intro y; cases y)), upd_ne (ne_of_none z hp), upd_ne (ne_of_none z hdx)]
                exact z
            · rintro H15 ⟨cs, s15, h15D2, r15, n15⟩
              rw [List.length_map, show tc.length = gd.length from Paired.length p14, List.take_length] at r15
              have f15 := f14.trans (offN_same (b := b) s15)
              have b15 := b14.sameN s15
              have h15D := s15 _ _ h14D
              have rr15 := r14.same s15
              refine ⟨_, _, rfl, ?_⟩
              refine ⟨_, rfl, _, rfl, _, rfl, rfl, rfl, D, as, prs, lg, bd, rfl, h15D, rr15, sm.few, hc, fun lt bs H16 s16 lt0 h16t r16 => ?_⟩
              have f16 := f15.trans (offN_same (b := b) s16)
              have b16 := b15.sameN s16
              have h16D := s16 _ _ h15D
              have h16D2 := s16 _ _ h15D2
              have rr16 := rr15.same s16
              have rc16 := r15.same s16
              rw [hsg] at r16
              refine ⟨_, rfl, _, _, .type "list", .type "list", true, rfl, .ty "list", .base (.lst h16t), kit_ty (by decide +kernel), _, rfl, iteF ?_⟩
              refine ⟨_, rfl, _, rfl, ⟨lt, D2, _, _, rfl, rfl, h16t, h16D2, prs_runs r16 rc16⟩, fun H17 e17 => ?_⟩
              have s17 : Same H16 H17 := fun q o e => e17 q o e
              have h17D := s17 _ _ h16D
              have rr17 := rr16.same s17
              obtain ⟨w4, w5, w6⟩ := repr_runs rr17 sm
              refine ⟨_, rfl, iteF ?_⟩
              refine ⟨_, rfl, D, as, txts prs, rfl, h17D, w4, w5, w6, fun H18 e18 => ?_⟩
              have s18 : Same H17 H18 := fun q o e => e18 q o e
              have s178 : Same H16 H18 := fun q o e => s18 _ _ (s17 _ _ e)
              have f18 := f16.trans (offN_same (b := b) s178)
              have b18 := b16.sameN s178
              have h18D := s178 _ _ h16D
              have h18D2 := s178 _ _ h16D2
              have rr18 := rr16.same s178
              have rc18 := rc16.same s178
              refine ⟨_, rfl, rfl, _, rfl, ?_⟩
              refine ite2 (fun z => ?_) (fun _ => ?_)
              · simp at z
              refine ⟨_, rfl, rfl, _, rfl, ?_⟩
              cases bd with
              | none =>
                refine ite2 (fun _ => ?_) (fun z => (z (by simp [bdV])).elim)
                refine ⟨_, rfl, _, rfl, rfl, rfl, D, as, prs, lg, none, rfl, h18D, rr18, sm.few, hc, fun l3 ds H19 s19 l30 h19 r19 => ?_⟩
                rw [hsg] at r19
                refine ⟨_, rfl, ⟨l3, D2, _, _, rfl, rfl, h19, s19 _ _ h18D2, prs_runs r19 (rc18.same s19)⟩, fun H20 e20 => ⟨_, rfl, iteF ?_⟩⟩
                have s20 : Same H18 H20 := fun q o e => e20 _ _ (s19 _ _ e)
                exact ⟨_, _, _, _, _, _, _, _, _, _, _, rfl, fin _ (f18.trans (offN_same s20)), (b18.sameN s20).le (by omega)⟩
              | some bo =>
                refine ite2 (fun z => ?_) (fun _ => ⟨_, _, _, _, _, _, _, _, _, _, _, rfl, fin _ f18, b18.le (by omega)⟩)
                simp [bdV] at z
    · rintro σ H5 ⟨v3, v4, v5, v6, v7, v8, v9, v10, v11, v12, v13, rfl, s5, b5⟩
      exact ⟨_, _, _, _, _, _, _, _, _, _, _, _, _, rfl, s5⟩
  · rintro σ H2 ⟨v1, v2, v3, v4, v5, v6, v7, v8, v9, v10, v11, v12, v13, rfl, s2⟩
    refine ⟨Nat.zero_le _, fun l1 hl1 => ?_⟩
    have c3 : Cut 3 none := ⟨by decide, by decide, fun z hz => nomatch hz⟩
    refine ⟨rfl, rfl, l1, [], [], 3, none, rfl, upd_same, .nil, ⟨Nat.zero_le _, fun r hr => by cases hr⟩, c3, fun l2 bs H3 s3 l20 h3 r3 => ?_⟩
    have hb : bs = [] := List.length_eq_zero_iff.mp (Paired.length r3)
    refine ⟨Nat.zero_le _, fun l4 hl4 => ?_⟩
    have l24 : l2 ≠ l4 := ne_of_none h3 hl4
    refine ⟨dInts [], dInts [], dp_ints (SqL.of (by rw [upd_ne l24, h3, hb]; rfl)), dp_ints (SqL.of upd_same), shaped_ints _, shaped_ints _, ?_⟩
    rw [eqv_ints]
end
end Rf
namespace Rf
open PySem L2
/-! ### what the top has written, the head -/
theorem all_mk {lw : PySem.W.OpenLaw} {w : World} {K : PySem.W.Frag} {h : Heap} {mg : Str → Option Value} {fa f99 f1 f2 f3 f17 f4 f5 f6 f7 f8 f9 f10 f11 f12 f15 f16 pp4 pp5 dd16 C : Addr} {tM : Tok} (X : K.In h) (G : h.Ns mainGlobals mg) (hfa : mg "law" = some (.ref fa))
    {od99 an99 od1 an1 od2 an2 od3 an3 od17 an17 od4 an4 od5 an5 od6 an6 od7 an7 od8 an8 od9 an9 od10 an10 od11 an11 od12 an12 od15 an15 od16 an16 : Option Addr} {sl99 sl1 sl2 sl3 sl17 sl4 sl5 sl6 sl7 sl8 sl9 sl10 sl11 sl12 sl15 sl16 : Array (Option Value)} {oc99 kV99 dc99 pm99 cd99 ct99 oc1 kV1 dc1 pm1 cd1 ct1 oc2 kV2 dc2 pm2 cd2 ct2 oc3 kV3 dc3 pm3 cd3 ct3 oc17 kV17 dc17 pm17 cd17 ct17 oc4 kV4 dc4 pm4 cd4 ct4 oc5 kV5 dc5 pm5 cd5 ct5 oc6 kV6 dc6 pm6 cd6 ct6 oc7 kV7 dc7 pm7 cd7 ct7 oc8 kV8 dc8 pm8 cd8 ct8 oc9 kV9 dc9 pm9 cd9 ct9 oc10 kV10 dc10 pm10 cd10 ct10 oc11 kV11 dc11 pm11 cd11 ct11 oc12 kV12 dc12 pm12 cd12 ct12 oc15 kV15 dc15 pm15 cd15 ct15 oc16 dc16 pm16 cd16 ct16 : Value}
    {rest4 rest5 : List Value}
    (aC : PySem.W.nsIn K mainGlobals "Run" = some (some (.ref C)))
    (a1 : PySem.W.findIn K (.ref C) "__init__" = some (some (.ref f1)))
    (i1 : PySem.W.isFn K (.ref f1) = true)
    (a2 : PySem.W.findIn K (.ref C) "words" = some (some (.ref f2)))
    (i2 : PySem.W.isFn K (.ref f2) = true)
    (a3 : PySem.W.findIn K (.ref C) "__eq__" = some (some (.ref f3)))
    (i3 : PySem.W.isFn K (.ref f3) = true)
    (a17 : PySem.W.findIn K (.ref C) "__repr__" = some (some (.ref f17)))
    (i17 : PySem.W.isFn K (.ref f17) = true)
    (p14 : PySem.W.findIn K (.ref C) "end" = some (some (.ref pp4)))
    (p24 : PySem.W.specialIn K (.ref pp4) "__get__" = some (some (.builtin "property.__get__")))
    (p34 : PySem.W.takesIn K (.ref pp4) = some true)
    (p44 : PySem.W.recIn K pp4 "property" = some (.ref f4 :: rest4))
    (q15 : PySem.W.findCls K (.ref C) (.type "type") "between" = some (.get (.builtin "classmethod.__get__") (.ref pp5) .none (.ref C)))
    (q25 : PySem.W.recIn K pp5 "classmethod" = some (.ref f5 :: rest5))
    (q35 : PySem.W.fnIn K f5 = true)
    (a6 : PySem.W.nsIn K mainGlobals "whole" = some (some (.ref f6)))
    (a99 : PySem.W.nsIn K mainGlobals "integer" = some (some (.ref f99)))
    (a7 : PySem.W.nsIn K mainGlobals "_pieces" = some (some (.ref f7)))
    (a8 : PySem.W.nsIn K mainGlobals "_law_bag" = some (some (.ref f8)))
    (a9 : PySem.W.nsIn K mainGlobals "_law_take" = some (some (.ref f9)))
    (a10 : PySem.W.nsIn K mainGlobals "_law_runs" = some (some (.ref f10)))
    (a11 : PySem.W.nsIn K mainGlobals "_law_words" = some (some (.ref f11)))
    (a12 : PySem.W.nsIn K mainGlobals "_law_cut" = some (some (.ref f12)))
    (a15 : PySem.W.nsIn K mainGlobals "law" = some (some (.ref f15)))
    (a16 : PySem.W.nsIn K mainGlobals "segments" = some (some (.ref f16)))
    (l1 : K.lookup f1 = some ⟨oc1, od1, .func (PySem.W.fnOf "__init__" "Run.__init__" (defArgs sInit) (defBody sInit) (defScope sInit) .none kV1 dc1 pm1 an1 cd1 ct1), sl1⟩)
    (c1 : PySem.W.codeIn K cd1 "Run.__init__" = true)
    (k1 : PySem.W.keepIn K (.ref f1) = true)
    (l2 : K.lookup f2 = some ⟨oc2, od2, .func (PySem.W.fnOf "words" "Run.words" (defArgs sWords) (defBody sWords) (defScope sWords) .none kV2 dc2 pm2 an2 cd2 ct2), sl2⟩)
    (c2 : PySem.W.codeIn K cd2 "Run.words" = true)
    (k2 : PySem.W.keepIn K (.ref f2) = true)
    (l3 : K.lookup f3 = some ⟨oc3, od3, .func (PySem.W.fnOf "__eq__" "Run.__eq__" (defArgs sEq) (defBody sEq) (defScope sEq) .none kV3 dc3 pm3 an3 cd3 ct3), sl3⟩)
    (c3 : PySem.W.codeIn K cd3 "Run.__eq__" = true)
    (k3 : PySem.W.keepIn K (.ref f3) = true)
    (l17 : K.lookup f17 = some ⟨oc17, od17, .func (PySem.W.fnOf "__repr__" "Run.__repr__" (defArgs sRepr) (defBody sRepr) (defScope sRepr) .none kV17 dc17 pm17 an17 cd17 ct17), sl17⟩)
    (c17 : PySem.W.codeIn K cd17 "Run.__repr__" = true)
    (k17 : PySem.W.keepIn K (.ref f17) = true)
    (l4 : K.lookup f4 = some ⟨oc4, od4, .func (PySem.W.fnOf "end" "Run.end" (defArgs sEnd) (defBody sEnd) (defScope sEnd) .none kV4 dc4 pm4 an4 cd4 ct4), sl4⟩)
    (c4 : PySem.W.codeIn K cd4 "Run.end" = true)
    (k4 : PySem.W.keepIn K (.ref f4) = true)
    (l5 : K.lookup f5 = some ⟨oc5, od5, .func (PySem.W.fnOf "between" "Run.between" (defArgs sBetween) (defBody sBetween) (defScope sBetween) .none kV5 dc5 pm5 an5 cd5 ct5), sl5⟩)
    (c5 : PySem.W.codeIn K cd5 "Run.between" = true)
    (k5 : PySem.W.keepIn K (.ref f5) = true)
    (l6 : K.lookup f6 = some ⟨oc6, od6, .func (PySem.W.fnOf "whole" "whole" (defArgs sWhole) (defBody sWhole) (defScope sWhole) .none kV6 dc6 pm6 an6 cd6 ct6), sl6⟩)
    (l99 : K.lookup f99 = some ⟨oc99, od99, .func (PySem.W.fnOf "integer" "integer" (defArgs sInteger) (defBody sInteger) (defScope sInteger) .none kV99 dc99 pm99 an99 cd99 ct99), sl99⟩)
    (c6 : PySem.W.codeIn K cd6 "whole" = true)
    (c99 : PySem.W.codeIn K cd99 "integer" = true)
    (k6 : PySem.W.keepIn K (.ref f6) = true)
    (k99 : PySem.W.keepIn K (.ref f99) = true)
    (l7 : K.lookup f7 = some ⟨oc7, od7, .func (PySem.W.fnOf "_pieces" "_pieces" (defArgs sPieces) (defBody sPieces) (defScope sPieces) .none kV7 dc7 pm7 an7 cd7 ct7), sl7⟩)
    (c7 : PySem.W.codeIn K cd7 "_pieces" = true)
    (k7 : PySem.W.keepIn K (.ref f7) = true)
    (l8 : K.lookup f8 = some ⟨oc8, od8, .func (PySem.W.fnOf "_law_bag" "_law_bag" (defArgs sBag) (defBody sBag) (defScope sBag) .none kV8 dc8 pm8 an8 cd8 ct8), sl8⟩)
    (c8 : PySem.W.codeIn K cd8 "_law_bag" = true)
    (k8 : PySem.W.keepIn K (.ref f8) = true)
    (l9 : K.lookup f9 = some ⟨oc9, od9, .func (PySem.W.fnOf "_law_take" "_law_take" (defArgs sTake) (defBody sTake) (defScope sTake) .none kV9 dc9 pm9 an9 cd9 ct9), sl9⟩)
    (c9 : PySem.W.codeIn K cd9 "_law_take" = true)
    (k9 : PySem.W.keepIn K (.ref f9) = true)
    (l10 : K.lookup f10 = some ⟨oc10, od10, .func (PySem.W.fnOf "_law_runs" "_law_runs" (defArgs sLRuns) (defBody sLRuns) (defScope sLRuns) .none kV10 dc10 pm10 an10 cd10 ct10), sl10⟩)
    (c10 : PySem.W.codeIn K cd10 "_law_runs" = true)
    (k10 : PySem.W.keepIn K (.ref f10) = true)
    (l11 : K.lookup f11 = some ⟨oc11, od11, .func (PySem.W.fnOf "_law_words" "_law_words" (defArgs sLWords) (defBody sLWords) (defScope sLWords) .none kV11 dc11 pm11 an11 cd11 ct11), sl11⟩)
    (c11 : PySem.W.codeIn K cd11 "_law_words" = true)
    (k11 : PySem.W.keepIn K (.ref f11) = true)
    (l12 : K.lookup f12 = some ⟨oc12, od12, .func (PySem.W.fnOf "_law_cut" "_law_cut" (defArgs sCut) (defBody sCut) (defScope sCut) .none kV12 dc12 pm12 an12 cd12 ct12), sl12⟩)
    (c12 : PySem.W.codeIn K cd12 "_law_cut" = true)
    (k12 : PySem.W.keepIn K (.ref f12) = true)
    (l15 : K.lookup f15 = some ⟨oc15, od15, .func (PySem.W.fnOf "law" "law" (defArgs sLaw) (defBody sLaw) (defScope sLaw) .none kV15 dc15 pm15 an15 cd15 ct15), sl15⟩)
    (c15 : PySem.W.codeIn K cd15 "law" = true)
    (k15 : PySem.W.keepIn K (.ref f15) = true)
    (l16 : K.lookup f16 = some ⟨oc16, od16, .func (PySem.W.fnOf "segments" "segments" (defArgs sSegs) (defBody sSegs) (defScope sSegs) .none (.ref dd16) dc16 pm16 an16 cd16 ct16), sl16⟩)
    (c16 : PySem.W.codeIn K cd16 "segments" = true)
    (k16 : PySem.W.keepIn K (.ref f16) = true)
    (d16_0 : PySem.W.nsIn K dd16 "boundary" = some (some .none))
    (pg : PySem.W.plainGet K C Str.empty = true)
    (hd : PySem.W.hasDictIn K C = true)
    (po : PySem.W.plainOver K C = true)
    (sa : PySem.W.findIn K (.ref C) "__setattr__" = some (some (.builtin "object.__setattr__")))
    (mk : PySem.W.makesIn K C = true)
    (kc : PySem.W.keepIn K (.ref C) = true)
    (nF : PySem.W.findIn K (.ref C) "first" = some none)
    (nM : PySem.W.findIn K (.ref C) "many" = some none)
    (r1 : PySem.W.readsIn K C (.type "type") = true)
    (r2 : PySem.W.specialIn K (.ref C) "__getattribute__" = some (some (.builtin "type.__getattribute__")))
    (mo : PySem.W.nsIn K mainGlobals "_MOST" = some (some (.int 1000000000000 tM)))
    (e1 : PySem.W.findIn K (.ref C) "__class__" = some (some (.builtin "object.__class__")))
    (e2 : PySem.W.specialIn K (.builtin "object.__class__") "__get__" = some (some (.builtin "getset_descriptor.__get__")))
    (e3 : PySem.W.takesIn K (.builtin "object.__class__") = some true)
    (e4 : PySem.W.mroIn K C (.type "object") = some true)
    (z_len : PySem.W.nsIn K mainGlobals "len" = some none)
    (z_abs : PySem.W.nsIn K mainGlobals "abs" = some none)
    (z_range : PySem.W.nsIn K mainGlobals "range" = some none)
    (z_min : PySem.W.nsIn K mainGlobals "min" = some none)
    (z_max : PySem.W.nsIn K mainGlobals "max" = some none)
    (z_list : PySem.W.nsIn K mainGlobals "list" = some none)
    (z_all : PySem.W.nsIn K mainGlobals "all" = some none)
    (z_isinstance : PySem.W.nsIn K mainGlobals "isinstance" = some none)
    (z_int : PySem.W.nsIn K mainGlobals "int" = some none)
    (z_bool : PySem.W.nsIn K mainGlobals "bool" = some none)
    (z_repr : PySem.W.nsIn K mainGlobals "repr" = some none) :
    Tp.TopOk lw.prog w K mg fa 63 := by
  have e := hfa.symm.trans (PySem.W.mg_of X G a15)
  cases e
  have F1 := fun_mk (st := sInit) l1 c1 k1
  have b1 := F1.binds (ps := ["self", "first", "many"]) fun _ _ _ _ _ _ us hl => match us, hl with | [_, _, _], _ => rfl
  have F2 := fun_mk (st := sWords) l2 c2 k2
  have b2 := F2.binds (ps := ["self"]) fun _ _ _ _ _ _ us hl => match us, hl with | [_], _ => rfl
  have F3 := fun_mk (st := sEq) l3 c3 k3
  have b3 := F3.binds (ps := ["self", "other"]) fun _ _ _ _ _ _ us hl => match us, hl with | [_, _], _ => rfl
  have F17 := fun_mk (st := sRepr) l17 c17 k17
  have b17 := F17.binds (ps := ["self"]) fun _ _ _ _ _ _ us hl => match us, hl with | [_], _ => rfl
  have F4 := fun_mk (st := sEnd) l4 c4 k4
  have b4 := F4.binds (ps := ["self"]) fun _ _ _ _ _ _ us hl => match us, hl with | [_], _ => rfl
  have F5 := fun_mk (st := sBetween) l5 c5 k5
  have b5 := F5.binds (ps := ["cls", "first", "end"]) fun _ _ _ _ _ _ us hl => match us, hl with | [_, _, _], _ => rfl
  have F6 := fun_mk (st := sWhole) l6 c6 k6
  have F99 := fun_mk (st := sInteger) l99 c99 k99
  have b6 := F6.binds (ps := ["value", "least", "most"]) fun _ _ _ _ _ _ us hl => match us, hl with | [_, _, _], _ => rfl
  have b99 := F99.binds (ps := ["value"]) fun _ _ _ _ _ _ us hl => match us, hl with | [_], _ => rfl
  have F7 := fun_mk (st := sPieces) l7 c7 k7
  have b7 := F7.binds (ps := ["first", "end", "longest", "boundary"]) fun _ _ _ _ _ _ us hl => match us, hl with | [_, _, _, _], _ => rfl
  have F8 := fun_mk (st := sBag) l8 c8 k8
  have b8 := F8.binds (ps := ["_law_script", "_law_at"]) fun _ _ _ _ _ _ us hl => match us, hl with | [_, _], _ => rfl
  have F9 := fun_mk (st := sTake) l9 c9 k9
  have b9 := F9.binds (ps := ["_law_bag_here", "_law_many"]) fun _ _ _ _ _ _ us hl => match us, hl with | [_, _], _ => rfl
  have F10 := fun_mk (st := sLRuns) l10 c10 k10
  have b10 := F10.binds (ps := ["_law_bag_here", "_law_runs_here", "_law_size"]) fun _ _ _ _ _ _ us hl => match us, hl with | [_, _, _], _ => rfl
  have F11 := fun_mk (st := sLWords) l11 c11 k11
  have b11 := F11.binds (ps := ["_law_runs_here"]) fun _ _ _ _ _ _ us hl => match us, hl with | [_], _ => rfl
  have F12 := fun_mk (st := sCut) l12 c12 k12
  have b12 := F12.binds (ps := ["_law_words_here", "_law_most", "_law_border"]) fun _ _ _ _ _ _ us hl => match us, hl with | [_, _, _], _ => rfl
  have F15 := fun_mk (st := sLaw) l15 c15 k15
  have F16 : FunD K "segments" "segments" (defArgs sSegs) (defBody sSegs) (defScope sSegs) [] [("boundary", .non)] f16 _ := ⟨⟨_, _, _, _, _, _, _, _, _, _, rfl, l16, c16, .inl ⟨rfl, rfl⟩, .inr ⟨dd16, rfl, fun q hq => by
      simp only [List.mem_cons, List.not_mem_nil, or_false] at hq
      rcases hq with rfl
      · exact ⟨_, d16_0, by first | rfl | exact ⟨_, rfl⟩⟩
    ⟩⟩, k16⟩
  have P4 : PropOf K C "end" pp4 f4 := ⟨p14, p24, p34, ⟨_, p44⟩⟩
  have Q5 : ClX.CMet K C (.type "type") "between" pp5 f5 := ⟨q15, ⟨_, q25⟩, q35⟩
  have D6 : Def K mg "whole" f6 _ ["value", "least", "most"] := ⟨PySem.W.mg_of X G a6, k6, b6⟩
  have D99 : Def K mg "integer" f99 _ ["value"] := ⟨PySem.W.mg_of X G a99, k99, b99⟩
  have D7 : Def K mg "_pieces" f7 _ ["first", "end", "longest", "boundary"] := ⟨PySem.W.mg_of X G a7, k7, b7⟩
  have D8 : Def K mg "_law_bag" f8 _ ["_law_script", "_law_at"] := ⟨PySem.W.mg_of X G a8, k8, b8⟩
  have D9 : Def K mg "_law_take" f9 _ ["_law_bag_here", "_law_many"] := ⟨PySem.W.mg_of X G a9, k9, b9⟩
  have D10 : Def K mg "_law_runs" f10 _ ["_law_bag_here", "_law_runs_here", "_law_size"] := ⟨PySem.W.mg_of X G a10, k10, b10⟩
  have D11 : Def K mg "_law_words" f11 _ ["_law_runs_here"] := ⟨PySem.W.mg_of X G a11, k11, b11⟩
  have D12 : Def K mg "_law_cut" f12 _ ["_law_words_here", "_law_most", "_law_border"] := ⟨PySem.W.mg_of X G a12, k12, b12⟩
  intro base s H a ns hn _ _ e0 hS
  have T : TR K mg C (.type "type") tM := ⟨⟨pg, hd, po, sa⟩, nF, nM, PySem.W.mg_of X G aC, PySem.W.mg_of X G mo, PySem.W.mg_none_of X G z_isinstance, PySem.W.mg_none_of X G z_int, PySem.W.mg_none_of X G z_bool, PySem.W.mg_none_of X G z_range, ⟨r1, r2⟩⟩
  have B : TB mg := ⟨PySem.W.mg_none_of X G z_len, PySem.W.mg_none_of X G z_abs, PySem.W.mg_none_of X G z_range, PySem.W.mg_none_of X G z_min, PySem.W.mg_none_of X G z_max, PySem.W.mg_none_of X G z_list, PySem.W.mg_none_of X G z_all⟩
  have Z : IsR K C := ⟨e1, e2, e3, e4⟩
  have MI : Mk K C f1 := ⟨mk, a1, i1, kc⟩
  have GNi : FnOk lw.prog w K mg base CX0 1 f99 _ ["value"] (spInteger K) := ok_integer F99 T
  have GWh : FnOk lw.prog w K mg base CX0 2 f6 _ ["value", "least", "most"] (spWhole K) := ok_whole F6 GNi D99
  have GI : FnOk lw.prog w K mg base CX0 3 f1 _ ["self", "first", "many"] (spInit C) := ok_init F1 T GWh D6
  have GB : FnOk lw.prog w K mg base CX0 5 f5 _ ["cls", "first", "end"] (spBetween C) := ok_between F5 T GWh D6 MI GI b1
  have GE : FnOk lw.prog w K mg base CX0 2 f4 _ ["self"] (spEnd C) := ok_end F4 T
  have GP : FnOk lw.prog w K mg base CX0 6 f7 _ ["first", "end", "longest", "boundary"] (spPieces C) := ok_pieces (fdB := PySem.W.fnOf "law" "law" (defArgs sLaw) (defBody sLaw) (defScope sLaw) .none kV15 dc15 pm15 an15 cd15 ct15) F7 T ⟨PySem.W.mg_none_of X G z_min⟩ ((GB.raw b5 .nil).imp fun vs H Q E z => by rw [List.append_nil]; exact z) Q5
  have GS : FnOk lw.prog w K mg base CX0 7 f16 _ ["runs", "longest", "boundary"] (spSegs C) := ok_segs F16 T GP D7 GE b4 P4
  have GW : GFn lw.prog w K mg base 4 f2 _ ["self"] (spWords C) := ok_words F2 T GE b4 P4
  obtain ⟨_, y1⟩ := segs_lb F16
  obtain ⟨_, y3⟩ := segs_l F16
  exact law_run (fW := f2) (fdW := PySem.W.fnOf "law" "law" (defArgs sLaw) (defBody sLaw) (defScope sLaw) .none kV15 dc15 pm15 an15 cd15 ct15) l15 c15 (fun s v => .of_eq rfl) T B (PySem.W.mg_none_of X G z_repr) ⟨ok_bag F8 B, D8⟩ ⟨ok_take F9, D9⟩ ⟨ok_lruns F10 B F9 D9, D10⟩ ⟨ok_lwords F11 T B GW b2 ⟨a2, i2, k2⟩, D11⟩ ⟨ok_cut F12 B, D12⟩
    GS (PySem.W.mg_of X G a16) k16 y1 y3 MI GI b1 (ok_eq F3 T Z) a3 i3 b3 (ok_repr F17 T) a17 i17 b17 hn e0 hS
theorem walk {l : PySem.W.OpenLaw} {q : Program} {loose : List Str} {XP : (Str → Option Value) → Heap → Prop} {YP : World → Heap → Prop} {d : DefRec} {K : Params → PySem.W.Frag} (hn : l.most = some 63) (hdf : d.params.defaults = [])
    (hY : ∀ (w : World) (h : Heap), YP w h → (K w.params).In h)
    (F : ∀ (w : World) (mg : Str → Option Value) (fa : Addr) (h : Heap), (K w.params).In h → h.Ns mainGlobals mg → mg d.name = some (.ref fa) → Tp.TopOk l.prog w (K w.params) mg fa 63) :
    PySem.W.WalkO q loose XP YP l.row.toRowW d [] (fun f vs => PySem.call f vs) := Tp.walk_top (n := 63) hn (by decide) hdf hY F
end Rf

open PySem PySem.W PyProof.Rows
set_option maxRecDepth 100000 in
set_option maxHeartbeats 0 in
theorem PySem.Challenge.cw_devicewindows_k04_segments_by_greed_holds : PySem.Challenge.rw_devicewindows_k04_segments_by_greed.Holds := by
  w_on; o_law; k_head; (case hw => w_witness2)
  k_fill
  refine Rf.walk (l := PySem.Challenge.rw_devicewindows_k04_segments_by_greed) rfl rfl (fun w h Y => PySem.W.kIn_of Y) ?F
  case F =>
    intro w mg fa h KX G hmg
    refine' Rf.all_mk KX G hmg ?aC ?a1 ?i1 ?a2 ?i2 ?a3 ?i3 ?a17 ?i17 ?p14 ?p24 ?p34 ?p44 ?q15 ?q25 ?q35 ?a6 ?a99 ?a7 ?a8 ?a9 ?a10 ?a11 ?a12 ?a15 ?a16 ?l1 ?c1 ?k1 ?l2 ?c2 ?k2 ?l3 ?c3 ?k3 ?l17 ?c17 ?k17 ?l4 ?c4 ?k4 ?l5 ?c5 ?k5 ?l6 ?l99 ?c6 ?c99 ?k6 ?k99 ?l7 ?c7 ?k7 ?l8 ?c8 ?k8 ?l9 ?c9 ?k9 ?l10 ?c10 ?k10 ?l11 ?c11 ?k11 ?l12 ?c12 ?k12 ?l15 ?c15 ?k15 ?l16 ?c16 ?k16 ?d16_0 ?pg ?hd ?po ?sa ?mk ?kc ?nF ?nM ?r1 ?r2 ?mo ?e1 ?e2 ?e3 ?e4 ?z_len ?z_abs ?z_range ?z_min ?z_max ?z_list ?z_all ?z_isinstance ?z_int ?z_bool ?z_repr
    (case aC => k_is)
    (case a1 => k_is)
    (case i1 => k_is)
    (case a2 => k_is)
    (case i2 => k_is)
    (case a3 => k_is)
    (case i3 => k_is)
    (case a17 => k_is)
    (case i17 => k_is)
    (case p14 => k_is)
    (case p24 => k_is)
    (case p34 => k_is)
    (case p44 => k_is)
    (case q15 => k_is)
    (case q25 => k_is)
    (case q35 => k_is)
    (case a6 => k_is)
    (case a99 => k_is)
    (case a7 => k_is)
    (case a8 => k_is)
    (case a9 => k_is)
    (case a10 => k_is)
    (case a11 => k_is)
    (case a12 => k_is)
    (case a15 => k_is)
    (case a16 => k_is)
    (case l1 => k_is)
    (case c1 => k_is)
    (case k1 => k_is)
    (case l2 => k_is)
    (case c2 => k_is)
    (case k2 => k_is)
    (case l3 => k_is)
    (case c3 => k_is)
    (case k3 => k_is)
    (case l17 => k_is)
    (case c17 => k_is)
    (case k17 => k_is)
    (case l4 => k_is)
    (case c4 => k_is)
    (case k4 => k_is)
    (case l5 => k_is)
    (case c5 => k_is)
    (case k5 => k_is)
    (case l6 => k_is)
    (case l99 => k_is)
    (case c6 => k_is)
    (case c99 => k_is)
    (case k6 => k_is)
    (case k99 => k_is)
    (case l7 => k_is)
    (case c7 => k_is)
    (case k7 => k_is)
    (case l8 => k_is)
    (case c8 => k_is)
    (case k8 => k_is)
    (case l9 => k_is)
    (case c9 => k_is)
    (case k9 => k_is)
    (case l10 => k_is)
    (case c10 => k_is)
    (case k10 => k_is)
    (case l11 => k_is)
    (case c11 => k_is)
    (case k11 => k_is)
    (case l12 => k_is)
    (case c12 => k_is)
    (case k12 => k_is)
    (case l15 => k_is)
    (case c15 => k_is)
    (case k15 => k_is)
    (case l16 => k_is)
    (case c16 => k_is)
    (case k16 => k_is)
    (case d16_0 => k_is)
    (case pg => k_is)
    (case hd => k_is)
    (case po => k_is)
    (case sa => k_is)
    (case mk => k_is)
    (case kc => k_is)
    (case nF => k_is)
    (case nM => k_is)
    (case r1 => k_is)
    (case r2 => k_is)
    (case mo => k_is)
    (case e1 => k_is)
    (case e2 => k_is)
    (case e3 => k_is)
    (case e4 => k_is)
    (case z_len => k_is)
    (case z_abs => k_is)
    (case z_range => k_is)
    (case z_min => k_is)
    (case z_max => k_is)
    (case z_list => k_is)
    (case z_all => k_is)
    (case z_isinstance => k_is)
    (case z_int => k_is)
    (case z_bool => k_is)
    (case z_repr => k_is)
