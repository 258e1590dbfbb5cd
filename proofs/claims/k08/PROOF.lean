import PyProof.Rows.All
import Wide.All
import OpenK.AllK
import Wide.FinOn
import HandS.ForMost
import HandS.Wide
import HandS.ClsMeth
import HandS.Property
import HandS.ListItems
import HandS.SortOrd
import HandS.SortRule
import HandS.More
import HandS.Conv
import PySem.Challenge.RW_devicewindows_k08_whole_timing_of_lines
set_option Elab.async false
set_option linter.all false
set_option maxRecDepth 100000
set_option maxHeartbeats 4000000
/-! Two rules of one's own: storing to a slice of a list; sorting the items of a dict with int keys and bool values. -/
namespace Ln
open PySem PySem.Spec PyProof.Rows L2
/-! ### xs[a:c] = ys -/
/-- the target's reading: the list at l, its bounds, the other list at b -/
def gSlice (to tl th : TE) : TG := fun v σ H Q => to σ H fun x H1 => tl σ H1 fun y H2 => th σ H2 fun z H3 =>
  ∃ (l b : Addr) (xs ys : List V) (a c : Int), x = .ref l ∧ v = .ref b ∧ y = .int a ∧ z = .int c ∧ H3 l = some (.lst xs) ∧ H3 b = some (.lst ys) ∧ l ≠ b ∧ 0 ≤ a ∧ a ≤ c ∧ c ≤ xs.length ∧ xs.length + ys.length ≤ sizeLine ∧
    Q σ (upd H3 l (.lst (xs.take a.toNat ++ ys ++ xs.drop c.toNat)))
section
variable {X : Cx} {pos : Pos}
theorem pg_slice {o lo hi : Expr} {p2 : Pos} {to tl th : TE} (ho : PE X o to) (hl : PE X lo tl) (hh : PE X hi th)
    (ha : ∀ v, assign (.Subscript o (.Slice (some lo) (some hi) none p2) pos) X.env v = (do
      let ov ← holding [v] (eval o X.env)
      let iv ← holding [v, ov] (eval (.Slice (some lo) (some hi) none p2) X.env)
      standAt pos
      holding [v, ov, iv] (setItem ov iv v)
      release [iv, v, ov] []) := by intro _; rfl) : PG X (.Subscript o (.Slice (some lo) (some hi) none p2) pos) (gSlice to tl th) := by
  refine ⟨fun pins s σ H v u Q I r h => ?_⟩
  rw [ha]
  refine wpAny_bind (wpAny_holding (thn (ho.run pins s σ H _ I h) fun ov s1 ⟨x, H1, I1, r1, q1⟩ => ?_))
  refine wpAny_bind (wpAny_holding (wpAny_Slice ?_))
  rw [evalPart_some, evalPart_some]
  refine thn (hl.run pins s1 σ H1 _ I1 q1) fun vl s2 ⟨y, H2, I2, r2, q2⟩ => ?_
  refine thn (hh.run pins s2 σ H2 _ I2 q2) fun vu s3 ⟨z, H3, I3, r3, q3⟩ => ?_
  rw [evalPart_none]
  refine wpAny_pure ?_
  obtain ⟨l, b, xs, ys, a, c, rfl, rfl, rfl, rfl, e1, e2, ne, h0, hac, hc, hz, q⟩ := q3
  obtain rfl : ov = Value.ref l := r1
  obtain rfl : u = Value.ref b := r
  have I4 : Inv X pins σ H3 { s3 with heap := s3.heap.push { cls := .type "slice", data := .fields #[vl, vu, .none] } } := I3.kept (t' := s3.toks) fun b ob q => Heap.get?_push_of_some _ q
  refine wpAny_bind (wpAny_standAt (wpAny_bind (wpAny_holding (set_slice I4 e1 e2 ne (Heap.IsSliceOf.new ..) r2 r3 h0 hac hc hz fun s' I' => ?_))))
  exact wpAny_release ⟨σ, _, I', q⟩
end
/-! ### sorted(d.items()): int keys, bool values -/
abbrev ltK (k : Value → Int) (v u : Value) : Bool := decide (k v < k u)
theorem swo_K (k : Value → Int) : SrtO.Swo (ltK k) := by
  refine ⟨fun x y h => ?_, fun x y z h1 h2 => ?_⟩
  · have a : k x < k y := of_decide_eq_true h
    exact decide_eq_false (by omega)
  · have a : ¬ k y < k x := of_decide_eq_false h1
    have b : ¬ k z < k y := of_decide_eq_false h2
    exact decide_eq_false (by omega)
end Ln
namespace Ln
open PySem PySem.Spec PyProof.Rows L2
/-- a view of the items of the dict at d -/
def ViewO (v d : Addr) : HO := .ext fun h => h.get? v = some { cls := .type "dict_items", data := .fields #[.ref d] }
def rItems : V → List V → Hp → VK → Prop := fun x xs H Q => ∃ (d : Addr) (kvs : List (Key × V)), x = .ref d ∧ xs = [] ∧ H d = some (.dK kvs) ∧ ∀ v, H v = none → Q (.ref v) (upd H v (ViewO v d))
section
variable {X : Cx}
theorem mt_items : MtR X "dict.items" rItems := by
  intro pins s σ H x vs v us Q I rx rv h
  obtain ⟨d, kvs, rfl, rfl, hd, q⟩ := h
  cases rx
  have hus := rv.zero
  subst hus
  obtain ⟨hz, hs0, vs, kv, hdo⟩ := I.hok d _ hd
  refine call_meetsIn F.slot_dict_items hdo.typeIs F.entry_dict_items (F.args_dict_items_1 _) (meets_dict_items (mixKind X.prog X.w) d hs0) ⟨⟨vs, hdo⟩, ?_⟩
  refine ⟨.ref s.heap.objs.size, _, I.laid (a := s.heap.objs.size) (t' := s.toks) (fun b ob q => Heap.get?_push_of_some _ q) (Nat.le_refl _) ?_, rfl, q _ (I.hok.fresh (Nat.le_refl _))⟩
  exact ⟨Heap.get?_push_size _ rfl, ⟨_, Heap.get?_push_size _ rfl⟩, fun h1 h2 e k => k _ e⟩
end
/-! pairs of an int and a bool -/
def IsPB (h : Heap) (v : Value) (x : Int) (b : Bool) : Prop := ∃ a o t n, v = .ref a ∧ h.get? a = some o ∧ o.cls = .type "tuple" ∧ o.data = .seq #[.int x t, .bool b] n
theorem IsPB.keeps {h h' : Heap} {v : Value} {x : Int} {b : Bool} (p : IsPB h v x b) (k : ∀ b o, h.get? b = some o → o.cls = .type "tuple" → h'.get? b = some o) : IsPB h' v x b := by
  obtain ⟨a, o, t, n, e, ho, hc, hd⟩ := p
  exact ⟨a, o, t, n, e, k _ _ ho hc, hc, hd⟩
theorem firsts_pb {h : Heap} : ∀ {vs : List Value}, (∀ v ∈ vs, ∃ x y, IsPB h v x y) → ∃ fs : List Value, PySem.W.KatTups h vs fs ∧ fs.length = vs.length ∧ ∀ f ∈ fs, ∃ x t, f = Value.int x t
  | [], _ => ⟨[], PySem.W.KatTups.nil, rfl, fun _ hm => by simp at hm⟩
  | v :: vs, hp => by
    obtain ⟨fs, h1, h2, h3⟩ := firsts_pb (vs := vs) fun v' hm => hp v' (List.mem_cons_of_mem _ hm)
    obtain ⟨x, y, a, o, t, n, e, ho, hc, hd⟩ := hp v (List.mem_cons_self ..)
    subst e
    refine ⟨.int x t :: fs, PySem.W.KatTups.cons ho hc hd rfl h1, by rw [List.length_cons, List.length_cons, h2], fun f hm => ?_⟩
    rcases List.mem_cons.mp hm with rfl | hm
    · exact ⟨x, t, rfl⟩
    · exact h3 f hm
section
variable {prog : Program} {w : World} {A : Around} {s : Shared}
open SrtO in
theorem pb_cmp {vs : List Value} {k : Value → Int} {g : Value → Bool} (hp : ∀ v ∈ vs, IsPB s.heap v (k v) (g v)) (hu : ∀ v ∈ vs, ∀ u ∈ vs, k v = k u → g v = g u) : Cmp prog w A s (tuples' true) (fun p => p.1 ∈ vs) (lt2 (ltK k)) := by
  intro p q hm hm'
  have h1 := hp _ hm
  have h2 := hp _ hm'
  have hg := hu _ hm _ hm'
  show wpAny (model prog w) A (keyLt' (tuples' true) p.1 q.1) (fun r s' => s' = s ∧ r = decide (k p.1 < k q.1)) (fun _ _ => False) s
  generalize k p.1 = x at h1 hg ⊢
  generalize g p.1 = y at h1 hg ⊢
  generalize k q.1 = x' at h2 hg ⊢
  generalize g q.1 = y' at h2 hg ⊢
  obtain ⟨a, o, t, n, e, ho, hc, hd⟩ := h1
  obtain ⟨a', o', t', n', e', ho', hc', hd'⟩ := h2
  rw [e, e']
  refine PySem.W.kat_lt ho hd ho' hd' ?_
  show PySem.W.KatLex prog w A true (decide (2 < 2)) _ [(.int x t, .int x' t'), (.bool y, .bool y')] 0 s
  refine PySem.W.kat_cons (SeqAt.EqAt.int_int x t x' t' prog w _ _ ?_)
  refine PySem.W.kat_go (fun e1 => ?_) (fun e1 => ?_)
  · have ex : x = x' := by simpa using e1
    have ey : y = y' := hg ex
    refine PySem.W.kat_yes (PySem.W.kat_cons (SeqAt.EqAt.bool_bool y y' prog w _ _ ?_))
    refine PySem.W.kat_go (fun e2 => ?_) (fun e2 => ?_)
    · have e3 : decide (x < x') = false := decide_eq_false (by omega)
      exact PySem.W.kat_yes (PySem.W.kat_nil ⟨rfl, e3.symm⟩)
    · rw [ey] at e2
      simp at e2
  · exact PySem.W.kat_no (oneLt_int ⟨rfl, rfl⟩)
open SrtO in
theorem pb_sortable {a : Addr} {vs : List Value} {k : Value → Int} {g : Value → Bool} (h0 : 0 < vs.length) (hp : ∀ v ∈ vs, IsPB s.heap v (k v) (g v)) (hu : ∀ v ∈ vs, ∀ u ∈ vs, k v = k u → g v = g u)
    (ha : ∀ o, s.heap.get? a = some o → o.cls ≠ .type "tuple") : SortableO prog w A s a vs (ltK k) := by
  intro h' keep
  have hp' : ∀ v ∈ vs, IsPB h' v (k v) (g v) := fun v hm => (hp v hm).keeps fun b o e c => keep b o (fun z => by subst z; exact ha o e c) e
  obtain ⟨fs, h1, h2, h3⟩ := firsts_pb fun v hm => ⟨_, _, hp' v hm⟩
  refine ⟨tuples' true, fun Q E hq => ?_, pb_cmp hp' hu⟩
  refine PySem.W.kat_kind (T := .type "int") h1 (by omega) (fun f hm => ?_) (by rfl) ?_
  · obtain ⟨x, t, rfl⟩ := h3 f hm
    exact PySem.W.Looks.now
  · have e : (Value.type "int" != Value.type "tuple") = true := by first | decide +kernel | rfl | decide
    rw [e]
    exact hq
end
/-! the list of the pairs, laid with the tuples -/
section
variable {X : Cx}
theorem pairs_laid {pins : List (Addr × Obj)} {σ : L2.St} {H : Hp} {s : Shared} {h' : Heap} {tk : Nat} {kvs : List (Key × V)} {vs : List (Key × Value)} {as : List Addr} {L : Addr} {ys : List V} {out : List Value} {c : Nat} (I : Inv X pins σ H s) (kv : KV kvs vs)
    (hk : ∀ b o, s.heap.get? b = some o → h'.get? b = some o) (newS : H L = none) (hLb : ∀ b o, s.heap.get? b = some o → b ≠ L) (hLa : L ∉ as) (hS : h'.get? L = some { cls := .type "list", dict := none, data := .seq out.toArray c, slots := #[] }) (hy : Vals ys out) (hyz : ys.length ≤ sizeLine)
    (hl : as.length = vs.length) (hG : PySem.W.KdxG (mixKind X.prog X.w) vs s.heap.objs.size h' as) :
    ∃ H' : Hp, (∀ b o, H b = some o → H' b = some o) ∧ H L = none ∧ (∀ t ∈ as, H t = none) ∧ H' L = some (.lst ys) ∧ Paired (fun (t : Addr) (q : Key × V) => H' t = some (.tup [kV q.1, q.2])) as kvs ∧ Inv X pins σ H' { s with heap := h', toks := tk } := by
  have lk : kvs.length = vs.length := Paired.length kv
  have nd : as.Nodup := List.Pairwise.imp (fun {a b} (h : a < b) => Nat.ne_of_lt h) hG.rise
  have new : ∀ t ∈ as, H t = none := fun t ht => I.hok.fresh (Nat.le_of_lt (hG.above t ht))
  have atP := LiI.putT_at as kvs (upd H L (.lst ys)) (by omega) nd
  have off : ∀ b, b ∉ as → b ≠ L → LiI.putT (upd H L (.lst ys)) as kvs b = H b := fun b h1 h2 => by rw [LiI.putT_off as kvs _ h1, upd_ne h2]
  have low : ∀ b o, s.heap.get? b = some o → b ∉ as ∧ b ≠ L := fun b o e => ⟨fun z => absurd (Heap.lt_size e) (Nat.not_lt.mpr (Nat.le_of_lt (hG.above b z))), hLb b o e⟩
  have kp : ∀ b u, H b = some u → (LiI.putT (upd H L (.lst ys)) as kvs) b = some u := fun b u e => by
    rw [off b (fun z => by rw [new b z] at e; cases e) (fun z => by rw [z, newS] at e; cases e)]
    exact e
  have eS : LiI.putT (upd H L (.lst ys)) as kvs L = some (.lst ys) := by rw [LiI.putT_off as kvs _ hLa, upd_same]
  refine ⟨LiI.putT (upd H L (.lst ys)) as kvs, kp, newS, new, eS, atP, ?_⟩
  refine I.call' (ch := []) rfl ⟨fun b o q _ _ _ => hk b o q, fun b o q _ _ _ => ⟨o.slots, hk b o q⟩, fun b o q n _ => ?_, fun b o q _ => ⟨o, hk b o q⟩, fun b xs q => kp b _ q, fun b o u q => kp b _ q, fun b ps q => ⟨#[], by rw [kp b _ q]; simp⟩⟩ (fun b u q => ?_) I.bare fun b z => by simp at z
  · obtain ⟨z1, z2⟩ := low b o q
    rw [off b z1 z2]
    exact n
  · by_cases hb : b ∈ as
    · obtain ⟨j, pk, e1, e2, e3⟩ := LiI.paired_ix atP hb
      rw [e3] at q
      cases q
      obtain ⟨key, k, x, f1, f2, f3⟩ := hG.pairs j b e1
      obtain ⟨qv, g1, g2, g3⟩ := LiI.paired_get kv e2
      rw [f1] at g1
      cases g1
      have rk : RelV (kV pk.1) key := by
        rw [g2]
        exact relV_key (show keyIs k key = true from f2)
      exact ⟨by show 2 ≤ sizeLine; decide, [key, x], .cons rk (.cons g3 .nil), ⟨_, f3, rfl, _, rfl⟩⟩
    · by_cases hb2 : b = L
      · rw [hb2] at q ⊢
        rw [eS] at q
        cases q
        exact ⟨hyz, out, c, hy, hS⟩
      · rw [off b hb hb2] at q
        exact (I.hok b u q).stay (fun d v _ y => hk d v y) (fun d y => kp d _ y) fun d xs y => kp d _ y
end
/-- the int and the bool of a pair, read off the heap -/
def kOf (h : Heap) : Value → Int
  | .ref a => match h.get? a with
    | some o => match o.data with
      | .seq its _ => match (its[0]? : Option Value) with
        | some (Value.int x _) => x
        | _ => 0
      | _ => 0
    | none => 0
  | _ => 0
def gOf (h : Heap) : Value → Bool
  | .ref a => match h.get? a with
    | some o => match o.data with
      | .seq its _ => match (its[1]? : Option Value) with
        | some (Value.bool x) => x
        | _ => false
      | _ => false
    | none => false
  | _ => false
theorem pb_reads {h : Heap} {v : Value} {x : Int} {b : Bool} (p : IsPB h v x b) : kOf h v = x ∧ gOf h v = b := by
  obtain ⟨a, o, t, n, rfl, ho, hc, hd⟩ := p
  unfold kOf gOf
  simp only [ho, hd]
  exact ⟨rfl, rfl⟩

def kvB (ks : List (Int × Bool)) : List (Key × V) := ks.map fun p => (Sum.inl p.1, V.bl p.2)
def rSortedI : List V → Hp → VK → Prop := fun vs H Q => ∃ (v d : Addr) (ks : List (Int × Bool)), vs = [V.ref v] ∧ H v = some (ViewO v d) ∧ H d = some (.dK (kvB ks)) ∧ (ks.map (·.1)).Nodup ∧
  ∀ (H' : Hp) (p : Addr) (ts : List Addr) (ks' : List (Int × Bool)), (∀ b o, H b = some o → H' b = some o) → H p = none → (∀ t ∈ ts, H t = none) → H' p = some (.lst (ts.map V.ref)) → ks'.Perm ks → ks'.Pairwise (fun a b => a.1 < b.1) →
    Paired (fun (t : Addr) (q : Int × Bool) => H' t = some (.tup [.int q.1, .bl q.2])) ts ks' → Q (.ref p) H'
theorem paired_map {α β γ : Type} {F : α → β → Prop} (f : γ → α) (g : γ → β) : ∀ {l : List γ}, (∀ x ∈ l, F (f x) (g x)) → Paired F (l.map f) (l.map g)
  | [], _ => .nil
  | x :: l, h => .cons (h x List.mem_cons_self) (paired_map f g fun y hy => h y (List.mem_cons_of_mem _ hy))
def unRef : Value → Addr
  | .ref a => a
  | _ => 0
section
variable {X : Cx}
theorem cr_sortedItems (hcalm : X.calm = true) : CallR X (.builtin "sorted") rSortedI := by
  intro pins s σ H xs us Q I r q
  obtain ⟨v, d, ks, rfl, hv, hd, hnd, q⟩ := q
  obtain ⟨u, rfl, ru⟩ := vals1 r
  obtain rfl : u = Value.ref v := ru
  have hview := (I.hok v _ hv).1
  obtain ⟨hz, hs0, vs, kv, hdo⟩ := I.hok d _ hd
  obtain ⟨ep, hat⟩ := hdo.dictAt
  have lk : (kvB ks).length = vs.length := Paired.length kv
  have lks : (kvB ks).length = ks.length := by unfold kvB; rw [List.length_map]
  refine Calls.call_function_entry PyProof.Rows.kind_sorted PyProof.Rows.plain_sorted PyProof.Rows.entry_sorted (PyProof.Rows.args_sorted1 _) ?_
  unfold Builtin.«sorted»
  refine wpAny_bind (m := checkCount "sorted" 1 1 _) (wpAny_pure ?_)
  refine wpAny_bind (PySem.W.kdx_collect (A := X.A.in1) (knd := mixKind X.prog X.w) (kvs := vs) (ep := ep) (I.ok.hd hcalm) ⟨_, hview, rfl, rfl⟩ hat (by omega) fun h' tk as hk hl hG => ?_)
  have hlen : (as.map Value.ref).length ≤ sizeLine := by rw [List.length_map]; omega
  refine wpAny_bind (wpAny_newList ?_ hlen)
  -- the pairs
  have hp : ∀ (j : Nat) (a : Addr), as[j]? = some a → ∃ p, ks[j]? = some p ∧ IsPB h' (.ref a) p.1 p.2 := fun j a hj => by
    obtain ⟨key, kk, x, e1, e2, e3⟩ := hG.pairs j a hj
    have hjl : j < as.length := (List.getElem?_eq_some_iff.mp hj).1
    have hjk : j < ks.length := by omega
    have e4 : (kvB ks)[j]? = some (Sum.inl (ks[j]).1, V.bl (ks[j]).2) := by
      unfold kvB
      rw [List.getElem?_map, List.getElem?_eq_getElem hjk] <;> rfl
    obtain ⟨qv, g1, g2, g3⟩ := LiI.paired_get kv e4
    rw [e1] at g1
    cases g1
    have rk : RelV (kV (Sum.inl (ks[j]).1)) key := by
      have z : kk = Sum.inl (ks[j]).1 := g2.symm
      rw [← z]
      exact relV_key (show keyIs kk key = true from e2)
    obtain ⟨t, rfl⟩ := rk
    obtain rfl : x = Value.bool (ks[j]).2 := g3
    exact ⟨ks[j], List.getElem?_eq_getElem hjk, a, _, t, _, rfl, e3, rfl, rfl⟩
  have hIs : ∀ v ∈ as.map Value.ref, IsPB h' v (kOf h' v) (gOf h' v) := fun v hm => by
    obtain ⟨a, ha, rfl⟩ := List.mem_map.mp hm
    obtain ⟨j, hj⟩ := List.mem_iff_getElem?.mp ha
    obtain ⟨p, _, hpb⟩ := hp j a hj
    obtain ⟨e1, e2⟩ := pb_reads hpb
    rw [e1, e2]
    exact hpb
  have hmap : (as.map Value.ref).map (fun v => (kOf h' v, gOf h' v)) = ks := by
    apply List.ext_getElem?
    intro j
    rw [List.map_map, List.getElem?_map]
    cases e : as[j]? with
    | none =>
      have : as.length ≤ j := List.getElem?_eq_none_iff.mp e
      rw [List.getElem?_eq_none (by omega)]
      rfl
    | some a =>
      obtain ⟨p, e1, hpb⟩ := hp j a e
      obtain ⟨e2, e3⟩ := pb_reads hpb
      rw [e1]
      show some (kOf h' (.ref a), gOf h' (.ref a)) = some p
      rw [e2, e3]
  have hu : ∀ v ∈ as.map Value.ref, ∀ u ∈ as.map Value.ref, kOf h' v = kOf h' u → gOf h' v = gOf h' u := fun v hm u hn e => by
    obtain ⟨i, hi⟩ := List.mem_iff_getElem?.mp hm
    obtain ⟨j, hj⟩ := List.mem_iff_getElem?.mp hn
    have e1 : ks[i]? = some (kOf h' v, gOf h' v) := by rw [← hmap, List.getElem?_map, hi]; rfl
    have e2 : ks[j]? = some (kOf h' u, gOf h' u) := by rw [← hmap, List.getElem?_map, hj]; rfl
    have f1 : (ks.map (·.1))[i]? = some (kOf h' v) := by rw [List.getElem?_map, e1]; rfl
    have f2 : (ks.map (·.1))[j]? = some (kOf h' v) := by rw [List.getElem?_map, e2, e]; rfl
    have ij : i = j := nd_ix hnd f1 f2
    subst ij
    rw [e1] at e2
    exact (Prod.mk.inj (Option.some.inj e2)).2
  have I1 : Inv X pins σ H { s with heap := h', toks := tk } := I.kept hk
  have hoL : (h'.push (seqObj "list" (as.map Value.ref).toArray 0)).get? h'.objs.size = some (seqObj "list" (as.map Value.ref).toArray 0) := Heap.get?_push_size _ rfl
  show wpAny _ _ _ _ _ { s with heap := h'.push (seqObj "list" (as.map Value.ref).toArray 0), toks := tk }
  refine wpAny_bind (wpAny_holding (wpAny_call_entry PyProof.Rows.slot_list_sort ⟨_, hoL, rfl⟩ PyProof.Rows.entry_list_sort
    (SrtO.list_sort_ord (swo_K (kOf h')) hoL hlen (fun h2 => ?_) fun out hs hb => ⟨_, rfl, ?_⟩) (PyProof.Rows.args_list_sort _)))
  · refine pb_sortable (g := gOf h') (by omega) (fun v hm => (hIs v hm).keeps fun b o e _ => Heap.get?_push_of_some _ e) hu fun o e => ?_
    rw [hoL] at e
    cases e
    intro c
    exact absurd (Value.type.inj c) (by decide)
  · have hout : ∀ x ∈ out, ∃ a ∈ as, x = Value.ref a := fun x hx => by
      obtain ⟨a, ha, e⟩ := List.mem_map.mp (hb.perm.mem_iff.mp hx)
      exact ⟨a, ha, e.symm⟩
    have eout : out = (out.map unRef).map Value.ref := by
      rw [List.map_map]
      conv => lhs; rw [← List.map_id out]
      refine List.map_congr_left fun x hx => ?_
      obtain ⟨a, _, rfl⟩ := hout x hx
      rfl
    obtain ⟨e', he'⟩ := PyProof.Rows.sortedHeap_at (vs := as.map Value.ref) (out := out.toArray) hoL
    have hkk : ∀ b o, h'.get? b = some o → (sortedHeap (h'.push (seqObj "list" (as.map Value.ref).toArray 0)) h'.objs.size (as.map Value.ref) out.toArray).get? b = some o := fun b u e => by
      have hb : b < h'.objs.size := Heap.lt_size e
      rw [PyProof.Rows.sortedHeap_old (Nat.ne_of_lt hb) (by rw [size_push']; exact Nat.lt_succ_of_lt hb)]
      exact Heap.get?_push_of_some _ e
    have hLa : h'.objs.size ∉ as := fun z => Nat.lt_irrefl _ (hG.there z)
    have hG3 : PySem.W.KdxG (mixKind X.prog X.w) vs s.heap.objs.size (sortedHeap (h'.push (seqObj "list" (as.map Value.ref).toArray 0)) h'.objs.size (as.map Value.ref) out.toArray) as := ⟨hG.rise, hG.above, fun j a hj => by
      obtain ⟨key, kk, x, e1, e2, e3⟩ := hG.pairs j a hj
      exact ⟨key, kk, x, e1, e2, hkk _ _ e3⟩⟩
    have hyv : Vals ((out.map unRef).map V.ref) out := by
      have z : Vals ((out.map unRef).map V.ref) ((out.map unRef).map Value.ref) := LiI.vals_refs _
      rw [← eout] at z
      exact z
    have hyz : ((out.map unRef).map V.ref).length ≤ sizeLine := by
      rw [List.length_map, List.length_map, hb.perm.length_eq]
      exact hlen
    obtain ⟨H', k1, k2, k3, k4, k5, J⟩ := pairs_laid (tk := tk) I kv (fun b o e => hkk b o (hk b o e)) (I1.hok.fresh (Nat.le_refl _)) (fun b o e => Nat.ne_of_lt (Heap.lt_size (hk b o e))) hLa he' hyv hyz hl hG3
    have kper : (out.map fun v => (kOf h' v, gOf h' v)).Perm ks := by
      have z := hb.perm.map fun v => (kOf h' v, gOf h' v)
      rw [hmap] at z
      exact z
    refine wpAny_pure ⟨_, rfl, .ref h'.objs.size, H', J, rfl, q H' _ (out.map unRef) (out.map fun v => (kOf h' v, gOf h' v)) k1 k2 (fun t ht => ?_) k4 kper ?_ ?_⟩
    · obtain ⟨x, hx, rfl⟩ := List.mem_map.mp ht
      obtain ⟨a, ha, rfl⟩ := hout x hx
      exact k3 a ha
    · have nd2 : ((out.map fun v => (kOf h' v, gOf h' v)).map (·.1)).Nodup := (kper.map (·.1)).nodup_iff.mpr hnd
      have nd3 : out.Pairwise fun v u => kOf h' v ≠ kOf h' u := by
        rw [List.map_map] at nd2
        exact List.pairwise_map.mp nd2
      refine List.pairwise_map.mpr ?_
      have hs' : out.Pairwise fun x y => ltK (kOf h') y x = false := hs
      refine List.Pairwise.imp (fun {a b} (h : ltK (kOf h') b a = false ∧ kOf h' a ≠ kOf h' b) => ?_) (List.pairwise_and_iff.mpr ⟨hs', nd3⟩)
      have h1 : ¬ kOf h' b < kOf h' a := of_decide_eq_false h.1
      have h2 := h.2
      show kOf h' a < kOf h' b
      omega
    · refine paired_map unRef (fun v => (kOf h' v, gOf h' v)) fun x hx => ?_
      obtain ⟨a, ha, rfl⟩ := hout x hx
      obtain ⟨j, hj⟩ := List.mem_iff_getElem?.mp ha
      obtain ⟨qv, g1, g2⟩ := LiI.paired_get k5 hj
      obtain ⟨p, e1, hpb⟩ := hp j a hj
      obtain ⟨e2, e3⟩ := pb_reads hpb
      have g3 : (kvB ks)[j]? = some (Sum.inl p.1, V.bl p.2) := by
        unfold kvB
        rw [List.getElem?_map, e1] <;> rfl
      rw [g3] at g1
      cases g1
      show H' a = some (.tup [.int (kOf h' (.ref a)), .bl (gOf h' (.ref a))])
      rw [e2, e3]
      exact g2
end
end Ln
namespace Ln
open PySem L2
def top (i : Nat) : Stmt := PySem.Challenge.pw_devicewindows_k08_whole_timing_of_lines.main.body.getD i (.Pass ⟨0, 0, 0, 0⟩)
abbrev sBag : Stmt := top 13
abbrev sTake : Stmt := top 14
/-! ### drawn numbers -/
/-- all but b stands as before -/
def Off (b : Addr) (H H' : Hp) : Prop := ∀ c, c ≠ b → H' c = H c
/-- the bag's three numbers; at most N mixed numbers were taken so far -/
def BagAt (H : Hp) (b : Addr) (N : Nat) : Prop := ∃ l x c : Int, H b = some (.lst [.int l, .int x, .int c]) ∧ 0 ≤ l ∧ 0 ≤ x ∧ x < 6 * 10 ^ 18 ∧ 0 ≤ c ∧ c ≤ N
def spTake : Sp := fun vs H Q _ => ∃ (b : Addr) (m : Int) (N : Nat), vs = [.ref b, .int m] ∧ 1 ≤ m ∧ m < 1073741824 ∧ BagAt H b N ∧ N < 1000000 ∧
  ∀ (r : Int) (H' : Hp), 0 ≤ r → r < m → BagAt H' b (N + 1) → Off b H H' → Q (.int r) H'
theorem fmod_in {a m : Int} (h : 1 ≤ m) : 0 ≤ a.fmod m ∧ a.fmod m < m := by
  rw [Int.fmod_eq_emod_of_nonneg a (by omega)]
  exact ⟨Int.emod_nonneg _ (by omega), Int.emod_lt_of_pos _ (by omega)⟩
theorem fdiv_in {a m : Int} (h : 1 ≤ m) (ha : 0 ≤ a) : 0 ≤ a.fdiv m := by
  rw [Int.fdiv_eq_ediv_of_nonneg a (by omega)]
  exact Int.ediv_nonneg ha (by omega)
section
variable {P : Program} {w : World} {K : PySem.W.Frag} {mg : Str → Option Value} {base : Heap}
theorem scTake : FnScope ["_law_bag_here", "_law_many", "_law_digit", "_law_mixed"] ["_law_bag_here", "_law_many"] (defScope sTake) := ⟨rfl, rfl, rfl, by decide +kernel, rfl, by decide +kernel, by decide +kernel⟩
theorem sq_bd {c : Int} (h0 : 0 ≤ c) (h : c ≤ 1000001) : 0 ≤ 8081 * c * c ∧ 8081 * c * c ≤ 8081 * 1000001 * 1000001 := by
  have h1 : 0 ≤ 8081 * c := by omega
  refine ⟨Int.mul_nonneg h1 h0, ?_⟩
  exact Int.mul_le_mul (by omega) h h0 (by decide)
theorem ok_take {f : Addr} {fd : FuncData} (F : Fun K "_law_take" "_law_take" sTake f fd) : FnOk P w K mg base CX0 1 f fd ["_law_bag_here", "_law_many"] spTake := by
  refine F.ok scTake (fun vs H Q E h => ?_) (fun cdv A outer s H vs Q E hr h => ?_)
  · obtain ⟨b, m, N, rfl, _⟩ := h
    rfl
  · obtain ⟨b, m, N, rfl, m1, m2, ⟨l, x, c, hb, l0, x0, x1, c0, cN⟩, hN, k⟩ := h
    refine ⟨_, pss_cons (ps_if (pt_cmpR op_gt (pe_ix ix_list (pv 0) pe_int (fun _ _ => rfl)) pe_int (nomark _))
        (pss_cons (ps_set (i := 2) scTake.nd rfl (Or.inl rfl) (pe_op op_modN (pe_ix ix_list (pv 0) pe_int (fun _ _ => rfl)) (pv 1)))
        (pss_cons (ps_asg (pe_op op_fdivN (pe_ix ix_list (pv 0) pe_int (fun _ _ => rfl)) (pv 1)) (pg_sub (pv 0) pe_int set_list))
        (pss_one (ps_ret (pv 2))))) pss_nil)
      (pss_cons (ps_asg (pe_op op_add (pe_ix ix_list (pv 0) pe_int (fun _ _ => rfl)) pe_int) (pg_sub (pv 0) pe_int set_list))
      (pss_cons (ps_set (i := 3) scTake.nd rfl (Or.inl rfl) (pe_op op_mod (pe_op op_pow (pe_op op_add (pe_ix ix_list (pv 0) pe_int (fun _ _ => rfl))
          (pe_op op_mul (pe_op op_mul pe_int (pe_ix ix_list (pv 0) pe_int (fun _ _ => rfl))) (pe_ix ix_list (pv 0) pe_int (fun _ _ => rfl)))) pe_int) pe_int))
      (pss_one (ps_ret (pe_op op_modN (pe_op op_fdiv (pe_op op_mod (pe_op op_mul (pv 3) (pe_op op_add (pe_op op_fdiv (pv 3) pe_int) (pe_op op_mul pe_int (pe_ix ix_list (pv 0) pe_int (fun _ _ => rfl))))) pe_int) pe_int) (pv 1)))))), ?_⟩
    refine ⟨_, rfl, b, _, _, _, rfl, rfl, SqL.of hb, rfl, _, _, rfl, rfl, _, rfl, ?_⟩
    refine ite2 (fun hl => ?_) (fun hl => ?_)
    · have hl' : 0 < l := of_decide_eq_true hl
      refine ⟨_, rfl, b, _, _, _, rfl, rfl, SqL.of hb, rfl, _, rfl, _, _, rfl, rfl, by omega, ?_⟩
      refine ⟨_, rfl, b, _, _, _, rfl, rfl, SqL.of hb, rfl, _, rfl, _, _, rfl, rfl, ⟨by omega, by omega⟩, _, rfl, b, _, _, 0, rfl, rfl, hb, rfl, ?_⟩
      refine ⟨_, rfl, k _ _ (fmod_in m1).1 (fmod_in m1).2 ⟨_, x, c, upd_same, fdiv_in m1 l0, x0, x1, c0, by omega⟩ fun d hd => upd_ne hd⟩
    · obtain ⟨q0, q1⟩ := sq_bd (c := c + 1) (by omega) (by omega)
      refine ⟨_, rfl, b, _, _, _, rfl, rfl, SqL.of hb, rfl, _, _, rfl, rfl, _, rfl, b, _, _, 2, rfl, rfl, hb, rfl, ?_⟩
      have hb2 : (upd H b (.lst [.int l, .int x, .int (c + 1)])) b = some (.lst [.int l, .int x, .int (c + 1)]) := upd_same
      refine ⟨_, rfl, b, _, _, _, rfl, rfl, SqL.of hb2, rfl, _, rfl, b, _, _, _, rfl, rfl, SqL.of hb2, rfl, _, _, rfl, rfl, .inl ⟨by decide, by decide⟩, _, rfl, b, _, _, _, rfl, rfl, SqL.of hb2, rfl, _, _, rfl, rfl, .inr ⟨by omega, by omega⟩, _, _, rfl, rfl, _, _, rfl, rfl, ⟨by decide, by decide, by omega⟩, _, _, rfl, rfl, (by show (0 : Int) < 2147483563; decide), ?_⟩
      generalize hy : ((x + 8081 * (c + 1) * (c + 1)) ^ ((3 : Int)).toNat) % 2147483563 = y
      have y0 : 0 ≤ y := by rw [← hy]; exact Int.emod_nonneg _ (by decide)
      have y1 : y < 2147483563 := by rw [← hy]; exact Int.emod_lt_of_pos _ (by decide)
      refine ⟨_, rfl, _, rfl, _, _, rfl, rfl, ⟨by decide, by decide⟩, _, rfl, b, _, _, _, rfl, rfl, SqL.of hb2, rfl, _, _, rfl, rfl, .inl ⟨by decide, by decide⟩, _, _, rfl, rfl, _, _, rfl, rfl, .inl ⟨by omega, by omega⟩, _, _, rfl, rfl, (by show (0 : Int) < 2147483549; decide), _, _, rfl, rfl, ⟨by decide, by decide⟩, _, rfl, _, _, rfl, rfl, by omega, ?_⟩
      exact k _ _ (fmod_in m1).1 (fmod_in m1).2 ⟨l, x, c + 1, hb2, l0, x0, x1, by omega, by omega⟩ fun d hd => upd_ne hd
end
end Ln
namespace Ln
open PySem L2
/-! ### the cache as a list of entries -/
structure Ent where
  ln : Int
  ad : Addr
  x : Int
  y : Int
  dt : Bool
def vK (es : List Ent) : List (Key × V) := es.map fun e => (Sum.inl e.ln, V.ref e.ad)
def dB (es : List Ent) : List (Key × V) := es.map fun e => (Sum.inl e.ln, V.bl e.dt)
def fnd (es : List Ent) (n : Int) : Option Ent := es.find? fun e => decide (e.ln = n)
def setE (es : List Ent) (n : Int) (f : Ent → Ent) : List Ent := es.map fun e => if e.ln = n then f e else e
def delE (es : List Ent) (n : Int) : List Ent := es.filter fun e => decide (e.ln ≠ n)
theorem val_map (g : Ent → V) (n : Int) : ∀ es : List Ent, valV (es.map fun e => ((Sum.inl e.ln : Key), g e)) (Sum.inl n) = (fnd es n).map g
  | [] => rfl
  | e :: es => by
    have ih := val_map g n es
    rw [List.map_cons]
    by_cases h : e.ln = n
    · rw [valV_pos (by rw [h])]
      unfold fnd
      rw [List.find?_cons_of_pos (by simp [h])]
      rfl
    · rw [valV_neg (fun z => h (Sum.inl.inj z)), ih]
      unfold fnd
      rw [List.find?_cons_of_neg (by simp [h])]
theorem val_v (es : List Ent) (n : Int) : valV (vK es) (Sum.inl n) = (fnd es n).map fun e => V.ref e.ad := val_map _ n es
theorem val_d (es : List Ent) (n : Int) : valV (dB es) (Sum.inl n) = (fnd es n).map fun e => V.bl e.dt := val_map _ n es
theorem fnd_mem {es : List Ent} {n : Int} {e : Ent} (h : fnd es n = some e) : e ∈ es ∧ e.ln = n := by
  unfold fnd at h
  exact ⟨List.mem_of_find?_eq_some h, by simpa using List.find?_some h⟩
theorem fnd_no {es : List Ent} {n : Int} (h : fnd es n = none) : ∀ e ∈ es, e.ln ≠ n := by
  unfold fnd at h
  intro e he
  simpa using List.find?_eq_none.mp h e he
theorem fnd_none {es : List Ent} {n : Int} (h : ∀ e ∈ es, e.ln ≠ n) : fnd es n = none := by
  unfold fnd
  exact List.find?_eq_none.mpr fun e he => by simpa using h e he
theorem put_d {es : List Ent} {n : Int} {e : Ent} (b : Bool) (h : fnd es n = some e) : putK (dB es) (Sum.inl n) (V.bl b) = dB (setE es n fun e => { e with dt := b }) := by
  unfold putK
  have hv : valV (dB es) (Sum.inl n) = some (V.bl e.dt) := by rw [val_d, h] <;> rfl
  rw [valV_any, hv, if_pos (show (some (V.bl e.dt)).isSome = true from rfl)]
  unfold dB setE
  rw [List.map_map, List.map_map]
  refine List.map_congr_left fun a _ => ?_
  show (if (Sum.inl a.ln : Key) = Sum.inl n then ((Sum.inl a.ln : Key), V.bl b) else (Sum.inl a.ln, V.bl a.dt)) = _
  by_cases q : a.ln = n
  · rw [if_pos (by rw [q])]
    show _ = ((Sum.inl (if a.ln = n then _ else _ : Ent).ln : Key), V.bl (if a.ln = n then _ else _ : Ent).dt)
    rw [if_pos q]
  · rw [if_neg (fun z => q (Sum.inl.inj z))]
    show _ = ((Sum.inl (if a.ln = n then _ else _ : Ent).ln : Key), V.bl (if a.ln = n then _ else _ : Ent).dt)
    rw [if_neg q]
theorem new_v {es : List Ent} {n : Int} (a : Addr) (x y : Int) (b : Bool) (h : fnd es n = none) : putK (vK es) (Sum.inl n) (V.ref a) = vK (es ++ [⟨n, a, x, y, b⟩]) := by
  rw [putK_new _ (by rw [val_v, h] <;> rfl)]
  unfold vK
  rw [List.map_append]
  rfl
theorem new_d {es : List Ent} {n : Int} (a : Addr) (x y : Int) (b : Bool) (h : fnd es n = none) : putK (dB es) (Sum.inl n) (V.bl b) = dB (es ++ [⟨n, a, x, y, b⟩]) := by
  rw [putK_new _ (by rw [val_d, h] <;> rfl)]
  unfold dB
  rw [List.map_append]
  rfl
theorem drop_map (g : Ent → V) (n : Int) : ∀ es : List Ent, dropK (es.map fun e => ((Sum.inl e.ln : Key), g e)) (Sum.inl n) = (delE es n).map fun e => ((Sum.inl e.ln : Key), g e)
  | [] => rfl
  | e :: es => by
    have ih := drop_map g n es
    rw [List.map_cons]
    unfold delE at ih ⊢
    by_cases h : e.ln = n
    · rw [dropK_pos (by rw [h]), List.filter_cons_of_neg (by simp [h]), ih]
    · rw [dropK_neg (fun z => h (Sum.inl.inj z)), List.filter_cons_of_pos (by simp [h]), ih]
      rfl
theorem drop_v (es : List Ent) (n : Int) : dropK (vK es) (Sum.inl n) = vK (delE es n) := drop_map _ n es
theorem drop_d (es : List Ent) (n : Int) : dropK (dB es) (Sum.inl n) = dB (delE es n) := drop_map _ n es
theorem setE_vK (es : List Ent) (n : Int) (f : Ent → Ent) (h : ∀ e, (f e).ln = e.ln ∧ (f e).ad = e.ad) : vK (setE es n f) = vK es := by
  unfold vK setE
  rw [List.map_map]
  refine List.map_congr_left fun a _ => ?_
  show ((Sum.inl (if a.ln = n then f a else a).ln : Key), V.ref (if a.ln = n then f a else a).ad) = _
  by_cases q : a.ln = n
  · rw [if_pos q, (h a).1, (h a).2]
  · rw [if_neg q]
theorem setE_map {α : Type} (g : Ent → α) (es : List Ent) (n : Int) (f : Ent → Ent) (h : ∀ e, g (f e) = g e) : (setE es n f).map g = es.map g := by
  unfold setE
  rw [List.map_map]
  refine List.map_congr_left fun a _ => ?_
  show g (if a.ln = n then f a else a) = g a
  by_cases q : a.ln = n
  · rw [if_pos q, h a]
  · rw [if_neg q]
theorem setE_mem {es : List Ent} {n : Int} {f : Ent → Ent} {e : Ent} (h : e ∈ setE es n f) : ∃ a ∈ es, e = if a.ln = n then f a else a := by
  unfold setE at h
  obtain ⟨a, ha, rfl⟩ := List.mem_map.mp h
  exact ⟨a, ha, rfl⟩
theorem setE_len (es : List Ent) (n : Int) (f : Ent → Ent) : (setE es n f).length = es.length := List.length_map _
theorem setE_none {es : List Ent} {n : Int} (f : Ent → Ent) (h : fnd es n = none) : setE es n f = es := by
  unfold setE
  conv => rhs; rw [← List.map_id es]
  refine List.map_congr_left fun a ha => ?_
  rw [if_neg (fnd_no h a ha)]
  rfl
/-- entries of different lines are apart -/
theorem uniq_ln {es : List Ent} (nd : (es.map (·.ln)).Nodup) {a b : Ent} (ha : a ∈ es) (hb : b ∈ es) (h : a.ln = b.ln) : a = b := by
  obtain ⟨i, hi⟩ := List.mem_iff_getElem?.mp ha
  obtain ⟨j, hj⟩ := List.mem_iff_getElem?.mp hb
  have e : i = j := nd_ix nd (by rw [List.getElem?_map, hi]; rfl) (by rw [List.getElem?_map, hj]; exact congrArg some h.symm)
  subst e
  rw [hi] at hj
  exact Option.some.inj hj
theorem uniq_ad {es : List Ent} (nd : (es.map (·.ad)).Nodup) {a b : Ent} (ha : a ∈ es) (hb : b ∈ es) (h : a.ad = b.ad) : a = b := by
  obtain ⟨i, hi⟩ := List.mem_iff_getElem?.mp ha
  obtain ⟨j, hj⟩ := List.mem_iff_getElem?.mp hb
  have e : i = j := nd_ix nd (by rw [List.getElem?_map, hi]; rfl) (by rw [List.getElem?_map, hj]; exact congrArg some h.symm)
  subst e
  rw [hi] at hj
  exact Option.some.inj hj
theorem fnd_some {es : List Ent} (nd : (es.map (·.ln)).Nodup) {e : Ent} (h : e ∈ es) : fnd es e.ln = some e := by
  cases q : fnd es e.ln with
  | none => exact absurd rfl (fnd_no q e h)
  | some a =>
    obtain ⟨h1, h2⟩ := fnd_mem q
    rw [uniq_ln nd h1 h h2]
theorem delE_mem {es : List Ent} {n : Int} {e : Ent} : e ∈ delE es n ↔ e ∈ es ∧ e.ln ≠ n := by
  unfold delE
  rw [List.mem_filter, decide_eq_true_eq]
theorem delE_sub (es : List Ent) (n : Int) : (delE es n).Sublist es := List.filter_sublist
theorem snoc_nd {α : Type} {l : List α} {k : α} (h : l.Nodup) (hk : ¬ k ∈ l) : (l ++ [k]).Nodup := by
  refine List.nodup_append.mpr ⟨h, by simp, fun a ha b hb => ?_⟩
  rw [List.mem_singleton.mp hb]
  exact fun z => hk (z ▸ ha)
/-! ### fnd behind each deed -/
theorem fnd_snoc {es : List Ent} {n : Int} {e : Ent} (h : fnd es e.ln = none) : fnd (es ++ [e]) n = if e.ln = n then some e else fnd es n := by
  by_cases q : e.ln = n
  · rw [if_pos q]
    unfold fnd at h ⊢
    rw [List.find?_append, ← q, h, List.find?_cons_of_pos (by simp)]
    rfl
  · rw [if_neg q]
    unfold fnd
    rw [List.find?_append, List.find?_cons_of_neg (by simp [q])]
    simp
theorem fnd_set {es : List Ent} {n k : Int} {f : Ent → Ent} (hf : ∀ e, (f e).ln = e.ln) : fnd (setE es n f) k = (fnd es k).map fun e => if k = n then f e else e := by
  induction es with
  | nil => rfl
  | cons a es ih =>
    show fnd ((if a.ln = n then f a else a) :: setE es n f) k = _
    have el : (if a.ln = n then f a else a).ln = a.ln := by
      by_cases q : a.ln = n
      · rw [if_pos q, hf]
      · rw [if_neg q]
    unfold fnd at ih ⊢
    by_cases q : a.ln = k
    · rw [List.find?_cons_of_pos (by rw [el]; simp [q]), List.find?_cons_of_pos (by simp [q])]
      show some (if a.ln = n then f a else a) = some (if k = n then f a else a)
      rw [q]
    · rw [List.find?_cons_of_neg (by simp [el, q]), List.find?_cons_of_neg (by simp [q]), ih]
theorem fnd_del {es : List Ent} {n k : Int} : fnd (delE es n) k = if k = n then none else fnd es k := by
  induction es with
  | nil => by_cases q : k = n <;> simp [fnd, delE, q]
  | cons a es ih =>
    unfold fnd delE at ih ⊢
    by_cases q : a.ln = n
    · rw [List.filter_cons_of_neg (by simp [q]), ih]
      by_cases z : k = n
      · rw [if_pos z, if_pos z]
      · rw [if_neg z, if_neg z, List.find?_cons_of_neg (by simp; omega)]
    · rw [List.filter_cons_of_pos (by simp [q])]
      by_cases z : a.ln = k
      · rw [List.find?_cons_of_pos (by simp [z]), List.find?_cons_of_pos (by simp [z]), if_neg (by omega)]
      · rw [List.find?_cons_of_neg (by simp [z]), List.find?_cons_of_neg (by simp [z]), ih]
/-! ### slices of the memory -/
theorem cut2 {xs : List Int} {i : Nat} (h : i + 1 < xs.length) : cutV (xs.map V.int) (some (i : Int)) (some ((i : Int) + 2)) = [V.int xs[i], V.int xs[i + 1]] := by
  unfold cutV
  have e2 : ((i : Int) + 2) = ((i + 2 : Nat) : Int) := by omega
  rw [e2, HT.sIx_nat, HT.sIx_nat, List.length_map, Nat.min_eq_left (by omega), Nat.min_eq_left (by omega)]
  rw [← List.map_drop, ← List.map_take]
  have e3 : i + 2 - i = 2 := by omega
  rw [e3]
  rw [List.drop_eq_getElem_cons (by omega), List.drop_eq_getElem_cons (by omega)]
  rfl
theorem splice2 {xs : List Int} {i : Nat} {x y : Int} (h : i + 1 < xs.length) : (xs.map V.int).take i ++ [V.int x, V.int y] ++ (xs.map V.int).drop (i + 2) = ((xs.set i x).set (i + 1) y).map V.int := by
  apply List.ext_getElem?
  intro j
  rw [← List.map_take, ← List.map_drop, List.getElem?_map]
  rcases Nat.lt_or_ge j i with q | q
  · rw [List.append_assoc, List.getElem?_append_left (by rw [List.length_map, List.length_take]; omega), List.getElem?_map, List.getElem?_take_of_lt q, List.getElem?_set_ne (by omega), List.getElem?_set_ne (by omega)]
  · by_cases q1 : j = i
    · subst q1
      rw [List.append_assoc, List.getElem?_append_right (by rw [List.length_map, List.length_take]; omega), List.length_map, List.length_take, Nat.min_eq_left (by omega), Nat.sub_self, List.getElem?_set_ne (by omega), List.getElem?_set_self (by omega)]
      rfl
    · by_cases q2 : j = i + 1
      · subst q2
        rw [List.append_assoc, List.getElem?_append_right (by rw [List.length_map, List.length_take]; omega), List.length_map, List.length_take, Nat.min_eq_left (by omega), List.getElem?_set_self (by rw [List.length_set]; omega)]
        have : i + 1 - i = 1 := by omega
        rw [this]
        rfl
      · rw [List.getElem?_append_right (by rw [List.length_append, List.length_map, List.length_take]; simp; omega), List.length_append, List.length_map, List.length_take, Nat.min_eq_left (by omega), List.getElem?_map, List.getElem?_drop, List.getElem?_set_ne (by omega), List.getElem?_set_ne (by omega)]
        have : i + 2 + (j - (i + [V.int x, V.int y].length)) = j := by show i + 2 + (j - (i + 2)) = j; omega
        rw [this]
end Ln
namespace Ln
open PySem L2
abbrev sInit : Stmt := inClass (top 11) 0
abbrev sHeld : Stmt := inClass (top 11) 1
abbrev sRead : Stmt := inClass (top 11) 2
abbrev sWrite : Stmt := inClass (top 11) 3
abbrev sLoad : Stmt := inClass (top 11) 4
abbrev sClean : Stmt := inClass (top 11) 5
abbrev sDrop : Stmt := inClass (top 11) 6
abbrev sEvict : Stmt := inClass (top 11) 7
/-! ### the object -/
theorem n1 : ¬ (("_values" : Str) = "_dirty") := by decide +kernel
theorem n2 : ¬ (("_memory" : Str) = "_dirty") := by decide +kernel
theorem n3 : ¬ (("_memory" : Str) = "_values") := by decide +kernel
def flds (m v d : Addr) : List (Str × V) := putF "_dirty" (.ref d) (putF "_values" (.ref v) (putF "_memory" (.ref m) []))
theorem flds_m (m v d : Addr) : (flds m v d).lookup ("_memory" : Str) = some (.ref m) := by
  unfold flds
  rw [lookup_putF, if_neg n2, lookup_putF, if_neg n3, lookup_putF, if_pos rfl]
theorem flds_v (m v d : Addr) : (flds m v d).lookup ("_values" : Str) = some (.ref v) := by
  unfold flds
  rw [lookup_putF, if_neg n1, lookup_putF, if_pos rfl]
theorem flds_d (m v d : Addr) : (flds m v d).lookup ("_dirty" : Str) = some (.ref d) := by
  unfold flds
  rw [lookup_putF, if_pos rfl]
theorem flds_no (m v d : Addr) {x : Str} (h1 : ¬ x = "_dirty") (h2 : ¬ x = "_values") (h3 : ¬ x = "_memory") : (flds m v d).lookup x = none := by
  unfold flds
  rw [lookup_putF, if_neg h1, lookup_putF, if_neg h2, lookup_putF, if_neg h3]
  all_goals rfl
/-- THE INVARIANT: a cache at p over the memory at m, behind the heap H0 in which it was made -/
structure CA (C : Addr) (H0 H : Hp) (p m v d dx : Addr) (cells : List Int) (es : List Ent) : Prop where
  ob : H p = some (.ins C dx (flds m v d))
  mm : H m = some (.lst (cells.map V.int))
  vv : H v = some (.dK (vK es))
  dd : H d = some (.dK (dB es))
  en : ∀ e ∈ es, H e.ad = some (.lst [.int e.x, .int e.y])
  nd : (es.map (·.ln)).Nodup
  na : (es.map (·.ad)).Nodup
  fp : H0 p = none
  fv : H0 v = none
  fd : H0 d = none
  fe : ∀ e ∈ es, H0 e.ad = none
  st : ∀ c, H0 c ≠ none → H c ≠ none
  m0 : H0 m ≠ none
  vd : v ≠ d
  cl : cells.length ≤ 900
  el : es.length ≤ 900
/-- of what H0 knew just the memory may have changed -/
def Fm (H0 : Hp) (m : Addr) (H H' : Hp) : Prop := ∀ c, H0 c ≠ none → c ≠ m → H' c = H c
theorem Fm.refl {H0 : Hp} {m : Addr} {H : Hp} : Fm H0 m H H := fun _ _ _ => rfl
theorem Fm.trans {H0 : Hp} {m : Addr} {H H1 H2 : Hp} (a : Fm H0 m H H1) (b : Fm H0 m H1 H2) : Fm H0 m H H2 := fun c h n => (b c h n).trans (a c h n)
theorem Fm.put {H0 H : Hp} {m a : Addr} {o : HO} (h : H0 a = none) : Fm H0 m H (upd H a o) := fun c hc _ => upd_ne fun z => hc (by rw [z]; exact h)
theorem Fm.putM {H0 H : Hp} {m : Addr} {o : HO} : Fm H0 m H (upd H m o) := fun c _ n => upd_ne n
/-- another object that H0 knew changes -/
theorem CA.frame {C : Addr} {H0 H H' : Hp} {p m v d dx b : Addr} {cells : List Int} {es : List Ent} (I : CA C H0 H p m v d dx cells es) (hb : H0 b ≠ none) (hbm : b ≠ m) (k : Off b H H') (hn : H' b ≠ none) : CA C H0 H' p m v d dx cells es := by
  have ne : ∀ c, H0 c = none → H' c = H c := fun c hc => k c fun z => hb (by rw [← z]; exact hc)
  refine ⟨(ne _ I.fp).trans I.ob, (k m (fun z => hbm z.symm)).trans I.mm, (ne _ I.fv).trans I.vv, (ne _ I.fd).trans I.dd, fun e he => (ne _ (I.fe e he)).trans (I.en e he), I.nd, I.na, I.fp, I.fv, I.fd, I.fe, fun c hc => ?_, I.m0, I.vd, I.cl, I.el⟩
  by_cases q : c = b
  · rw [q]; exact hn
  · rw [k c q]; exact I.st c hc
/-- objects that were not there change nothing -/
theorem CA.same {C : Addr} {H0 H H' : Hp} {p m v d dx : Addr} {cells : List Int} {es : List Ent} (I : CA C H0 H p m v d dx cells es) (k : Same H H') : CA C H0 H' p m v d dx cells es := by
  refine ⟨k _ _ I.ob, k _ _ I.mm, k _ _ I.vv, k _ _ I.dd, fun e he => k _ _ (I.en e he), I.nd, I.na, I.fp, I.fv, I.fd, I.fe, fun c hc => ?_, I.m0, I.vd, I.cl, I.el⟩
  cases q : H c with
  | none => exact absurd q (I.st c hc)
  | some o => rw [k _ _ q]; simp
/-! ### the mirror -/
def LdR (cells : List Int) (es : List Ent) (n : Int) (es' : List Ent) : Prop :=
  (∃ e, fnd es n = some e ∧ es' = es) ∨ (fnd es n = none ∧ ∃ a, es' = es ++ [⟨n, a, cells.getD (2 * n).toNat 0, cells.getD ((2 * n).toNat + 1) 0, false⟩])
def clnC (cells : List Int) (es : List Ent) (n : Int) : List Int := match fnd es n with
  | some e => if e.dt = true then (cells.set (2 * n).toNat e.x).set ((2 * n).toNat + 1) e.y else cells
  | none => cells
def clnE (es : List Ent) (n : Int) : List Ent := setE es n fun e => { e with dt := false }
def putE (es : List Ent) (w z : Int) : List Ent := setE es (w / 2) fun e => { e with x := if w % 2 = 0 then z else e.x, y := if w % 2 = 0 then e.y else z, dt := true }
theorem clnC_len (cells : List Int) (es : List Ent) (n : Int) : (clnC cells es n).length = cells.length := by
  unfold clnC
  cases fnd es n with
  | none => rfl
  | some e =>
    show (if e.dt = true then _ else cells).length = _
    by_cases h : e.dt = true
    · rw [if_pos h, List.length_set, List.length_set]
    · rw [if_neg h]
theorem putE_vK (es : List Ent) (w z : Int) : vK (putE es w z) = vK es := setE_vK es (w / 2) _ fun _ => ⟨rfl, rfl⟩
theorem putE_ln (es : List Ent) (w z : Int) : (putE es w z).map (·.ln) = es.map (·.ln) := setE_map (·.ln) es (w / 2) _ fun _ => rfl
theorem putE_ad (es : List Ent) (w z : Int) : (putE es w z).map (·.ad) = es.map (·.ad) := setE_map (·.ad) es (w / 2) _ fun _ => rfl
theorem clnE_vK (es : List Ent) (w : Int) : vK (clnE es w) = vK es := setE_vK es w _ fun _ => ⟨rfl, rfl⟩
theorem clnE_ln (es : List Ent) (w : Int) : (clnE es w).map (·.ln) = es.map (·.ln) := setE_map (·.ln) es w _ fun _ => rfl
theorem clnE_ad (es : List Ent) (w : Int) : (clnE es w).map (·.ad) = es.map (·.ad) := setE_map (·.ad) es w _ fun _ => rfl
theorem ldr_has {cells : List Int} {es es' : List Ent} {n : Int} (h : LdR cells es n es') : ∃ e, fnd es' n = some e := by
  rcases h with ⟨e, h, rfl⟩ | ⟨h, a, rfl⟩
  · exact ⟨e, h⟩
  · exact ⟨_, by rw [fnd_snoc (e := ⟨n, a, _, _, false⟩) h, if_pos rfl]⟩
theorem dB_congr {es : List Ent} {n : Int} {f g : Ent → Ent} (h : ∀ e, (f e).ln = (g e).ln ∧ (f e).dt = (g e).dt) : dB (setE es n f) = dB (setE es n g) := by
  unfold dB setE
  rw [List.map_map, List.map_map]
  refine List.map_congr_left fun a _ => ?_
  show ((Sum.inl (if a.ln = n then f a else a).ln : Key), V.bl (if a.ln = n then f a else a).dt) = ((Sum.inl (if a.ln = n then g a else a).ln : Key), V.bl (if a.ln = n then g a else a).dt)
  by_cases q : a.ln = n
  · rw [if_pos q, if_pos q, (h a).1, (h a).2]
  · rw [if_neg q, if_neg q]
theorem delE_none {es : List Ent} {n : Int} (h : fnd es n = none) : delE es n = es := by
  unfold delE
  exact List.filter_eq_self.mpr fun e he => by simpa using fnd_no h e he
theorem clnE_id {es : List Ent} {n : Int} (nd : (es.map (·.ln)).Nodup) (h : ∀ e, fnd es n = some e → e.dt = false) : clnE es n = es := by
  unfold clnE setE
  conv => rhs; rw [← List.map_id es]
  refine List.map_congr_left fun a ha => ?_
  by_cases q : a.ln = n
  · have hd : a.dt = false := h a (by rw [← q]; exact fnd_some nd ha)
    rw [if_pos q]
    cases a
    simp only at hd
    subst hd
    rfl
  · rw [if_neg q]
    rfl
theorem del_cln (es : List Ent) (n : Int) : delE (clnE es n) n = delE es n := by
  unfold delE clnE setE
  rw [List.filter_map]
  have e : ((fun e : Ent => decide (e.ln ≠ n)) ∘ fun e : Ent => if e.ln = n then { e with dt := false } else e) = fun e : Ent => decide (e.ln ≠ n) := funext fun a => by
    show decide ((if a.ln = n then { a with dt := false } else a : Ent).ln ≠ n) = decide (a.ln ≠ n)
    by_cases q : a.ln = n
    · rw [if_pos q]
    · rw [if_neg q]
  rw [e]
  conv => rhs; rw [← List.map_id (es.filter fun e => decide (e.ln ≠ n))]
  refine List.map_congr_left fun a ha => ?_
  have q : a.ln ≠ n := by simpa using (List.mem_filter.mp ha).2
  rw [if_neg q]
  rfl
/-! ### the promises -/
section
variable (C : Addr)
def spInit : Sp := fun vs H Q _ => ∃ (H0 : Hp) (p m dx : Addr) (cells : List Int), vs = [.ref p, .ref m] ∧ H = upd (upd H0 dx (.own p)) p (.ins C dx []) ∧ H0 p = none ∧ H0 dx = none ∧ dx ≠ p ∧ H0 m = some (.lst (cells.map V.int)) ∧ cells.length ≤ 900 ∧
  ∀ (v d : Addr) (H' : Hp), CA C H0 H' p m v d dx cells [] → (∀ c, H0 c ≠ none → H' c = H0 c) → Q .non H'
def spLoad : Sp := fun vs H Q _ => ∃ (H0 : Hp) (p m v d dx : Addr) (cells : List Int) (es : List Ent) (n : Int), vs = [.ref p, .int n] ∧ CA C H0 H p m v d dx cells es ∧ 0 ≤ n ∧ 2 * n + 1 < cells.length ∧ es.length < 900 ∧
  ∀ (es' : List Ent) (H' : Hp), LdR cells es n es' → CA C H0 H' p m v d dx cells es' → Fm H0 m H H' → Q .non H'
def spRead : Sp := fun vs H Q _ => ∃ (H0 : Hp) (p m v d dx : Addr) (cells : List Int) (es : List Ent) (w : Int), vs = [.ref p, .int w] ∧ CA C H0 H p m v d dx cells es ∧ 0 ≤ w ∧ 2 * (w / 2) + 1 < cells.length ∧ es.length < 900 ∧
  ∀ (es' : List Ent) (e : Ent) (H' : Hp), LdR cells es (w / 2) es' → fnd es' (w / 2) = some e → CA C H0 H' p m v d dx cells es' → Fm H0 m H H' → Q (.int (if w % 2 = 0 then e.x else e.y)) H'
def spWrite : Sp := fun vs H Q _ => ∃ (H0 : Hp) (p m v d dx : Addr) (cells : List Int) (es : List Ent) (w z : Int), vs = [.ref p, .int w, .int z] ∧ CA C H0 H p m v d dx cells es ∧ 0 ≤ w ∧ 2 * (w / 2) + 1 < cells.length ∧ es.length < 900 ∧
  ∀ (es' : List Ent) (H' : Hp), LdR cells es (w / 2) es' → CA C H0 H' p m v d dx cells (putE es' w z) → Fm H0 m H H' → Q .non H'
def spClean : Sp := fun vs H Q _ => ∃ (H0 : Hp) (p m v d dx : Addr) (cells : List Int) (es : List Ent) (n : Int), vs = [.ref p, .int n] ∧ CA C H0 H p m v d dx cells es ∧ 0 ≤ n ∧ 2 * n + 1 < cells.length ∧
  ∀ (H' : Hp), CA C H0 H' p m v d dx (clnC cells es n) (clnE es n) → Fm H0 m H H' → Q .non H'
def spDrop : Sp := fun vs H Q _ => ∃ (H0 : Hp) (p m v d dx : Addr) (cells : List Int) (es : List Ent) (n : Int), vs = [.ref p, .int n] ∧ CA C H0 H p m v d dx cells es ∧
  ∀ (H' : Hp), CA C H0 H' p m v d dx cells (delE es n) → Fm H0 m H H' → Q .non H'
def spEvict : Sp := fun vs H Q _ => ∃ (H0 : Hp) (p m v d dx : Addr) (cells : List Int) (es : List Ent) (n : Int), vs = [.ref p, .int n] ∧ CA C H0 H p m v d dx cells es ∧ 0 ≤ n ∧ 2 * n + 1 < cells.length ∧
  ∀ (H' : Hp), CA C H0 H' p m v d dx (clnC cells es n) (delE es n) → Fm H0 m H H' → Q .non H'
def spHeld : Sp := fun vs H Q _ => ∃ (H0 : Hp) (p m v d dx : Addr) (cells : List Int) (es : List Ent), vs = [.ref p] ∧ CA C H0 H p m v d dx cells es ∧
  ∀ (ks : List (Int × Bool)) (ts : List Addr) (q : Addr) (H' : Hp), ks.Perm (es.map fun e => (e.ln, e.dt)) → ks.Pairwise (fun a b => a.1 < b.1) → Same H H' → H q = none → H' q = some (.tup (ts.map V.ref)) →
    Paired (fun (t : Addr) (q : Int × Bool) => H' t = some (.tup [.int q.1, .bl q.2])) ts ks → Q (.ref q) H'
end
/-- what the walk asks of the classes -/
structure TL (K : PySem.W.Frag) (mg : Str → Option Value) (C CR : Addr) (mc u : Value) : Prop where
  cl : Cls K C
  nM : NoAttr K C "_memory"
  nV : NoAttr K C "_values"
  nD : NoAttr K C "_dirty"
  mgC : mg "Lines" = some (.ref C)
  mgR : mg "Run" = some (.ref CR)
  rd : ClX.CRead K CR mc
  tup : mg "tuple" = none
  srt : mg "sorted" = none
  ln : ClX.CVal K CR mc "LINE" (.int 2) u
section
variable {P : Program} {w : World} {K : PySem.W.Frag} {mg : Str → Option Value} {base : Heap} {C CR : Addr} {mc u : Value}
theorem scInit : FnScope ["self", "words"] ["self", "words"] (defScope sInit) := ⟨rfl, rfl, rfl, by decide +kernel, rfl, by decide +kernel, by decide +kernel⟩
theorem ok_init {f : Addr} {fd : FuncData} (F : Fun K "__init__" "Lines.__init__" sInit f fd) (T : TL K mg C CR mc u) : FnOk P w K mg base CX0 1 f fd ["self", "words"] (spInit C) := by
  refine F.ok scInit (fun vs H Q E h => ?_) (fun cdv A outer s H vs Q E hr h => ?_)
  · obtain ⟨H0, p, m, dx, cells, rfl, _⟩ := h
    rfl
  · obtain ⟨H0, p, m, dx, cells, rfl, rfl, p0, dx0, npd, hm, hl, k⟩ := h
    refine ⟨_, pss_cons (ps_fld (pv 0) (pv 1) rfl) (pss_cons (ps_fld (pv 0) pe_dnewK rfl) (pss_one (ps_fld (pv 0) pe_dnewK rfl))), ?_⟩
    refine ⟨_, rfl, _, rfl, p, C, dx, [], rfl, upd_same, T.cl, T.nM, (by show 0 < 1000; decide), ?_⟩
    intro v hv
    have pv_ : p ≠ v := fun z => by rw [← z, upd_same] at hv; cases hv
    rw [upd_ne pv_.symm, upd_ne pv_.symm] at hv
    have hdv : v ≠ dx := fun z => by rw [z, upd_same] at hv; cases hv
    rw [upd_ne hdv] at hv
    refine ⟨_, rfl, p, C, dx, _, rfl, (by rw [upd_ne pv_]; exact upd_same), T.cl, T.nV, (by show 1 < 1000; decide), ?_⟩
    intro d hd
    have pd_ : p ≠ d := fun z => by rw [← z, upd_same] at hd; cases hd
    rw [upd_ne pd_.symm] at hd
    have nvd : v ≠ d := fun z => by rw [← z, upd_same] at hd; cases hd
    rw [upd_ne nvd.symm, upd_ne pd_.symm, upd_ne pd_.symm] at hd
    have hdd : d ≠ dx := fun z => by rw [z, upd_same] at hd; cases hd
    rw [upd_ne hdd] at hd
    refine ⟨_, rfl, p, C, dx, _, rfl, (by rw [upd_ne pd_]; exact upd_same), T.cl, T.nD, ?_, ?_⟩
    · show (putF "_values" (V.ref v) (putF "_memory" (V.ref m) [])).length < 1000
      have e : putF "_values" (V.ref v) (putF "_memory" (V.ref m) []) = [(("_memory" : Str), V.ref m), ("_values", V.ref v)] := by
        show (if ("_memory" : Str) = "_values" then _ else (("_memory" : Str), V.ref m) :: putF "_values" (V.ref v) []) = _
        rw [if_neg n3]
        rfl
      rw [e]
      show 2 < 1000
      decide
    · have kp : ∀ (c : Addr) (o1 o2 o3 o4 o5 o6 : HO), c ≠ p → c ≠ d → c ≠ v → c ≠ dx → (L2.upd (L2.upd (L2.upd (L2.upd (L2.upd (L2.upd (L2.upd H0 dx (.own p)) p o1) p o2) v o3) p o4) d o5) p o6) c = H0 c := fun c _ _ _ _ _ _ z1 z2 z3 z4 => by
        rw [upd_ne z1, upd_ne z2, upd_ne z1, upd_ne z3, upd_ne z1, upd_ne z1, upd_ne z4]
      have ap : ∀ c, H0 c ≠ none → c ≠ p ∧ c ≠ d ∧ c ≠ v ∧ c ≠ dx := fun c hc => ⟨fun z => hc (by rw [z]; exact p0), fun z => hc (by rw [z]; exact hd), fun z => hc (by rw [z]; exact hv), fun z => hc (by rw [z]; exact dx0)⟩
      have kp' : ∀ c, H0 c ≠ none → (L2.upd (L2.upd (L2.upd (L2.upd (L2.upd (L2.upd (L2.upd H0 dx (.own p)) p (.ins C dx [])) p (.ins C dx (putF "_memory" (.ref m) []))) v (.dK [])) p (.ins C dx (putF "_values" (.ref v) (putF "_memory" (.ref m) [])))) d (.dK [])) p (.ins C dx (flds m v d))) c = H0 c := fun c hc => by
        obtain ⟨z1, z2, z3, z4⟩ := ap c hc
        exact kp c _ _ _ _ _ _ z1 z2 z3 z4
      have hm0 : H0 m ≠ none := by rw [hm]; simp
      refine k v d _ ⟨upd_same, ?_, ?_, ?_, fun e he => absurd he (by simp), List.nodup_nil, List.nodup_nil, p0, hv, hd, fun e he => absurd he (by simp), fun c hc => ?_, hm0, nvd, hl, Nat.zero_le _⟩ fun c hc => kp' c hc
      · exact (kp' m hm0).trans hm
      · rw [upd_ne pv_.symm, upd_ne nvd, upd_ne pv_.symm, upd_same]; rfl
      · rw [upd_ne pd_.symm, upd_same]; rfl
      · exact fun z => hc ((kp' c hc).symm.trans z)
theorem scLoad : FnScope ["self", "line", "first"] ["self", "line"] (defScope sLoad) := ⟨rfl, rfl, rfl, by decide +kernel, rfl, by decide +kernel, by decide +kernel⟩
theorem ok_load {f : Addr} {fd : FuncData} (F : Fun K "load" "Lines.load" sLoad f fd) (T : TL K mg C CR mc u) : FnOk P w K mg base CX0 1 f fd ["self", "line"] (spLoad C) := by
  refine F.ok scLoad (fun vs H Q E h => ?_) (fun cdv A outer s H vs Q E hr h => ?_)
  · obtain ⟨H0, p, m, v, d, dx, cells, es, n, rfl, _⟩ := h
    rfl
  · obtain ⟨H0, p, m, v, d, dx, cells, es, n, rfl, I, n0, n1, hl, k⟩ := h
    have hu := hu_of hr
    refine ⟨_, pss_one (ps_if (pt_cmp (pc_dnotin hu (pv 1) (pe_fld (pv 0) rfl)))
      (pss_cons (ps_set (i := 2) scLoad.nd rfl (Or.inl rfl) (pe_op op_mul (pv 1) (ClX.pe_cval (pe_glob (v := .ref CR) rfl T.mgR rfl))))
      (pss_cons (ps_dput hu (pe_fld (pv 0) rfl) (pv 1) (pe_slice sl_list (pe_fld (pv 0) rfl) (po_some (pv 2)) (po_some (pe_op op_add (pv 2) (ClX.pe_cval (pe_glob (v := .ref CR) rfl T.mgR rfl))))) rfl)
      (pss_one (ps_dput hu (pe_fld (pv 0) rfl) (pv 1) pe_bl rfl)))) pss_nil), ?_⟩
    refine ⟨_, rfl, _, rfl, p, C, dx, _, _, rfl, I.ob, T.cl, T.nV, flds_v _ _ _, v, _, rfl, DGet.k (k := Sum.inl n) I.vv, _, rfl, ?_⟩
    rw [val_v]
    cases hf : fnd es n with
    | some e =>
      refine iteF ?_
      exact k es H (.inl ⟨e, hf, rfl⟩) I Fm.refl
    | none =>
      refine iteT ?_
      obtain ⟨j, rfl⟩ := Int.eq_ofNat_of_zero_le n0
      refine ⟨_, rfl, CR, mc, _, u, rfl, T.rd, T.ln, _, _, rfl, rfl, .inr ⟨by decide, by decide⟩, ?_⟩
      refine ⟨_, rfl, p, C, dx, _, _, rfl, I.ob, T.cl, T.nM, flds_m _ _ _, _, rfl, _, rfl, _, rfl, CR, mc, _, u, rfl, T.rd, T.ln, _, _, rfl, rfl, _, rfl, m, _, rfl, SqL.of I.mm, fun a ha => ?_⟩
      have na0 : H0 a = none := by
        cases q : H0 a with
        | none => rfl
        | some o => exact absurd ha (I.st a (by rw [q]; simp))
      have pa : p ≠ a := ne_of_none I.ob ha
      have va : v ≠ a := ne_of_none I.vv ha
      have da : d ≠ a := ne_of_none I.dd ha
      have ma : m ≠ a := ne_of_none I.mm ha
      have pv_ : p ≠ v := ne_of I.ob I.vv (by intro z; cases z)
      have pd_ : p ≠ d := ne_of I.ob I.dd (by intro z; cases z)
      have mv_ : m ≠ v := ne_of I.mm I.vv (by intro z; cases z)
      have md_ : m ≠ d := ne_of I.mm I.dd (by intro z; cases z)
      have h2j : 2 * j + 1 < cells.length := by omega
      have ec : cutV (cells.map V.int) (some ((j : Int) * 2)) (some ((j : Int) * 2 + 2)) = [V.int (cells.getD (2 * (j : Int)).toNat 0), V.int (cells.getD ((2 * (j : Int)).toNat + 1) 0)] := by
        have e1 : (j : Int) * 2 = ((2 * j : Nat) : Int) := by omega
        have e2 : (2 * (j : Int)).toNat = 2 * j := by omega
        rw [e1, cut2 h2j, e2, List.getD_eq_getElem?_getD, List.getD_eq_getElem?_getD, List.getElem?_eq_getElem (by omega), List.getElem?_eq_getElem h2j]
        rfl
      refine ⟨_, rfl, p, C, dx, _, _, rfl, (by rw [upd_ne pa]; exact I.ob), T.cl, T.nV, flds_v _ _ _, _, rfl, v, _, rfl, DPut.k (k := Sum.inl (j : Int)) (by rw [upd_ne va]; exact I.vv) (small1000 (by unfold vK; rw [List.length_map]; omega)), ?_⟩
      refine ⟨_, rfl, p, C, dx, _, _, rfl, (by rw [upd_ne pv_, upd_ne pa]; exact I.ob), T.cl, T.nD, flds_d _ _ _, _, rfl, d, _, rfl, DPut.k (k := Sum.inl (j : Int)) (by rw [upd_ne I.vd.symm, upd_ne da]; exact I.dd) (small1000 (by unfold dB; rw [List.length_map]; omega)), ?_⟩
      rw [ec, new_v a (cells.getD (2 * (j : Int)).toNat 0) (cells.getD ((2 * (j : Int)).toNat + 1) 0) false hf, new_d a (cells.getD (2 * (j : Int)).toNat 0) (cells.getD ((2 * (j : Int)).toNat + 1) 0) false hf]
      have hea : ∀ e ∈ es, e.ad ≠ a ∧ e.ad ≠ v ∧ e.ad ≠ d := fun e he => ⟨ne_of_none (I.en e he) ha, ne_of (I.en e he) I.vv (by intro z; cases z), ne_of (I.en e he) I.dd (by intro z; cases z)⟩
      refine k _ _ (.inr ⟨hf, a, rfl⟩) ⟨?_, ?_, ?_, upd_same, fun e he => ?_, ?_, ?_, I.fp, I.fv, I.fd, fun e he => ?_, fun c hc => ?_, I.m0, I.vd, I.cl, by rw [List.length_append]; show es.length + 1 ≤ 900; omega⟩ ((Fm.put na0).trans ((Fm.put I.fv).trans (Fm.put I.fd)))
      · rw [upd_ne pd_, upd_ne pv_, upd_ne pa]; exact I.ob
      · rw [upd_ne md_, upd_ne mv_, upd_ne ma]; exact I.mm
      · rw [upd_ne I.vd, upd_same]
      · rcases List.mem_append.mp he with he | he
        · obtain ⟨z1, z2, z3⟩ := hea e he
          rw [upd_ne z3, upd_ne z2, upd_ne z1]; exact I.en e he
        · rw [List.mem_singleton.mp he]
          show (L2.upd (L2.upd (L2.upd H a _) v _) d _) a = _
          rw [upd_ne da.symm, upd_ne va.symm, upd_same]
      · rw [List.map_append]
        refine snoc_nd I.nd fun z => ?_
        obtain ⟨e, he, q⟩ := List.mem_map.mp z
        exact fnd_no hf e he q
      · rw [List.map_append]
        refine snoc_nd I.na fun z => ?_
        obtain ⟨e, he, q⟩ := List.mem_map.mp z
        exact (hea e he).1 q
      · rcases List.mem_append.mp he with he | he
        · exact I.fe e he
        · rw [List.mem_singleton.mp he]; exact na0
      · have z1 : c ≠ a := fun z => hc (by rw [z]; exact na0)
        have z2 : c ≠ v := fun z => hc (by rw [z]; exact I.fv)
        have z3 : c ≠ d := fun z => hc (by rw [z]; exact I.fd)
        rw [upd_ne z3, upd_ne z2, upd_ne z1]; exact I.st c hc
theorem scRead : FnScope ["self", "word", "line"] ["self", "word"] (defScope sRead) := ⟨rfl, rfl, rfl, by decide +kernel, rfl, by decide +kernel, by decide +kernel⟩
theorem get_v {H : Hp} {v : Addr} {es : List Ent} {n : Int} {e : Ent} (hv : H v = some (.dK (vK es))) (h : fnd es n = some e) : DGet H v (.int n) (some (.ref e.ad)) := by
  have z := DGet.k (k := (Sum.inl n : Key)) hv
  rw [val_v, h] at z
  exact z
theorem at2 {x y w : Int} : atI [V.int x, V.int y] (w % 2) = some (V.int (if w % 2 = 0 then x else y)) := by
  rcases (show w % 2 = 0 ∨ w % 2 = 1 by omega) with q | q
  · rw [q, if_pos rfl]; rfl
  · rw [q, if_neg (by decide)]; rfl
theorem ok_read {f fL : Addr} {fd fdL : FuncData} (F : Fun K "read" "Lines.read" sRead f fd) (T : TL K mg C CR mc u) (GL : FnOk P w K mg base CX0 1 fL fdL ["self", "line"] (spLoad C)) (bL : Binds K fdL ["self", "line"] []) (mL : Meth K C "load" fL) :
    FnOk P w K mg base CX0 2 f fd ["self", "word"] (spRead C) := by
  refine F.ok scRead (fun vs H Q E h => ?_) (fun cdv A outer s H vs Q E hr h => ?_)
  · obtain ⟨H0, p, m, v, d, dx, cells, es, n, rfl, _⟩ := h
    rfl
  · obtain ⟨H0, p, m, v, d, dx, cells, es, n, rfl, I, n0, n1, hl, k⟩ := h
    have hu := hu_of hr
    refine ⟨_, pss_cons (ps_set (i := 2) scRead.nd rfl (Or.inl rfl) (pe_op op_fdiv (pv 1) (ClX.pe_cval (pe_glob (v := .ref CR) rfl T.mgR rfl))))
      (pss_cons (ps_expr (pe_meth (pv 0) T.cl mL GL hr bL .nil pass0 (pa_cons (pv 2) pa_nil)))
      (pss_one (ps_ret (pe_ix ix_list (pe_dget hu (pe_fld (pv 0) rfl) (pv 2) (fun _ _ => rfl)) (pe_op op_mod (pv 1) (ClX.pe_cval (pe_glob (v := .ref CR) rfl T.mgR rfl))) (fun _ _ => rfl))))), ?_⟩
    refine ⟨_, rfl, CR, mc, _, u, rfl, T.rd, T.ln, _, _, rfl, rfl, ⟨by decide, by decide⟩, ?_⟩
    refine ⟨_, rfl, p, dx, _, rfl, I.ob, flds_no _ _ _ (by decide +kernel) (by decide +kernel) (by decide +kernel), _, rfl, H0, p, m, v, d, dx, cells, es, n / 2, rfl, I, by omega, n1, hl, fun es' H' ld I' fm => ?_⟩
    obtain ⟨e, he⟩ := ldr_has ld
    refine ⟨_, rfl, p, C, dx, _, _, rfl, I'.ob, T.cl, T.nV, flds_v _ _ _, _, rfl, v, _, rfl, get_v I'.vv he, _, rfl, CR, mc, _, u, rfl, T.rd, T.ln, _, _, rfl, rfl, (by show (0 : Int) < 2; decide), e.ad, _, _, _, rfl, rfl, SqL.of (I'.en e (fnd_mem he).1), at2, ?_⟩
    exact k es' e H' ld he I' fm
theorem scWrite : FnScope ["self", "word", "value", "line"] ["self", "word", "value"] (defScope sWrite) := ⟨rfl, rfl, rfl, by decide +kernel, rfl, by decide +kernel, by decide +kernel⟩
theorem ok_write {f fL : Addr} {fd fdL : FuncData} (F : Fun K "write" "Lines.write" sWrite f fd) (T : TL K mg C CR mc u) (GL : FnOk P w K mg base CX0 1 fL fdL ["self", "line"] (spLoad C)) (bL : Binds K fdL ["self", "line"] []) (mL : Meth K C "load" fL) :
    FnOk P w K mg base CX0 2 f fd ["self", "word", "value"] (spWrite C) := by
  refine F.ok scWrite (fun vs H Q E h => ?_) (fun cdv A outer s H vs Q E hr h => ?_)
  · obtain ⟨H0, p, m, v, d, dx, cells, es, n, z, rfl, _⟩ := h
    rfl
  · obtain ⟨H0, p, m, v, d, dx, cells, es, n, z, rfl, I, n0, n1, hl, k⟩ := h
    have hu := hu_of hr
    refine ⟨_, pss_cons (ps_set (i := 3) scWrite.nd rfl (Or.inl rfl) (pe_op op_fdiv (pv 1) (ClX.pe_cval (pe_glob (v := .ref CR) rfl T.mgR rfl))))
      (pss_cons (ps_expr (pe_meth (pv 0) T.cl mL GL hr bL .nil pass0 (pa_cons (pv 3) pa_nil)))
      (pss_cons (ps_asg (pv 2) (pg_sub (pe_dget hu (pe_fld (pv 0) rfl) (pv 3) (fun _ _ => rfl)) (pe_op op_mod (pv 1) (ClX.pe_cval (pe_glob (v := .ref CR) rfl T.mgR rfl))) set_list))
      (pss_one (ps_dput hu (pe_fld (pv 0) rfl) (pv 3) pe_bl rfl)))), ?_⟩
    refine ⟨_, rfl, CR, mc, _, u, rfl, T.rd, T.ln, _, _, rfl, rfl, ⟨by decide, by decide⟩, ?_⟩
    refine ⟨_, rfl, p, dx, _, rfl, I.ob, flds_no _ _ _ (by decide +kernel) (by decide +kernel) (by decide +kernel), _, rfl, H0, p, m, v, d, dx, cells, es, n / 2, rfl, I, by omega, n1, hl, fun es' H' ld J fm => ?_⟩
    obtain ⟨e, he⟩ := ldr_has ld
    obtain ⟨em, en⟩ := fnd_mem he
    have pe_ : p ≠ e.ad := ne_of J.ob (J.en e em) (by intro z; cases z)
    have ve_ : v ≠ e.ad := ne_of J.vv (J.en e em) (by intro z; cases z)
    have de_ : d ≠ e.ad := ne_of J.dd (J.en e em) (by intro z; cases z)
    have me_ : m ≠ e.ad := fun q => J.m0 (by rw [q]; exact J.fe e em)
    have pd_ : p ≠ d := ne_of J.ob J.dd (by intro z; cases z)
    have md_ : m ≠ d := ne_of J.mm J.dd (by intro z; cases z)
    obtain ⟨j, hj, hij, hset⟩ : ∃ j : Nat, ixN 2 (n % 2) = some j ∧ j < 2 ∧ ([V.int e.x, V.int e.y].set j (V.int z)) = [V.int (if n % 2 = 0 then z else e.x), V.int (if n % 2 = 0 then e.y else z)] := by
      rcases (show n % 2 = 0 ∨ n % 2 = 1 by omega) with q | q
      · refine ⟨0, by rw [q]; rfl, by decide, ?_⟩
        rw [if_pos q, if_pos q]; rfl
      · refine ⟨1, by rw [q]; rfl, by decide, ?_⟩
        rw [if_neg (by omega), if_neg (by omega)]; rfl
    refine ⟨_, rfl, _, rfl, p, C, dx, _, _, rfl, J.ob, T.cl, T.nV, flds_v _ _ _, _, rfl, v, _, rfl, get_v J.vv he, _, rfl, CR, mc, _, u, rfl, T.rd, T.ln, _, _, rfl, rfl, (by show (0 : Int) < 2; decide), e.ad, _, _, j, rfl, rfl, J.en e em, hj, ?_⟩
    rw [hset]
    refine ⟨_, rfl, p, C, dx, _, _, rfl, (by rw [upd_ne pe_]; exact J.ob), T.cl, T.nD, flds_d _ _ _, _, rfl, d, _, rfl, DPut.k (k := Sum.inl (n / 2)) (by rw [upd_ne de_]; exact J.dd) (small1000 (by have q := J.el; unfold dB; rw [List.length_map]; omega)), ?_⟩
    rw [put_d true he]
    have hln : ∀ a : Ent, ({ a with x := if n % 2 = 0 then z else a.x, y := if n % 2 = 0 then a.y else z, dt := true } : Ent).ln = a.ln := fun _ => rfl
    refine k es' _ ld ⟨?_, ?_, ?_, ?_, fun a ha => ?_, ?_, ?_, J.fp, J.fv, J.fd, fun a ha => ?_, fun c hc => ?_, J.m0, J.vd, J.cl, by unfold putE; rw [setE_len]; exact J.el⟩ (fm.trans ((Fm.put (J.fe e em)).trans (Fm.put J.fd)))
    · rw [upd_ne pd_, upd_ne pe_]; exact J.ob
    · rw [upd_ne md_, upd_ne me_]; exact J.mm
    · rw [upd_ne J.vd, upd_ne ve_]
      rw [putE_vK]
      exact J.vv
    · rw [upd_same]
      unfold putE
      exact congrArg (fun q => some (HO.dK q)) (dB_congr fun _ => ⟨rfl, rfl⟩)
    · obtain ⟨b, hb, rfl⟩ := setE_mem ha
      have bd : b.ad ≠ d := ne_of (J.en b hb) J.dd (by intro z; cases z)
      by_cases q : b.ln = n / 2
      · have eb : b = e := uniq_ln J.nd hb em (q.trans en.symm)
        rw [if_pos q, eb]
        show (upd (upd H' e.ad _) d _) e.ad = _
        rw [upd_ne de_.symm, upd_same]
      · have nb : b.ad ≠ e.ad := fun z => q (by rw [uniq_ad J.na hb em z]; exact en)
        rw [if_neg q, upd_ne bd, upd_ne nb]
        exact J.en b hb
    · rw [putE_ln]
      exact J.nd
    · rw [putE_ad]
      exact J.na
    · obtain ⟨b, hb, rfl⟩ := setE_mem ha
      by_cases q : b.ln = n / 2
      · rw [if_pos q]; exact J.fe b hb
      · rw [if_neg q]; exact J.fe b hb
    · have z1 : c ≠ e.ad := fun z => hc (by rw [z]; exact J.fe e em)
      have z2 : c ≠ d := fun z => hc (by rw [z]; exact J.fd)
      rw [upd_ne z2, upd_ne z1]; exact J.st c hc
theorem scClean : FnScope ["self", "line", "first"] ["self", "line"] (defScope sClean) := ⟨rfl, rfl, rfl, by decide +kernel, rfl, by decide +kernel, by decide +kernel⟩
theorem get_d {H : Hp} {d : Addr} {es : List Ent} {n : Int} {o : Option Ent} (hd : H d = some (.dK (dB es))) (h : fnd es n = o) : DGet H d (.int n) (o.map fun e => V.bl e.dt) := by
  have z := DGet.k (k := (Sum.inl n : Key)) hd
  rw [val_d, h] at z
  exact z
theorem ok_clean {f : Addr} {fd : FuncData} (F : Fun K "clean" "Lines.clean" sClean f fd) (T : TL K mg C CR mc u) : FnOk P w K mg base CX0 1 f fd ["self", "line"] (spClean C) := by
  refine F.ok scClean (fun vs H Q E h => ?_) (fun cdv A outer s H vs Q E hr h => ?_)
  · obtain ⟨H0, p, m, v, d, dx, cells, es, n, rfl, _⟩ := h
    rfl
  · obtain ⟨H0, p, m, v, d, dx, cells, es, n, rfl, I, n0, n1, k⟩ := h
    have hu := hu_of hr
    refine ⟨_, pss_one (ps_if (pt_val (pe_dget2 hu (pe_fld (pv 0) rfl) (pv 1) pe_bl ⟨rfl, rfl, rfl, rfl⟩))
      (pss_cons (ps_set (i := 2) scClean.nd rfl (Or.inl rfl) (pe_op op_mul (pv 1) (ClX.pe_cval (pe_glob (v := .ref CR) rfl T.mgR rfl))))
      (pss_cons (ps_asg (pe_dget hu (pe_fld (pv 0) rfl) (pv 1) (fun _ _ => rfl)) (pg_slice (pe_fld (pv 0) rfl) (pv 2) (pe_op op_add (pv 2) (ClX.pe_cval (pe_glob (v := .ref CR) rfl T.mgR rfl)))))
      (pss_one (ps_dput hu (pe_fld (pv 0) rfl) (pv 1) pe_bl rfl)))) pss_nil), ?_⟩
    have quiet : (∀ e, fnd es n = some e → e.dt = false) → Q .non H := fun h => by
      have e1 : clnC cells es n = cells := by
        unfold clnC
        cases q : fnd es n with
        | none => rfl
        | some e => show (if e.dt = true then _ else cells) = cells; rw [h e q]; rfl
      refine k H ?_ Fm.refl
      rw [e1, clnE_id I.nd h]
      exact I
    refine ⟨_, rfl, p, C, dx, _, _, rfl, I.ob, T.cl, T.nD, flds_d _ _ _, d, rfl, .inl ⟨_, .inl I.dd⟩, _, rfl, _, get_d I.dd rfl, ?_⟩
    cases hf : fnd es n with
    | none =>
      refine ⟨false, rfl, iteF (quiet fun e q => ?_)⟩
      rw [hf] at q
      cases q
    | some e =>
      cases hd : e.dt with
      | false =>
        refine ⟨false, congrArg V.bl hd, iteF (quiet fun a q => ?_)⟩
        rw [hf] at q
        cases q
        exact hd
      | true =>
        refine ⟨true, congrArg V.bl hd, iteT ?_⟩
        obtain ⟨em, en⟩ := fnd_mem hf
        obtain ⟨j, rfl⟩ := Int.eq_ofNat_of_zero_le n0
        have pm_ : p ≠ m := ne_of I.ob I.mm (by intro z; cases z)
        have pd_ : p ≠ d := ne_of I.ob I.dd (by intro z; cases z)
        have md_ : m ≠ d := ne_of I.mm I.dd (by intro z; cases z)
        have mv_ : m ≠ v := ne_of I.mm I.vv (by intro z; cases z)
        have me_ : m ≠ e.ad := fun q => I.m0 (by rw [q]; exact I.fe e em)
        have h2j : 2 * j + 1 < cells.length := by omega
        refine ⟨_, rfl, CR, mc, _, u, rfl, T.rd, T.ln, _, _, rfl, rfl, .inr ⟨by decide, by decide⟩, ?_⟩
        refine ⟨_, rfl, p, C, dx, _, _, rfl, I.ob, T.cl, T.nV, flds_v _ _ _, _, rfl, v, _, rfl, get_v I.vv hf, ?_⟩
        refine ⟨_, rfl, p, C, dx, _, _, rfl, I.ob, T.cl, T.nM, flds_m _ _ _, _, rfl, _, rfl, CR, mc, _, u, rfl, T.rd, T.ln, _, _, rfl, rfl, m, e.ad, _, _, _, _, rfl, rfl, rfl, rfl, I.mm, I.en e em, me_, by omega, by omega, by rw [List.length_map]; omega, ?_, ?_⟩
        · show (cells.map V.int).length + 2 ≤ sizeLine
          rw [List.length_map]
          exact Nat.le_trans (Nat.add_le_add_right I.cl 2) (by decide)
        · have e1 : ((j : Int) * 2).toNat = 2 * j := by omega
          have e2 : ((j : Int) * 2 + 2).toNat = 2 * j + 2 := by omega
          rw [e1, e2, splice2 h2j]
          refine ⟨_, rfl, p, C, dx, _, _, rfl, (by rw [upd_ne pm_]; exact I.ob), T.cl, T.nD, flds_d _ _ _, _, rfl, d, _, rfl, DPut.k (k := Sum.inl (j : Int)) (by rw [upd_ne md_.symm]; exact I.dd) (small1000 (by have q := I.el; unfold dB; rw [List.length_map]; omega)), ?_⟩
          rw [put_d false hf]
          have ec : clnC cells es j = (cells.set (2 * j) e.x).set (2 * j + 1) e.y := by
            unfold clnC
            rw [hf]
            show (if e.dt = true then _ else cells) = _
            rw [hd, if_pos rfl]
            have e3 : (2 * (j : Int)).toNat = 2 * j := by omega
            rw [e3]
          refine k _ ⟨?_, ?_, ?_, ?_, fun a ha => ?_, ?_, ?_, I.fp, I.fv, I.fd, fun a ha => ?_, fun c hc => ?_, I.m0, I.vd, by rw [clnC_len]; exact I.cl, by unfold clnE; rw [setE_len]; exact I.el⟩ (Fm.trans Fm.putM (Fm.put I.fd))
          · rw [upd_ne pd_, upd_ne pm_]; exact I.ob
          · rw [upd_ne md_, upd_same, ec]
          · rw [upd_ne I.vd, upd_ne mv_.symm, clnE_vK]; exact I.vv
          · rw [upd_same]; rfl
          · obtain ⟨b, hb, rfl⟩ := setE_mem ha
            have z1 : b.ad ≠ d := ne_of (I.en b hb) I.dd (by intro z; cases z)
            have z2 : b.ad ≠ m := fun q => I.m0 (by rw [← q]; exact I.fe b hb)
            by_cases q : b.ln = (j : Int)
            · rw [if_pos q]
              show (upd (upd H m _) d _) b.ad = some (.lst [.int b.x, .int b.y])
              rw [upd_ne z1, upd_ne z2]; exact I.en b hb
            · rw [if_neg q, upd_ne z1, upd_ne z2]; exact I.en b hb
          · rw [clnE_ln]; exact I.nd
          · rw [clnE_ad]; exact I.na
          · obtain ⟨b, hb, rfl⟩ := setE_mem ha
            by_cases q : b.ln = (j : Int)
            · rw [if_pos q]; exact I.fe b hb
            · rw [if_neg q]; exact I.fe b hb
          · have z2 : c ≠ d := fun z => hc (by rw [z]; exact I.fd)
            rw [upd_ne z2]
            by_cases q : c = m
            · rw [q, upd_same]; simp
            · rw [upd_ne q]; exact I.st c hc
theorem scDrop : FnScope ["self", "line"] ["self", "line"] (defScope sDrop) := ⟨rfl, rfl, rfl, by decide +kernel, rfl, by decide +kernel, by decide +kernel⟩
theorem ok_drop {f : Addr} {fd : FuncData} (F : Fun K "drop" "Lines.drop" sDrop f fd) (T : TL K mg C CR mc u) : FnOk P w K mg base CX0 1 f fd ["self", "line"] (spDrop C) := by
  refine F.ok scDrop (fun vs H Q E h => ?_) (fun cdv A outer s H vs Q E hr h => ?_)
  · obtain ⟨H0, p, m, v, d, dx, cells, es, n, rfl, _⟩ := h
    rfl
  · obtain ⟨H0, p, m, v, d, dx, cells, es, n, rfl, I, k⟩ := h
    refine ⟨_, pss_cons (ps_expr (pe_dpop2 (pe_fld (pv 0) rfl) (pv 1) pe_non ⟨rfl, rfl, rfl, rfl⟩)) (pss_one (ps_expr (pe_dpop2 (pe_fld (pv 0) rfl) (pv 1) pe_non ⟨rfl, rfl, rfl, rfl⟩))), ?_⟩
    refine ⟨_, rfl, p, C, dx, _, _, rfl, I.ob, T.cl, T.nV, flds_v _ _ _, v, rfl, .inl ⟨_, .inl I.vv⟩, _, rfl, _, Sum.inl n, I.vv, rfl, fun a ha => ?_, fun ha => ?_⟩
    · rw [drop_v]
      have pv_ : p ≠ v := ne_of I.ob I.vv (by intro z; cases z)
      have pd_ : p ≠ d := ne_of I.ob I.dd (by intro z; cases z)
      have mv_ : m ≠ v := ne_of I.mm I.vv (by intro z; cases z)
      have md_ : m ≠ d := ne_of I.mm I.dd (by intro z; cases z)
      have hf : ∃ e, fnd es n = some e := by
        rw [val_v] at ha
        cases q : fnd es n with
        | none => rw [q] at ha; cases ha
        | some e => exact ⟨e, rfl⟩
      obtain ⟨e, hf⟩ := hf
      have I2d : (upd H v (.dK (vK (delE es n)))) d = some (.dK (dB es)) := by rw [upd_ne I.vd.symm]; exact I.dd
      refine ⟨_, rfl, p, C, dx, _, _, rfl, (by rw [upd_ne pv_]; exact I.ob), T.cl, T.nD, flds_d _ _ _, d, rfl, .inl ⟨_, .inl I2d⟩, _, rfl, _, Sum.inl n, I2d, rfl, fun b hb => ?_, fun hb => ?_⟩
      · rw [drop_d]
        refine k _ ⟨?_, ?_, ?_, upd_same, fun a ha => ?_, ?_, ?_, I.fp, I.fv, I.fd, fun a ha => I.fe a (delE_mem.mp ha).1, fun c hc => ?_, I.m0, I.vd, I.cl, Nat.le_trans (List.Sublist.length_le (delE_sub es n)) I.el⟩ ((Fm.put I.fv).trans (Fm.put I.fd))
        · rw [upd_ne pd_, upd_ne pv_]; exact I.ob
        · rw [upd_ne md_, upd_ne mv_]; exact I.mm
        · rw [upd_ne I.vd, upd_same]
        · have hm := (delE_mem.mp ha).1
          have z1 : a.ad ≠ v := ne_of (I.en a hm) I.vv (by intro z; cases z)
          have z2 : a.ad ≠ d := ne_of (I.en a hm) I.dd (by intro z; cases z)
          rw [upd_ne z2, upd_ne z1]; exact I.en a hm
        · exact List.Sublist.nodup ((delE_sub es n).map _) I.nd
        · exact List.Sublist.nodup ((delE_sub es n).map _) I.na
        · have z1 : c ≠ v := fun z => hc (by rw [z]; exact I.fv)
          have z2 : c ≠ d := fun z => hc (by rw [z]; exact I.fd)
          rw [upd_ne z2, upd_ne z1]; exact I.st c hc
      · rw [val_d, hf] at hb
        cases hb
    · have hf : fnd es n = none := by
        rw [val_v] at ha
        cases q : fnd es n with
        | none => rfl
        | some e => rw [q] at ha; cases ha
      refine ⟨_, rfl, p, C, dx, _, _, rfl, I.ob, T.cl, T.nD, flds_d _ _ _, d, rfl, .inl ⟨_, .inl I.dd⟩, _, rfl, _, Sum.inl n, I.dd, rfl, fun b hb => ?_, fun hb => ?_⟩
      · rw [val_d, hf] at hb
        cases hb
      · refine k H ?_ Fm.refl
        rw [delE_none hf]
        exact I
theorem scEvict : FnScope ["self", "line"] ["self", "line"] (defScope sEvict) := ⟨rfl, rfl, rfl, by decide +kernel, rfl, by decide +kernel, by decide +kernel⟩
theorem ok_evict {f fC fD : Addr} {fd fdC fdD : FuncData} (F : Fun K "evict" "Lines.evict" sEvict f fd) (T : TL K mg C CR mc u) (GC : FnOk P w K mg base CX0 1 fC fdC ["self", "line"] (spClean C)) (bC : Binds K fdC ["self", "line"] []) (mC : Meth K C "clean" fC)
    (GD : FnOk P w K mg base CX0 1 fD fdD ["self", "line"] (spDrop C)) (bD : Binds K fdD ["self", "line"] []) (mD : Meth K C "drop" fD) : FnOk P w K mg base CX0 2 f fd ["self", "line"] (spEvict C) := by
  refine F.ok scEvict (fun vs H Q E h => ?_) (fun cdv A outer s H vs Q E hr h => ?_)
  · obtain ⟨H0, p, m, v, d, dx, cells, es, n, rfl, _⟩ := h
    rfl
  · obtain ⟨H0, p, m, v, d, dx, cells, es, n, rfl, I, n0, n1, k⟩ := h
    refine ⟨_, pss_cons (ps_expr (pe_meth (pv 0) T.cl mC GC hr bC .nil pass0 (pa_cons (pv 1) pa_nil))) (pss_one (ps_expr (pe_meth (pv 0) T.cl mD GD hr bD .nil pass0 (pa_cons (pv 1) pa_nil)))), ?_⟩
    have no : ∀ {x : Str}, ¬ x = "_dirty" → ¬ x = "_values" → ¬ x = "_memory" → (flds m v d).lookup x = none := fun h1 h2 h3 => flds_no _ _ _ h1 h2 h3
    refine ⟨_, rfl, p, dx, _, rfl, I.ob, no (by decide +kernel) (by decide +kernel) (by decide +kernel), _, rfl, H0, p, m, v, d, dx, cells, es, n, rfl, I, n0, n1, fun H1 I1 f1 => ?_⟩
    refine ⟨_, rfl, p, dx, _, rfl, I1.ob, no (by decide +kernel) (by decide +kernel) (by decide +kernel), _, rfl, H0, p, m, v, d, dx, _, _, n, rfl, I1, fun H2 I2 f2 => ?_⟩
    rw [del_cln] at I2
    exact k H2 I2 (f1.trans f2)
theorem scHeld : FnScope ["self"] ["self"] (defScope sHeld) := ⟨rfl, rfl, rfl, by decide +kernel, rfl, by decide +kernel, by decide +kernel⟩
theorem ok_held {f : Addr} {fd : FuncData} (F : Fun K "held" "Lines.held" sHeld f fd) (T : TL K mg C CR mc u) : FnOk P w K mg base CX0 1 f fd ["self"] (spHeld C) := by
  refine F.ok scHeld (fun vs H Q E h => ?_) (fun cdv A outer s H vs Q E hr h => ?_)
  · obtain ⟨H0, p, m, v, d, dx, cells, es, rfl, _⟩ := h
    rfl
  · obtain ⟨H0, p, m, v, d, dx, cells, es, rfl, I, k⟩ := h
    refine ⟨_, pss_one (ps_ret (pe_callTy call_tuple_of (by rfl) T.tup (by decide +kernel) (pa_cons (pe_callB (cr_sortedItems rfl) (by rfl) T.srt (by decide +kernel) (pa_cons (pe_bm0 PySem.F.plainAttrs_dict PySem.F.slot_dict_items PySem.F.type_dict_items mt_items (pe_fld (pv 0) rfl)) pa_nil)) pa_nil))), ?_⟩
    have eK : dB es = kvB (es.map fun e => (e.ln, e.dt)) := by
      unfold dB kvB
      rw [List.map_map]
      rfl
    refine ⟨_, rfl, p, C, dx, _, _, rfl, I.ob, T.cl, T.nD, flds_d _ _ _, .inr (.inr (.inl ⟨rfl, .inl ⟨_, I.dd⟩⟩)), d, _, rfl, rfl, I.dd, fun a ha => ?_⟩
    have da : d ≠ a := ne_of_none I.dd ha
    refine ⟨a, d, es.map fun e => (e.ln, e.dt), rfl, upd_same, by rw [upd_ne da, I.dd, eK], by rw [List.map_map]; exact I.nd, fun H1 q ts ks s1 q0 t0 hq hp ho hP => ?_⟩
    refine ⟨q, _, rfl, .inl ⟨SqL.of hq, fun l hl => ?_⟩⟩
    have s0 : Same H H1 := fun b o e => s1 b o (by rw [upd_ne (ne_of_none e ha)]; exact e)
    refine k ks ts l _ hp ho (fun b o e => ?_) (s0.free hl) upd_same (L2.Paired.mapP hP fun t x hx => ?_)
    · rw [upd_ne (ne_of_none (s0 b o e) hl)]
      exact s0 b o e
    · rw [upd_ne (ne_of_none hx hl)]
      exact hx
end
end Ln
namespace Ln
open PySem L2
/-! ### k08's mathematics: what the cache tells is what was written last -/
abbrev g0 (l : List Int) (i : Nat) : Int := l.getD i 0
structure Good (cells : List Int) (es : List Ent) (last : List Int) : Prop where
  len : cells.length = last.length
  rng : ∀ e ∈ es, 0 ≤ e.ln ∧ 2 * e.ln + 1 < cells.length
  nd : (es.map (·.ln)).Nodup
  has : ∀ e ∈ es, e.x = g0 last (2 * e.ln).toNat ∧ e.y = g0 last ((2 * e.ln).toNat + 1) ∧ (e.dt = false → g0 cells (2 * e.ln).toNat = e.x ∧ g0 cells ((2 * e.ln).toNat + 1) = e.y)
  non : ∀ n : Int, 0 ≤ n → 2 * n + 1 < cells.length → fnd es n = none → g0 cells (2 * n).toNat = g0 last (2 * n).toNat ∧ g0 cells ((2 * n).toNat + 1) = g0 last ((2 * n).toNat + 1)
theorem g0_set_ne {l : List Int} {i j : Nat} {v : Int} (h : i ≠ j) : g0 (l.set i v) j = g0 l j := by
  unfold g0
  rw [List.getD_eq_getElem?_getD, List.getD_eq_getElem?_getD, List.getElem?_set_ne h]
theorem g0_set_eq {l : List Int} {i : Nat} {v : Int} (h : i < l.length) : g0 (l.set i v) i = v := by
  unfold g0
  rw [List.getD_eq_getElem?_getD, List.getElem?_set_self h]
  rfl
theorem good_load {cells : List Int} {es es' : List Ent} {last : List Int} {n : Int} (G : Good cells es last) (n0 : 0 ≤ n) (n1 : 2 * n + 1 < cells.length) (h : LdR cells es n es') : Good cells es' last ∧ es'.length ≤ es.length + 1 := by
  rcases h with ⟨e, _, rfl⟩ | ⟨hf, a, rfl⟩
  · exact ⟨G, Nat.le_succ _⟩
  · refine ⟨⟨G.len, fun e he => ?_, ?_, fun e he => ?_, fun k k0 k1 hk => ?_⟩, by rw [List.length_append]; exact Nat.le_refl _⟩
    · rcases List.mem_append.mp he with he | he
      · exact G.rng e he
      · rw [List.mem_singleton.mp he]; exact ⟨n0, n1⟩
    · rw [List.map_append]
      refine snoc_nd G.nd fun z => ?_
      obtain ⟨e, he, q⟩ := List.mem_map.mp z
      exact fnd_no hf e he q
    · rcases List.mem_append.mp he with he | he
      · exact G.has e he
      · rw [List.mem_singleton.mp he]
        obtain ⟨q1, q2⟩ := G.non n n0 n1 hf
        exact ⟨q1, q2, fun _ => ⟨rfl, rfl⟩⟩
    · rw [fnd_snoc (e := ⟨n, a, _, _, false⟩) hf] at hk
      by_cases q : n = k
      · rw [if_pos q] at hk; cases hk
      · rw [if_neg q] at hk; exact G.non k k0 k1 hk
theorem cln_view {cells : List Int} {es : List Ent} {last : List Int} {n : Int} (G : Good cells es last) (n0 : 0 ≤ n) (n1 : 2 * n + 1 < cells.length) :
    (∀ i, (2 * n).toNat ≠ i → (2 * n).toNat + 1 ≠ i → g0 (clnC cells es n) i = g0 cells i) ∧ g0 (clnC cells es n) (2 * n).toNat = g0 last (2 * n).toNat ∧ g0 (clnC cells es n) ((2 * n).toNat + 1) = g0 last ((2 * n).toNat + 1) := by
  have key : ∀ o, fnd es n = o → (∀ i, (2 * n).toNat ≠ i → (2 * n).toNat + 1 ≠ i → g0 (clnC cells es n) i = g0 cells i) ∧ g0 (clnC cells es n) (2 * n).toNat = g0 last (2 * n).toNat ∧ g0 (clnC cells es n) ((2 * n).toNat + 1) = g0 last ((2 * n).toNat + 1) := by
    intro o hf
    unfold clnC
    rw [hf]
    cases o with
    | none =>
      obtain ⟨q1, q2⟩ := G.non n n0 n1 hf
      exact ⟨fun _ _ _ => rfl, q1, q2⟩
    | some e =>
      obtain ⟨em, en⟩ := fnd_mem hf
      obtain ⟨h1, h2, h3⟩ := G.has e em
      rw [en] at h1 h2 h3
      show (∀ i, _ → _ → g0 (if e.dt = true then _ else cells) i = g0 cells i) ∧ g0 (if e.dt = true then _ else cells) _ = _ ∧ g0 (if e.dt = true then _ else cells) _ = _
      cases hd : e.dt with
      | false =>
        rw [if_neg Bool.false_ne_true]
        obtain ⟨q1, q2⟩ := h3 hd
        exact ⟨fun _ _ _ => rfl, q1.trans h1, q2.trans h2⟩
      | true =>
        rw [if_pos rfl]
        refine ⟨fun i z1 z2 => by rw [g0_set_ne z2, g0_set_ne z1], ?_, ?_⟩
        · rw [g0_set_ne (by omega), g0_set_eq (by omega), h1]
        · rw [g0_set_eq (by rw [List.length_set]; omega), h2]
  exact key _ rfl
theorem fnd_cln (es : List Ent) (n k : Int) : fnd (clnE es n) k = (fnd es k).map fun e => if k = n then { e with dt := false } else e := fnd_set (f := fun e => { e with dt := false }) fun _ => rfl
theorem fnd_put (es : List Ent) (w z k : Int) : fnd (putE es w z) k = (fnd es k).map fun e => if k = w / 2 then { e with x := if w % 2 = 0 then z else e.x, y := if w % 2 = 0 then e.y else z, dt := true } else e :=
  fnd_set (f := fun e => { e with x := if w % 2 = 0 then z else e.x, y := if w % 2 = 0 then e.y else z, dt := true }) fun _ => rfl
theorem good_clean {cells : List Int} {es : List Ent} {last : List Int} {n : Int} (G : Good cells es last) (n0 : 0 ≤ n) (n1 : 2 * n + 1 < cells.length) : Good (clnC cells es n) (clnE es n) last := by
  obtain ⟨v1, v2, v3⟩ := cln_view G n0 n1
  refine ⟨(clnC_len cells es n).trans G.len, fun e he => ?_, by rw [clnE_ln]; exact G.nd, fun e he => ?_, fun k k0 k1 hk => ?_⟩
  · obtain ⟨b, hb, rfl⟩ := setE_mem he
    rw [clnC_len]
    by_cases q : b.ln = n
    · rw [if_pos q]; exact G.rng b hb
    · rw [if_neg q]; exact G.rng b hb
  · obtain ⟨b, hb, rfl⟩ := setE_mem he
    obtain ⟨h1, h2, h3⟩ := G.has b hb
    obtain ⟨r1, r2⟩ := G.rng b hb
    by_cases q : b.ln = n
    · rw [if_pos q]
      show b.x = g0 last (2 * b.ln).toNat ∧ b.y = g0 last ((2 * b.ln).toNat + 1) ∧ (false = false → g0 (clnC cells es n) (2 * b.ln).toNat = b.x ∧ g0 (clnC cells es n) ((2 * b.ln).toNat + 1) = b.y)
      refine ⟨h1, h2, fun _ => ?_⟩
      rw [h1, h2, q]
      exact ⟨v2, v3⟩
    · rw [if_neg q]
      refine ⟨h1, h2, fun hd => ?_⟩
      rw [v1 _ (by omega) (by omega), v1 _ (by omega) (by omega)]
      exact h3 hd
  · rw [clnC_len] at k1
    rw [fnd_cln] at hk
    have hk' : fnd es k = none := by
      cases q : fnd es k with
      | none => rfl
      | some e => rw [q] at hk; cases hk
    by_cases q : k = n
    · rw [q]; exact ⟨v2, v3⟩
    · rw [v1 _ (by omega) (by omega), v1 _ (by omega) (by omega)]
      exact G.non k k0 k1 hk'
theorem good_evict {cells : List Int} {es : List Ent} {last : List Int} {n : Int} (G : Good cells es last) (n0 : 0 ≤ n) (n1 : 2 * n + 1 < cells.length) : Good (clnC cells es n) (delE es n) last := by
  obtain ⟨v1, v2, v3⟩ := cln_view G n0 n1
  refine ⟨(clnC_len cells es n).trans G.len, fun e he => ?_, List.Sublist.nodup ((delE_sub es n).map _) G.nd, fun e he => ?_, fun k k0 k1 hk => ?_⟩
  · rw [clnC_len]
    exact G.rng e (delE_mem.mp he).1
  · obtain ⟨he, q⟩ := delE_mem.mp he
    obtain ⟨h1, h2, h3⟩ := G.has e he
    obtain ⟨r1, r2⟩ := G.rng e he
    refine ⟨h1, h2, fun hd => ?_⟩
    rw [v1 _ (by omega) (by omega), v1 _ (by omega) (by omega)]
    exact h3 hd
  · rw [clnC_len] at k1
    rw [fnd_del] at hk
    by_cases q : k = n
    · rw [q]; exact ⟨v2, v3⟩
    · rw [if_neg q] at hk
      rw [v1 _ (by omega) (by omega), v1 _ (by omega) (by omega)]
      exact G.non k k0 k1 hk
theorem good_write {cells : List Int} {es : List Ent} {last : List Int} {w z : Int} (G : Good cells es last) (w0 : 0 ≤ w) (w1 : w < cells.length) (hf : ∃ e, fnd es (w / 2) = some e) : Good cells (putE es w z) (last.set w.toNat z) := by
  have hl := G.len
  refine ⟨by rw [List.length_set]; exact G.len, fun e he => ?_, by rw [putE_ln]; exact G.nd, fun e he => ?_, fun k k0 k1 hk => ?_⟩
  · obtain ⟨b, hb, rfl⟩ := setE_mem he
    by_cases q : b.ln = w / 2
    · rw [if_pos q]; exact G.rng b hb
    · rw [if_neg q]; exact G.rng b hb
  · obtain ⟨b, hb, rfl⟩ := setE_mem he
    obtain ⟨h1, h2, h3⟩ := G.has b hb
    obtain ⟨r1, r2⟩ := G.rng b hb
    by_cases q : b.ln = w / 2
    · rw [if_pos q]
      show (if w % 2 = 0 then z else b.x) = g0 (last.set w.toNat z) (2 * b.ln).toNat ∧ (if w % 2 = 0 then b.y else z) = g0 (last.set w.toNat z) ((2 * b.ln).toNat + 1) ∧ (true = false → _)
      refine ⟨?_, ?_, fun h => by cases h⟩
      · by_cases p : w % 2 = 0
        · have e : (2 * b.ln).toNat = w.toNat := by omega
          rw [if_pos p, e, g0_set_eq (by omega)]
        · rw [if_neg p, g0_set_ne (by omega)]; exact h1
      · by_cases p : w % 2 = 0
        · rw [if_pos p, g0_set_ne (by omega)]; exact h2
        · have e : (2 * b.ln).toNat + 1 = w.toNat := by omega
          rw [if_neg p, e, g0_set_eq (by omega)]
    · rw [if_neg q, g0_set_ne (by omega), g0_set_ne (by omega)]
      exact ⟨h1, h2, h3⟩
  · rw [fnd_put] at hk
    have hk' : fnd es k = none := by
      cases q : fnd es k with
      | none => rfl
      | some e => rw [q] at hk; cases hk
    have q : k ≠ w / 2 := fun z => by
      obtain ⟨e, he⟩ := hf
      rw [z, he] at hk'
      cases hk'
    rw [g0_set_ne (by omega), g0_set_ne (by omega)]
    exact G.non k k0 k1 hk'
theorem good_read {cells : List Int} {es : List Ent} {last : List Int} {w : Int} {e : Ent} (G : Good cells es last) (w0 : 0 ≤ w) (hf : fnd es (w / 2) = some e) : (if w % 2 = 0 then e.x else e.y) = g0 last w.toNat := by
  obtain ⟨em, en⟩ := fnd_mem hf
  obtain ⟨h1, h2, _⟩ := G.has e em
  by_cases p : w % 2 = 0
  · have q : (2 * e.ln).toNat = w.toNat := by omega
    rw [if_pos p, h1, q]
  · have q : (2 * e.ln).toNat + 1 = w.toNat := by omega
    rw [if_neg p, h2, q]
theorem good_start {cells : List Int} : Good cells [] cells := ⟨rfl, fun e he => absurd he (by simp), List.nodup_nil, fun e he => absurd he (by simp), fun _ _ _ _ => ⟨rfl, rfl⟩⟩
/-- no line held: the memory has just the values written last -/
theorem good_end {cells last : List Int} {many : Nat} (G : Good cells [] last) (h : cells.length = 2 * many) : cells = last := by
  apply List.ext_getElem G.len
  intro i h1 h2
  obtain ⟨q1, q2⟩ := G.non ((i / 2 : Nat) : Int) (by omega) (by omega) rfl
  have key : g0 cells i = g0 last i := by
    rcases (show i % 2 = 0 ∨ i % 2 = 1 by omega) with p | p
    · have e : (2 * ((i / 2 : Nat) : Int)).toNat = i := by omega
      rw [e] at q1; exact q1
    · have e : (2 * ((i / 2 : Nat) : Int)).toNat + 1 = i := by omega
      rw [e] at q2; exact q2
  unfold g0 at key
  rw [List.getD_eq_getElem?_getD, List.getD_eq_getElem?_getD, List.getElem?_eq_getElem h1, List.getElem?_eq_getElem h2] at key
  exact key
/-! ### data -/
def dInts (xs : List Int) : PyData := .list (xs.map .int)
theorem canlay_ints : ∀ xs : List Int, PyData.canLayAll0 (xs.map .int) = true
  | [] => rfl
  | x :: xs => by
    rw [List.map_cons, PyData.canLayAll0, canlay_ints xs, PyData.canLay0]
    rfl
theorem depth_ints : ∀ xs : List Int, PyData.depthAll (xs.map .int) = 0
  | [] => rfl
  | x :: xs => by
    rw [List.map_cons, PyData.depthAll, depth_ints xs, PyData.depth]
    rfl
theorem shaped_ints (xs : List Int) : SeqAt.shaped (dInts xs) = true := by
  unfold SeqAt.shaped dInts
  rw [PyData.canLay0, canlay_ints, PyData.depth, depth_ints]
  rfl
theorem dpall_ints {K : PySem.W.Frag} {H : Hp} : ∀ xs : List Int, DpAll K H (xs.map V.int) (xs.map .int)
  | [] => .nil
  | x :: xs => .cons (.int x) (dpall_ints xs)
theorem dp_ints {K : PySem.W.Frag} {H : Hp} {a : Addr} {xs : List Int} (h : SqL K H a (xs.map V.int)) : Dp K H (.ref a) (dInts xs) := .lst h (dpall_ints xs)
theorem eqv_ints (xs : List Int) : PyData.eqv (dInts xs) (dInts xs) = true := SeqAt.eqv_refl _ (SeqAt.canLay_of_shaped (shaped_ints xs))
end Ln
namespace Ln
open PySem L2
abbrev sPut : Stmt := top 15
/-- what the walk asks of the built-ins -/
structure TB (mg : Str → Option Value) : Prop where
  len : mg "len" = none
  abs : mg "abs" = none
  range : mg "range" = none
  min : mg "min" = none
  max : mg "max" = none
  list : mg "list" = none
def spBag (K : PySem.W.Frag) : Sp := fun vs H Q _ => ∃ (a : Addr) (ns : List Int) (i : Int), vs = [.ref a, .int i] ∧ SqL K H a (ns.map V.int) ∧ ns.length ≤ 63 ∧ 0 ≤ i ∧ i ≤ 63 ∧
  ∀ (p : Addr) (H' : Hp), H p = none → BagAt H' p 0 → Off p H H' → Q (.ref p) H'
section
variable {P : Program} {w : World} {K : PySem.W.Frag} {mg : Str → Option Value} {base : Heap}
theorem scBag : FnScope ["_law_script", "_law_at", "_law_number", "_law_large"] ["_law_script", "_law_at"] (defScope sBag) := ⟨rfl, rfl, rfl, by decide +kernel, rfl, by decide +kernel, by decide +kernel⟩
theorem ok_bag {f : Addr} {fd : FuncData} (F : Fun K "_law_bag" "_law_bag" sBag f fd) (T : TB mg) : FnOk P w K mg base CX0 1 f fd ["_law_script", "_law_at"] (spBag K) := by
  refine F.ok scBag (fun vs H Q E h => ?_) (fun cdv A outer s H vs Q E hr h => ?_)
  · obtain ⟨a, ns, i, rfl, _⟩ := h
    rfl
  · obtain ⟨a, ns, i, rfl, hS, hl, i0, i1, k⟩ := h
    refine ⟨_, pss_cons (ps_set (i := 2) scBag.nd rfl (Or.inl rfl) (pe_ifExp (pt_cmpR op_lt (pv 1) (pe_callB call_len_seq (by rfl) T.len PySem.boot_len (pa_cons (pv 0) pa_nil)) (nomark _)) (pe_ix ix_list (pv 0) (pv 1) (fun _ _ => rfl)) pe_int))
      (pss_cons (ps_set (i := 3) scBag.nd rfl (Or.inl rfl) (pe_ifExp (pt_cmpR op_ge (pe_callB call_abs (by rfl) T.abs (by decide +kernel) (pa_cons (pv 2) pa_nil)) (pe_op op_pow pe_int pe_int) (nomark _)) (pe_callB call_abs (by rfl) T.abs (by decide +kernel) (pa_cons (pv 2) pa_nil)) pe_int))
      (pss_one (ps_ret (pe_lst (pa_cons (pv 3) (pa_cons (pe_op op_add (pe_op op_add (pe_op op_mul (pe_op op_modN (pv 2) (pe_op op_add (pe_op op_pow pe_int pe_int) pe_int)) pe_int) (pe_op op_mul pe_int (pv 1))) pe_int) (pa_cons pe_int pa_nil))))))), ?_⟩
    refine ⟨_, rfl, _, rfl, a, _, rfl, .inl hS, _, _, rfl, rfl, _, rfl, ?_⟩
    have hw : ∀ z : Int, 0 ≤ z.fmod (10 ^ 18 + 9) * 5 + 7793 * i + 613 ∧ z.fmod (10 ^ 18 + 9) * 5 + 7793 * i + 613 < 6 * 10 ^ 18 := fun z => by
      obtain ⟨q1, q2⟩ := fmod_in (a := z) (m := 10 ^ 18 + 9) (by decide)
      omega
    have ha : ∀ z : Int, 0 ≤ (if z < 0 then -z else z) := fun z => by
      by_cases q : z < 0
      · rw [if_pos q]; omega
      · rw [if_neg q]; omega
    refine ite2 (fun h1 => ?_) (fun h1 => ?_)
    · have h2 : i < ((ns.map V.int).length : Int) := of_decide_eq_true h1
      rw [List.length_map] at h2
      have hn : i.toNat < ns.length := by omega
      refine ⟨_, rfl, _, rfl, a, _, _, .int ns[i.toNat], rfl, rfl, hS, ?_, ?_⟩
      · refine at_of (j := i.toNat) (by omega) ?_
        rw [List.getElem?_map, List.getElem?_eq_getElem hn] <;> rfl
      refine ⟨_, rfl, _, rfl, _, _, rfl, rfl, ⟨by decide, by decide, by decide⟩, _, _, rfl, rfl, _, rfl, ?_⟩
      refine ite2 (fun h3 => ?_) (fun h3 => ?_)
      · refine ⟨_, rfl, _, rfl, ?_⟩
        refine ⟨_, rfl, _, rfl, _, _, rfl, rfl, ⟨by decide, by decide, by decide⟩, _, _, rfl, rfl, _, _, rfl, rfl, (by show (10 ^ Int.toNat 18 + 9 : Int) ≠ 0; decide), _, _, rfl, rfl, .inr ⟨by decide, by decide⟩, _, rfl, _, _, rfl, rfl, .inl ⟨by decide, by decide⟩, _, _, rfl, rfl, _, _, rfl, rfl, (by show 3 ≤ sizeLine; decide), fun p hp => ?_⟩
        exact k p _ hp ⟨_, _, 0, upd_same, ha _, (hw _).1, (hw _).2, Int.le_refl _, Int.le_refl _⟩ fun c hc => upd_ne hc
      · refine ⟨_, rfl, _, rfl, _, _, rfl, rfl, ⟨by decide, by decide, by decide⟩, _, _, rfl, rfl, _, _, rfl, rfl, (by show (10 ^ Int.toNat 18 + 9 : Int) ≠ 0; decide), _, _, rfl, rfl, .inr ⟨by decide, by decide⟩, _, rfl, _, _, rfl, rfl, .inl ⟨by decide, by decide⟩, _, _, rfl, rfl, _, _, rfl, rfl, (by show 3 ≤ sizeLine; decide), fun p hp => ?_⟩
        exact k p _ hp ⟨_, _, 0, upd_same, Int.le_refl _, (hw _).1, (hw _).2, Int.le_refl _, Int.le_refl _⟩ fun c hc => upd_ne hc
    · refine ⟨_, rfl, _, rfl, _, _, rfl, rfl, ⟨by decide, by decide, by decide⟩, _, _, rfl, rfl, _, rfl, ?_⟩
      refine ite2 (fun h3 => ?_) (fun h3 => ?_)
      · refine ⟨_, rfl, _, rfl, ?_⟩
        refine ⟨_, rfl, _, rfl, _, _, rfl, rfl, ⟨by decide, by decide, by decide⟩, _, _, rfl, rfl, _, _, rfl, rfl, (by show (10 ^ Int.toNat 18 + 9 : Int) ≠ 0; decide), _, _, rfl, rfl, .inr ⟨by decide, by decide⟩, _, rfl, _, _, rfl, rfl, .inl ⟨by decide, by decide⟩, _, _, rfl, rfl, _, _, rfl, rfl, (by show 3 ≤ sizeLine; decide), fun p hp => ?_⟩
        exact k p _ hp ⟨_, _, 0, upd_same, ha _, (hw _).1, (hw _).2, Int.le_refl _, Int.le_refl _⟩ fun c hc => upd_ne hc
      · refine ⟨_, rfl, _, rfl, _, _, rfl, rfl, ⟨by decide, by decide, by decide⟩, _, _, rfl, rfl, _, _, rfl, rfl, (by show (10 ^ Int.toNat 18 + 9 : Int) ≠ 0; decide), _, _, rfl, rfl, .inr ⟨by decide, by decide⟩, _, rfl, _, _, rfl, rfl, .inl ⟨by decide, by decide⟩, _, _, rfl, rfl, _, _, rfl, rfl, (by show 3 ≤ sizeLine; decide), fun p hp => ?_⟩
        exact k p _ hp ⟨_, _, 0, upd_same, Int.le_refl _, (hw _).1, (hw _).2, Int.le_refl _, Int.le_refl _⟩ fun c hc => upd_ne hc
end
end Ln
namespace Ln
open PySem L2
/-- the whole state of k08 between two deeds; Hs: the heap in which the caller stood -/
structure St8 (C : Addr) (H0 Hs H : Hp) (p m v d dx b l : Addr) (many N : Nat) (cells : List Int) (es : List Ent) (last : List Int) : Prop where
  ca : CA C H0 H p m v d dx cells es
  gd : Good cells es last
  cl : cells.length = 2 * many
  bg : BagAt H b N
  b0 : H0 b ≠ none
  bm : b ≠ m
  ll : H l = some (.lst (last.map V.int))
  l0 : H0 l ≠ none
  lm : l ≠ m
  lb : l ≠ b
  fr : ∀ c, H0 c ≠ none → c ≠ m → c ≠ b → c ≠ l → H c = Hs c
theorem BagAt.mono {H : Hp} {b : Addr} {N M : Nat} (h : BagAt H b N) (q : N ≤ M) : BagAt H b M := by
  obtain ⟨l, x, c, e, h1, h2, h3, h4, h5⟩ := h
  exact ⟨l, x, c, e, h1, h2, h3, h4, by omega⟩
theorem BagAt.some {H : Hp} {b : Addr} {N : Nat} (h : BagAt H b N) : H b ≠ none := by
  obtain ⟨l, x, c, e, _⟩ := h
  rw [e]
  simp
theorem BagAt.keep {H H' : Hp} {b : Addr} {N : Nat} (h : BagAt H b N) (e : H' b = H b) : BagAt H' b N := by
  obtain ⟨l, x, c, q, h1⟩ := h
  exact ⟨l, x, c, e.trans q, h1⟩
section
variable {C : Addr} {H0 Hs H H' : Hp} {p m v d dx b l : Addr} {many N : Nat} {cells cells' : List Int} {es es' : List Ent} {last : List Int}
theorem St8.mono {M : Nat} (S : St8 C H0 Hs H p m v d dx b l many N cells es last) (q : N ≤ M) : St8 C H0 Hs H p m v d dx b l many M cells es last :=
  ⟨S.ca, S.gd, S.cl, S.bg.mono q, S.b0, S.bm, S.ll, S.l0, S.lm, S.lb, S.fr⟩
theorem St8.take (S : St8 C H0 Hs H p m v d dx b l many N cells es last) (h : BagAt H' b (N + 1)) (o : Off b H H') : St8 C H0 Hs H' p m v d dx b l many (N + 1) cells es last :=
  ⟨S.ca.frame S.b0 S.bm o h.some, S.gd, S.cl, h, S.b0, S.bm, (o l S.lb).trans S.ll, S.l0, S.lm, S.lb, fun c c0 cm cb cl => (o c cb).trans (S.fr c c0 cm cb cl)⟩
theorem St8.deed (S : St8 C H0 Hs H p m v d dx b l many N cells es last) (h : CA C H0 H' p m v d dx cells' es') (f : Fm H0 m H H') (g : Good cells' es' last) (e : cells'.length = cells.length) : St8 C H0 Hs H' p m v d dx b l many N cells' es' last :=
  ⟨h, g, e.trans S.cl, S.bg.keep (f b S.b0 S.bm), S.b0, S.bm, (f l S.l0 S.lm).trans S.ll, S.l0, S.lm, S.lb, fun c c0 cm cb cl => (f c c0 cm).trans (S.fr c c0 cm cb cl)⟩
end
def spPut (C : Addr) : Sp := fun vs H Q _ => ∃ (H0 Hs : Hp) (p m v d dx b l : Addr) (many N : Nat) (cells : List Int) (es : List Ent) (last : List Int), vs = [.ref b, .ref p, .int many] ∧ St8 C H0 Hs H p m v d dx b l many N cells es last ∧ 1 ≤ many ∧ many ≤ 1000 ∧ N < 100000 ∧ es.length < 800 ∧
  ∀ (cells' : List Int) (es' : List Ent) (H' : Hp), St8 C H0 Hs H' p m v d dx b l many (N + 5) cells' es' last → es'.length ≤ es.length + 2 → Q .non H'
/-- where the defs of the law stand -/
structure Def (K : PySem.W.Frag) (mg : Str → Option Value) (x : Str) (f : Addr) (fd : FuncData) (ps : List Str) : Prop where
  at_ : mg x = some (.ref f)
  kp : PySem.W.keepIn K (.ref f) = true
  bd : Binds K fd ps []
/-- a method of the class, its promise -/
structure Mth (P : Program) (w : World) (K : PySem.W.Frag) (mg : Str → Option Value) (base : Heap) (C : Addr) (k : Nat) (x : Str) (ps : List Str) (sp : Sp) (f : Addr) (fd : FuncData) : Prop where
  ok : FnOk P w K mg base CX0 k f fd ps sp
  bd : Binds K fd ps []
  at_ : Meth K C x f
section
variable {P : Program} {w : World} {K : PySem.W.Frag} {mg : Str → Option Value} {base : Heap} {C CR : Addr} {mc u : Value}
theorem scPut : FnScope ["_law_bag_here", "_law_cache", "_law_many", "_law_turn", "_law_line", "_law_way"] ["_law_bag_here", "_law_cache", "_law_many"] (defScope sPut) := ⟨rfl, rfl, rfl, by decide +kernel, rfl, by decide +kernel, by decide +kernel⟩
theorem ok_put {f fT fL fC fD fE : Addr} {fd fdT fdL fdC fdD fdE : FuncData} (F : Fun K "_law_put_in" "_law_put_in" sPut f fd) (T : TL K mg C CR mc u) (B : TB mg) (FT : Fun K "_law_take" "_law_take" sTake fT fdT) (DT : Def K mg "_law_take" fT fdT ["_law_bag_here", "_law_many"])
    (ML : Mth P w K mg base C 1 "load" ["self", "line"] (spLoad C) fL fdL) (MC : Mth P w K mg base C 1 "clean" ["self", "line"] (spClean C) fC fdC) (MD : Mth P w K mg base C 1 "drop" ["self", "line"] (spDrop C) fD fdD) (ME : Mth P w K mg base C 2 "evict" ["self", "line"] (spEvict C) fE fdE) :
    FnOk P w K mg base CX0 3 f fd ["_law_bag_here", "_law_cache", "_law_many"] (spPut C) := by
  have GT : FnOk P w K mg base CX0 1 fT fdT ["_law_bag_here", "_law_many"] spTake := ok_take FT
  refine F.ok scPut (fun vs H Q E h => ?_) (fun cdv A outer s H vs Q E hr h => ?_)
  · obtain ⟨H0, Hs, p, m, v, d, dx, b, l, many, N, cells, es, last, rfl, _⟩ := h
    rfl
  · obtain ⟨H0, Hs, p, m, v, d, dx, b, l, many, N, cells, es, last, rfl, S, m1, m2, hN, hl, k⟩ := h
    have hr1 : Room 1 _ := hr.mono (by decide)
    refine ⟨_, pss_one (ps_for PassesOwn.never rfl (pi_range1 (by rfl) B.range (pa_cons (pe_call GT hr1 (by rfl) DT.at_ DT.kp DT.bd .nil pass0 (pa_cons (pv 0) (pa_cons pe_int pa_nil))) pa_nil)) (pg_name (i := 3) scPut.nd rfl (Or.inl rfl))
      (pss_cons (ps_par (i := 4) (j := 5) rfl scPut.nd rfl rfl (by decide) rfl rfl (pa_cons (pe_call GT hr1 (by rfl) DT.at_ DT.kp DT.bd .nil pass0 (pa_cons (pv 0) (pa_cons (pv 2) pa_nil))) (pa_cons (pe_call GT hr1 (by rfl) DT.at_ DT.kp DT.bd .nil pass0 (pa_cons (pv 0) (pa_cons pe_int pa_nil))) pa_nil)) (by rfl))
      (pss_one (ps_if (pt_cmpR op_eq (pv 5) pe_int (nomark _)) (pss_one (ps_expr (pe_meth (pv 1) T.cl ML.at_ ML.ok hr1 ML.bd .nil pass0 (pa_cons (pv 4) pa_nil))))
        (pss_one (ps_if (pt_cmpR op_eq (pv 5) pe_int (nomark _)) (pss_one (ps_expr (pe_meth (pv 1) T.cl MC.at_ MC.ok hr1 MC.bd .nil pass0 (pa_cons (pv 4) pa_nil))))
          (pss_one (ps_if (pt_cmpR op_eq (pv 5) pe_int (nomark _)) (pss_one (ps_expr (pe_meth (pv 1) T.cl ME.at_ ME.ok hr ME.bd .nil pass0 (pa_cons (pv 4) pa_nil))))
            (pss_cons (ps_expr (pe_meth (pv 1) T.cl MC.at_ MC.ok hr1 MC.bd .nil pass0 (pa_cons (pv 4) pa_nil))) (pss_one (ps_expr (pe_meth (pv 1) T.cl MD.at_ MD.ok hr1 MD.bd .nil pass0 (pa_cons (pv 4) pa_nil))))))))))))), ?_⟩
    refine ⟨_, rfl, b, 3, N, rfl, by decide, by decide, S.bg, by omega, fun r H1 r0 r3 b1 o1 => ?_⟩
    have S1 := S.take b1 o1
    refine ⟨r, rfl, by omega, by omega, for_range (lo := 0) (n := r.toNat) (fun i σ H2 => ∃ (v3 v4 v5 : Option V) (cells' : List Int) (es' : List Ent), σ = [some (.ref b), some (.ref p), some (.int many), v3, v4, v5] ∧ St8 C H0 Hs H2 p m v d dx b l many (N + 1 + 2 * i) cells' es' last ∧ es'.length ≤ es.length + i)
      ⟨none, none, none, cells, es, rfl, S1, Nat.le_refl _⟩ ?_ ?_⟩
    · rintro i σ H2 hi ⟨v3, v4, v5, cells', es', rfl, S2, hl2⟩
      refine ⟨_, rfl, _, rfl, b, many, N + 1 + 2 * i, rfl, by omega, by omega, S2.bg, by omega, fun n H3 n0 n1 b3 o3 => ?_⟩
      have S3 := S2.take b3 o3
      refine ⟨_, rfl, b, 4, _, rfl, by decide, by decide, S3.bg, by omega, fun y H4 y0 y1 b4 o4 => ?_⟩
      have S4 := S3.take b4 o4
      have eN : N + 1 + 2 * i + 1 + 1 = N + 1 + 2 * (i + 1) := by omega
      rw [eN] at S4
      have hn : 2 * n + 1 < cells'.length := by have q := S4.cl; omega
      have no : ∀ {x : Str}, ¬ x = "_dirty" → ¬ x = "_values" → ¬ x = "_memory" → (flds m v d).lookup x = none := fun h1 h2 h3 => flds_no _ _ _ h1 h2 h3
      refine ⟨_, _, rfl, ?_⟩
      refine ⟨_, rfl, rfl, _, rfl, ?_⟩
      refine ite2 (fun _ => ?_) (fun _ => ?_)
      · refine ⟨_, rfl, p, dx, _, rfl, S4.ca.ob, no (by decide +kernel) (by decide +kernel) (by decide +kernel), _, rfl, H0, p, m, v, d, dx, cells', es', n, rfl, S4.ca, n0, hn, by omega, fun es5 H5 ld I5 f5 => ?_⟩
        obtain ⟨g5, l5⟩ := good_load S4.gd n0 hn ld
        exact ⟨_, _, _, cells', es5, rfl, S4.deed I5 f5 g5 rfl, by omega⟩
      refine ⟨_, rfl, rfl, _, rfl, ?_⟩
      refine ite2 (fun _ => ?_) (fun _ => ?_)
      · refine ⟨_, rfl, p, dx, _, rfl, S4.ca.ob, no (by decide +kernel) (by decide +kernel) (by decide +kernel), _, rfl, H0, p, m, v, d, dx, cells', es', n, rfl, S4.ca, n0, hn, fun H5 I5 f5 => ?_⟩
        refine ⟨_, _, _, _, _, rfl, S4.deed I5 f5 (good_clean S4.gd n0 hn) (clnC_len _ _ _), ?_⟩
        unfold clnE
        rw [setE_len]
        omega
      refine ⟨_, rfl, rfl, _, rfl, ?_⟩
      refine ite2 (fun _ => ?_) (fun _ => ?_)
      · refine ⟨_, rfl, p, dx, _, rfl, S4.ca.ob, no (by decide +kernel) (by decide +kernel) (by decide +kernel), _, rfl, H0, p, m, v, d, dx, cells', es', n, rfl, S4.ca, n0, hn, fun H5 I5 f5 => ?_⟩
        exact ⟨_, _, _, _, _, rfl, S4.deed I5 f5 (good_evict S4.gd n0 hn) (clnC_len _ _ _), Nat.le_trans (List.Sublist.length_le (delE_sub _ _)) (by omega)⟩
      · refine ⟨_, rfl, p, dx, _, rfl, S4.ca.ob, no (by decide +kernel) (by decide +kernel) (by decide +kernel), _, rfl, H0, p, m, v, d, dx, cells', es', n, rfl, S4.ca, n0, hn, fun H5 I5 f5 => ?_⟩
        refine ⟨_, rfl, p, dx, _, rfl, I5.ob, no (by decide +kernel) (by decide +kernel) (by decide +kernel), _, rfl, H0, p, m, v, d, dx, _, _, n, rfl, I5, fun H6 I6 f6 => ?_⟩
        rw [del_cln] at I6
        exact ⟨_, _, _, _, _, rfl, S4.deed I6 (f5.trans f6) (good_evict S4.gd n0 hn) (clnC_len _ _ _), Nat.le_trans (List.Sublist.length_le (delE_sub _ _)) (by omega)⟩
    · rintro σ H2 ⟨v3, v4, v5, cells', es', rfl, S2, hl2⟩
      exact k cells' es' H2 (S2.mono (by omega)) (by omega)
end
end Ln
namespace Ln
open PySem L2
abbrev sPlain : Stmt := top 16
theorem Same.put {H : Hp} {p : Addr} {o : HO} (h : H p = none) : Same H (upd H p o) := fun b u e => by rw [upd_ne (ne_of_none e h)]; exact e
section
variable {C : Addr} {H0 Hs H H' : Hp} {p m v d dx b l : Addr} {many N : Nat} {cells cells' : List Int} {es es' : List Ent} {last : List Int}
theorem St8.same (S : St8 C H0 Hs H p m v d dx b l many N cells es last) (k : Same H H') : St8 C H0 Hs H' p m v d dx b l many N cells es last := by
  refine ⟨S.ca.same k, S.gd, S.cl, ?_, S.b0, S.bm, k _ _ S.ll, S.l0, S.lm, S.lb, fun c c0 cm cb cl => ?_⟩
  · obtain ⟨x, y, z, e, r⟩ := S.bg
    exact ⟨x, y, z, k _ _ e, r⟩
  · rw [← S.fr c c0 cm cb cl]
    cases q : H c with
    | none => exact absurd q (S.ca.st c c0)
    | some o => exact k _ _ q
theorem St8.last' {w z : Int} (S : St8 C H0 Hs H p m v d dx b l many N cells es last) (h : CA C H0 H' p m v d dx cells (putE es' w z)) (f : Fm H0 m H H') (ld : LdR cells es (w / 2) es') (w0 : 0 ≤ w) (w1 : w < cells.length) :
    St8 C H0 Hs (upd H' l (.lst ((last.set w.toNat z).map V.int))) p m v d dx b l many N cells (putE es' w z) (last.set w.toNat z) := by
  have g1 := (good_load S.gd (n := w / 2) (by omega) (by have q := S.cl; omega) ld).1
  refine ⟨h.frame S.l0 S.lm (fun c hc => upd_ne hc) (by rw [upd_same]; simp), good_write g1 w0 w1 (ldr_has ld), S.cl, S.bg.keep ?_, S.b0, S.bm, upd_same, S.l0, S.lm, S.lb, fun c c0 cm cb cl => ?_⟩
  · rw [upd_ne S.lb.symm]; exact f b S.b0 S.bm
  · rw [upd_ne cl, f c c0 cm]; exact S.fr c c0 cm cb cl
end
def spPlain : Sp := fun vs H Q _ => ∃ (b m l : Addr) (many N : Nat) (cells : List Int), vs = [.ref b, .ref m, .ref l, .int many] ∧ BagAt H b N ∧ H m = some (.lst (cells.map V.int)) ∧ H l = some (.lst (cells.map V.int)) ∧ b ≠ m ∧ l ≠ m ∧ l ≠ b ∧ cells.length = 2 * many ∧ 1 ≤ many ∧ many ≤ 100 ∧ N < 50000 ∧
  ∀ H' : Hp, BagAt H' b (N + 300) → (∀ c, H c ≠ none → c ≠ m → c ≠ b → c ≠ l → H' c = H c) → Q (.bl true) H'
theorem ixN_at {n : Nat} {i : Int} (h0 : 0 ≤ i) (h1 : i < n) : ixN n i = some i.toNat := by
  unfold ixN
  rw [if_pos h0, if_pos h1]
theorem eqv_self {d : PyData} (h : SeqAt.shaped d = true) : PyData.eqv d d = true := SeqAt.eqv_refl _ (SeqAt.canLay_of_shaped h)
theorem held_nil {H' : Hp} {q : Addr} {ks : List (Int × Bool)} {ts : List Addr} (h1 : ks.Perm (([] : List Ent).map fun e => (e.ln, e.dt))) (h2 : H' q = some (.tup (ts.map V.ref))) (h3 : Paired (fun (t : Addr) (q : Int × Bool) => H' t = some (.tup [.int q.1, .bl q.2])) ts ks) : H' q = some (.tup []) := by
  have e : ks = [] := List.Perm.eq_nil h1
  subst e
  cases h3
  exact h2
theorem held_one {H' : Hp} {q : Addr} {e : Ent} {ks : List (Int × Bool)} {ts : List Addr} (h1 : ks.Perm ([e].map fun e => (e.ln, e.dt))) (h2 : H' q = some (.tup (ts.map V.ref))) (h3 : Paired (fun (t : Addr) (q : Int × Bool) => H' t = some (.tup [.int q.1, .bl q.2])) ts ks) :
    ∃ t, H' q = some (.tup [.ref t]) ∧ H' t = some (.tup [.int e.ln, .bl e.dt]) := by
  have z : ks = [(e.ln, e.dt)] := List.perm_singleton.mp h1
  subst z
  cases h3 with
  | cons a b =>
    cases b
    exact ⟨_, h2, a⟩
theorem del_put_nil {cells : List Int} {es1 : List Ent} {w z : Int} (h : LdR cells [] (w / 2) es1) : delE (putE es1 w z) (w / 2) = [] := by
  rcases h with ⟨e, h, _⟩ | ⟨_, a, rfl⟩
  · cases h
  · unfold delE
    refine List.filter_eq_nil_iff.mpr fun e he => ?_
    obtain ⟨b, hb, rfl⟩ := setE_mem he
    rw [List.nil_append] at hb
    rw [List.mem_singleton.mp hb, if_pos rfl]
    simp
/-- where the object's class stands, with all that the law asks of it -/
structure Hd (P : Program) (w : World) (K : PySem.W.Frag) (mg : Str → Option Value) (base : Heap) (C : Addr) (pp f : Addr) (fd : FuncData) : Prop where
  ok : FnOk P w K mg base CX0 1 f fd ["self"] (spHeld C)
  bd : Binds K fd ["self"] []
  pr : PropOf K C "held" pp f
section
variable {P : Program} {w : World} {K : PySem.W.Frag} {mg : Str → Option Value} {base : Heap} {C CR : Addr} {mc u : Value}
theorem scPlain : FnScope ["_law_bag_here", "_law_cells", "_law_last", "_law_many", "_law_cache", "_law_turn", "_law_word", "_law_line"] ["_law_bag_here", "_law_cells", "_law_last", "_law_many"] (defScope sPlain) := ⟨rfl, rfl, rfl, by decide +kernel, rfl, by decide +kernel, by decide +kernel⟩
theorem ok_plain {f fT fP fI fR fW fD fE fH pp : Addr} {fd fdT fdP fdI fdR fdW fdD fdE fdH : FuncData} (F : Fun K "_law_is_plain" "_law_is_plain" sPlain f fd) (T : TL K mg C CR mc u) (B : TB mg) (FT : Fun K "_law_take" "_law_take" sTake fT fdT) (DT : Def K mg "_law_take" fT fdT ["_law_bag_here", "_law_many"])
    (GP : FnOk P w K mg base CX0 3 fP fdP ["_law_bag_here", "_law_cache", "_law_many"] (spPut C)) (DP : Def K mg "_law_put_in" fP fdP ["_law_bag_here", "_law_cache", "_law_many"]) (M : Mk K C fI) (GI : FnOk P w K mg base CX0 1 fI fdI ["self", "words"] (spInit C)) (bI : Binds K fdI ["self", "words"] [])
    (MR : Mth P w K mg base C 2 "read" ["self", "word"] (spRead C) fR fdR) (MW : Mth P w K mg base C 2 "write" ["self", "word", "value"] (spWrite C) fW fdW) (MD : Mth P w K mg base C 1 "drop" ["self", "line"] (spDrop C) fD fdD) (ME : Mth P w K mg base C 2 "evict" ["self", "line"] (spEvict C) fE fdE)
    (HD : Hd P w K mg base C pp fH fdH) : FnOk P w K mg base CX0 4 f fd ["_law_bag_here", "_law_cells", "_law_last", "_law_many"] spPlain := by
  have GT : FnOk P w K mg base CX0 1 fT fdT ["_law_bag_here", "_law_many"] spTake := ok_take FT
  refine F.ok scPlain (fun vs H Q E h => ?_) (fun cdv A outer s H vs Q E hr h => ?_)
  · obtain ⟨b, m, l, many, N, cells, rfl, _⟩ := h
    rfl
  · obtain ⟨b, m, l, many, N, cells, rfl, hb, hm, hL, bm, lm, lb, hc, m1, m2, hN, k⟩ := h
    have hr1 : Room 1 _ := hr.mono (by decide)
    have hr2 : Room 2 _ := hr.mono (by decide)
    refine ⟨_, pss_cons (ps_set (i := 4) scPlain.nd rfl (Or.inl rfl) (pe_make M GI hr2 (by rfl) T.mgC bI .nil pass0 (pa_cons (pv 1) pa_nil)))
      (pss_cons (ps_for PassesOwn.never rfl (pi_range1 (by rfl) B.range (pa_cons pe_int pa_nil)) (pg_name (i := 5) scPlain.nd rfl (Or.inl rfl))
        (pss_cons (ps_expr (pe_call GP hr (by rfl) DP.at_ DP.kp DP.bd .nil pass0 (pa_cons (pv 0) (pa_cons (pv 4) (pa_cons (pv 3) pa_nil)))))
        (pss_cons (ps_set (i := 6) scPlain.nd rfl (Or.inl rfl) (pe_call GT hr1 (by rfl) DT.at_ DT.kp DT.bd .nil pass0 (pa_cons (pv 0) (pa_cons (pe_op op_mul pe_int (pv 3)) pa_nil))))
        (pss_one (ps_if (pt_cmpR op_eq (pe_call GT hr1 (by rfl) DT.at_ DT.kp DT.bd .nil pass0 (pa_cons (pv 0) (pa_cons pe_int pa_nil))) pe_int (nomark _))
          (pss_cons (ps_expr (pe_meth (pv 4) T.cl MW.at_ MW.ok hr2 MW.bd .nil pass0 (pa_cons (pv 6) (pa_cons (pe_op op_add (pv 5) pe_int) pa_nil)))) (pss_one (ps_asg (pe_op op_add (pv 5) pe_int) (pg_sub (pv 2) (pv 6) set_list))))
          (pss_one (ps_if (pt_cmpR op_ne (pe_meth (pv 4) T.cl MR.at_ MR.ok hr2 MR.bd .nil pass0 (pa_cons (pv 6) pa_nil)) (pe_ix ix_list (pv 2) (pv 6) (fun _ _ => rfl)) (nomark _)) (pss_one (ps_ret pe_bl)) pss_nil)))))))
      (pss_cons (ps_for PassesOwn.never rfl (pi_range1 (by rfl) B.range (pa_cons (pv 3) pa_nil)) (pg_name (i := 7) scPlain.nd rfl (Or.inl rfl))
        (pss_one (ps_expr (pe_meth (pv 4) T.cl ME.at_ ME.ok hr2 ME.bd .nil pass0 (pa_cons (pv 7) pa_nil)))))
      (pss_cons (ps_if (PW.pt (pw_or (pt_cmpR (op_neD hr.units) (pe_prop (pv 4) T.cl HD.pr HD.ok hr2 HD.bd .nil pass0 rfl) (pe_tup pa_nil) (nomark _)) (pw_or1 (pt_cmpR (op_neD hr.units) (pv 1) (pv 2) (nomark _))))) (pss_one (ps_ret pe_bl)) pss_nil)
      (pss_cons (ps_set (i := 6) scPlain.nd rfl (Or.inl rfl) (pe_call GT hr1 (by rfl) DT.at_ DT.kp DT.bd .nil pass0 (pa_cons (pv 0) (pa_cons (pe_op op_mul pe_int (pv 3)) pa_nil))))
      (pss_cons (ps_expr (pe_meth (pv 4) T.cl MW.at_ MW.ok hr2 MW.bd .nil pass0 (pa_cons (pv 6) (pa_cons (pe_un un_neg pe_int) pa_nil))))
      (pss_cons (ps_expr (pe_meth (pv 4) T.cl MD.at_ MD.ok hr1 MD.bd .nil pass0 (pa_cons (pe_op op_fdiv (pv 6) pe_int) pa_nil)))
      (pss_one (ps_ret (pe_and (pe_cmpR (op_eqD hr.units) (pv 1) (pv 2) (nomark _)) (pe_and (pe_cmpR op_eq (pe_meth (pv 4) T.cl MR.at_ MR.ok hr2 MR.bd .nil pass0 (pa_cons (pv 6) pa_nil)) (pe_ix ix_list (pv 2) (pv 6) (fun _ _ => rfl)) (nomark _))
        (pe_one (pe_cmpR (op_eqD hr.units) (pe_prop (pv 4) T.cl HD.pr HD.ok hr2 HD.bd .nil pass0 rfl) (pe_tup (pa_cons (pe_tup (pa_cons (pe_op op_fdiv (pv 6) pe_int) (pa_cons pe_bl pa_nil))) pa_nil)) (nomark _))))))))))))), ?_⟩
    -- _law_cache = Lines(_law_cells)
    refine ⟨_, rfl, fun p dx np ndx nex => ?_⟩
    refine ⟨H, p, m, dx, cells, rfl, rfl, np, ndx, nex, hm, by omega, fun v d H1 I1 e1 => ⟨rfl, ?_⟩⟩
    have b0 : H b ≠ none := hb.some
    have l0 : H l ≠ none := by rw [hL]; simp
    have S1 : St8 C H H H1 p m v d dx b l many N cells [] cells := ⟨I1, good_start, hc, hb.keep (e1 b b0), b0, bm, (e1 l l0).trans hL, l0, lm, lb, fun c c0 _ _ _ => e1 c c0⟩
    have no : ∀ {x : Str}, ¬ x = "_dirty" → ¬ x = "_values" → ¬ x = "_memory" → (flds m v d).lookup x = none := fun h1 h2 h3 => flds_no _ _ _ h1 h2 h3
    clear I1 e1
    -- for _law_turn in range(40)
    refine ⟨40, rfl, by decide, by decide, for_range (lo := 0) (n := 40) (fun i σ H2 => ∃ (v5 v6 v7 : Option V) (cells' : List Int) (es' : List Ent) (last' : List Int), σ = [some (.ref b), some (.ref m), some (.ref l), some (.int many), some (.ref p), v5, v6, v7] ∧ St8 C H H H2 p m v d dx b l many (N + 7 * i) cells' es' last' ∧ es'.length ≤ 3 * i)
      ⟨none, none, none, cells, [], cells, rfl, S1, Nat.le_refl _⟩ ?_ ?_⟩
    · rintro i σ H2 hi ⟨v5, v6, v7, c2, s2, t2, rfl, S2, l2⟩
      refine ⟨_, rfl, _, rfl, _, rfl, H, H, p, m, v, d, dx, b, l, many, N + 7 * i, c2, s2, t2, rfl, S2, m1, by omega, by omega, by omega, fun c3 s3 H3 S3 l3 => ?_⟩
      refine ⟨_, rfl, _, rfl, _, _, rfl, rfl, .inl ⟨by decide, by decide⟩, b, _, _, rfl, by omega, by omega, S3.bg, by omega, fun w H4 w0 w1 b4 o4 => ?_⟩
      have S4 := S3.take b4 o4
      have hw : w < c3.length := by have q := S4.cl; omega
      refine ⟨_, rfl, b, 2, _, rfl, by decide, by decide, S4.bg, by omega, fun r H5 r0 r1 b5 o5 => ⟨rfl, _, rfl, ?_⟩⟩
      have S5 := S4.take b5 o5
      have eN : N + 7 * i + 5 + 1 + 1 = N + 7 * (i + 1) := by omega
      rw [eN] at S5
      refine ite2 (fun _ => ?_) (fun _ => ?_)
      · refine ⟨_, rfl, p, dx, _, rfl, S5.ca.ob, no (by decide +kernel) (by decide +kernel) (by decide +kernel), _, rfl, _, rfl, _, _, rfl, rfl, H, p, m, v, d, dx, c3, s3, w, _, rfl, S5.ca, w0, by have q := S5.cl; omega, by omega, fun s6 H6 ld I6 f6 => ?_⟩
        have hl6 : (t2.map V.int).length = c3.length := by rw [List.length_map]; exact S5.gd.len.symm
        have el : H6 l = some (.lst (t2.map V.int)) := (f6 l S5.l0 S5.lm).trans S5.ll
        refine ⟨_, rfl, _, _, rfl, rfl, _, rfl, _, rfl, l, _, _, w.toNat, rfl, rfl, el, ?_, ?_⟩
        · exact ixN_at w0 (by omega)
        · have g1 := (good_load S5.gd (n := w / 2) (by omega) (by have q := S5.cl; omega) ld).2
          rw [← List.map_set]
          refine ⟨_, _, _, c3, _, _, rfl, S5.last' I6 f6 ld w0 hw, ?_⟩
          unfold putE
          rw [setE_len]
          omega
      · refine ⟨_, rfl, p, dx, _, rfl, S5.ca.ob, no (by decide +kernel) (by decide +kernel) (by decide +kernel), _, rfl, H, p, m, v, d, dx, c3, s3, w, rfl, S5.ca, w0, by have q := S5.cl; omega, by omega, fun s6 e H6 ld he I6 f6 => ?_⟩
        obtain ⟨g6, g7⟩ := good_load S5.gd (n := w / 2) (by omega) (by have q := S5.cl; omega) ld
        have S6 := S5.deed I6 f6 g6 rfl
        have hwl : w.toNat < t2.length := by rw [← S5.gd.len]; omega
        have ei : t2[w.toNat]? = some (g0 t2 w.toNat) := by
          unfold g0
          rw [List.getD_eq_getElem?_getD, List.getElem?_eq_getElem hwl] <;> rfl
        refine ⟨_, rfl, _, rfl, l, _, _, .int (g0 t2 w.toNat), rfl, rfl, SqL.of S6.ll, at_of (j := w.toNat) (by omega) (by rw [List.getElem?_map, ei] <;> rfl), rfl, _, rfl, ?_⟩
        refine iteNS (congrArg V.int (good_read g6 w0 he)) ?_
        exact ⟨_, _, _, c3, s6, t2, rfl, S6, by omega⟩
    · rintro σ H2 ⟨v5, v6, v7, c2, s2, t2, rfl, S2, l2⟩
      -- for _law_line in range(_law_many)
      refine ⟨_, rfl, many, rfl, by omega, by omega, for_range (lo := 0) (n := (many : Int).toNat) (fun i σ H3 => ∃ (v7 : Option V) (cells' : List Int) (es' : List Ent), σ = [some (.ref b), some (.ref m), some (.ref l), some (.int many), some (.ref p), v5, v6, v7] ∧ St8 C H H H3 p m v d dx b l many (N + 280) cells' es' t2 ∧ ∀ e ∈ es', (i : Int) ≤ e.ln)
        ⟨v7, c2, s2, rfl, S2, fun e he => (S2.gd.rng e he).1⟩ ?_ ?_⟩
      · rintro i σ H3 hi ⟨v8, c3, s3, rfl, S3, h3⟩
        have hin : 2 * (0 + (i : Int)) + 1 < c3.length := by have q := S3.cl; omega
        refine ⟨_, rfl, p, dx, _, rfl, S3.ca.ob, no (by decide +kernel) (by decide +kernel) (by decide +kernel), _, rfl, H, p, m, v, d, dx, c3, s3, _, rfl, S3.ca, by omega, hin, fun H4 I4 f4 => ?_⟩
        refine ⟨_, _, _, rfl, S3.deed I4 f4 (good_evict S3.gd (by omega) hin) (clnC_len _ _ _), fun e he => ?_⟩
        obtain ⟨q1, q2⟩ := delE_mem.mp he
        have q3 := h3 e q1
        omega
      · rintro σ H3 ⟨v8, c3, s3, rfl, S3, h3⟩
        have e3 : s3 = [] := by
          refine List.eq_nil_iff_forall_not_mem.mpr fun e he => ?_
          have q1 := h3 e he
          have q2 := (S3.gd.rng e he).2
          have q3 := S3.cl
          omega
        subst e3
        have ec : c3 = t2 := good_end S3.gd S3.cl
        subst ec
        -- if _law_cache.held != () or _law_cells != _law_last
        refine ⟨_, rfl, p, dx, _, rfl, S3.ca.ob, H, p, m, v, d, dx, c3, [], rfl, S3.ca, fun ks ts q H4 h1 _ s4 q0 hq hP => ?_⟩
        have hq0 := held_nil h1 hq hP
        refine ⟨Nat.zero_le _, fun t ht => ?_⟩
        have S4 := (S3.same s4).same (Same.put (o := .tup []) ht)
        refine ⟨.tuple [], .tuple [], .tup (SqT.of (by rw [upd_ne (ne_of_none hq0 ht)]; exact hq0)) .nil, .tup (SqT.of upd_same) .nil, by decide +kernel, by decide +kernel, false, by rw [eqv_self (by decide +kernel)]; rfl, iteF ?_⟩
        refine ⟨_, rfl, _, rfl, dInts c3, dInts c3, dp_ints (SqL.of S4.ca.mm), dp_ints (SqL.of S4.ll), shaped_ints _, shaped_ints _, false, by rw [eqv_ints]; rfl, iteF ?_⟩
        generalize upd H4 t (.tup []) = H5 at S4
        -- _law_word = _law_take(_law_bag_here, 2 * _law_many)
        refine ⟨_, rfl, _, rfl, _, _, rfl, rfl, .inl ⟨by decide, by decide⟩, b, _, _, rfl, by omega, by omega, S4.bg, by omega, fun w H6 w0 w1 b6 o6 => ?_⟩
        have S6 := S4.take b6 o6
        have hw : w < c3.length := by have q := S6.cl; omega
        have hw2 : 2 * (w / 2) + 1 < c3.length := by have q := S6.cl; omega
        -- _law_cache.write(_law_word, -1)
        refine ⟨_, rfl, p, dx, _, rfl, S6.ca.ob, no (by decide +kernel) (by decide +kernel) (by decide +kernel), _, rfl, _, rfl, H, p, m, v, d, dx, c3, [], w, _, rfl, S6.ca, w0, hw2, by decide, fun s7 H7 ld I7 f7 => ?_⟩
        -- _law_cache.drop(_law_word // 2)
        refine ⟨_, rfl, p, dx, _, rfl, I7.ob, no (by decide +kernel) (by decide +kernel) (by decide +kernel), _, rfl, _, _, rfl, rfl, ⟨by decide, by decide⟩, H, p, m, v, d, dx, c3, _, _, rfl, I7, fun H8 I8 f8 => ?_⟩
        rw [del_put_nil ld] at I8
        have S8 := S6.deed I8 (f7.trans f8) S6.gd rfl
        -- return ..
        refine ⟨_, rfl, _, rfl, dInts c3, dInts c3, dp_ints (SqL.of S8.ca.mm), dp_ints (SqL.of S8.ll), shaped_ints _, shaped_ints _, true, congrArg V.bl (eqv_ints _), iteT ?_⟩
        refine ⟨_, rfl, p, dx, _, rfl, S8.ca.ob, no (by decide +kernel) (by decide +kernel) (by decide +kernel), _, rfl, H, p, m, v, d, dx, c3, [], w, rfl, S8.ca, w0, hw2, by decide, fun s9 e H9 ld9 he I9 f9 => ?_⟩
        obtain ⟨g9, _⟩ := good_load S8.gd (n := w / 2) (by omega) hw2 ld9
        have S9 := S8.deed I9 f9 g9 rfl
        have hwl : w.toNat < c3.length := by omega
        have ei : c3[w.toNat]? = some (g0 c3 w.toNat) := by
          unfold g0
          rw [List.getD_eq_getElem?_getD, List.getElem?_eq_getElem hwl] <;> rfl
        refine ⟨_, rfl, _, rfl, l, _, _, .int (g0 c3 w.toNat), rfl, rfl, SqL.of S9.ll, at_of (j := w.toNat) (by omega) (by rw [List.getElem?_map, ei] <;> rfl), rfl, true, congrArg V.bl (decide_eq_true (congrArg V.int (good_read g9 w0 he))), iteT ?_⟩
        obtain ⟨a, rfl⟩ : ∃ a, s9 = [⟨w / 2, a, c3.getD (2 * (w / 2)).toNat 0, c3.getD ((2 * (w / 2)).toNat + 1) 0, false⟩] := by
          rcases ld9 with ⟨_, z, _⟩ | ⟨_, a, z⟩
          · cases z
          · exact ⟨a, z⟩
        refine ⟨_, rfl, p, dx, _, rfl, S9.ca.ob, H, p, m, v, d, dx, c3, _, rfl, S9.ca, fun ks ts q H10 h1 _ s10 q0 hq hP => ?_⟩
        obtain ⟨t, hq1, ht1⟩ := held_one h1 hq hP
        refine ⟨_, rfl, _, _, rfl, rfl, ⟨by decide, by decide⟩, (by show 2 ≤ sizeLine; decide), fun x hx => ⟨(by show 1 ≤ sizeLine; decide), fun y hy => ?_⟩⟩
        have S10 := ((S9.same s10).same (Same.put (o := .tup [.int (w / 2), .bl false]) hx)).same (Same.put (o := .tup [.ref x]) hy)
        have xy : x ≠ y := fun z => by rw [← z, upd_same] at hy; cases hy
        have kq : ∀ (c : Addr) (o : HO), H10 c = some o → (upd (upd H10 x (.tup [.int (w / 2), .bl false])) y (.tup [.ref x])) c = some o := fun c o e => Same.put hy _ _ (Same.put hx _ _ e)
        have hD : SeqAt.shaped (.tuple [.tuple [.int (w / 2), .bool false]]) = true := rfl
        refine ⟨.tuple [.tuple [.int (w / 2), .bool false]], .tuple [.tuple [.int (w / 2), .bool false]], .tup (SqT.of (kq _ _ hq1)) (.cons (.tup (SqT.of (kq _ _ ht1)) (.cons (.int _) (.cons (.bl _) .nil))) .nil),
          .tup (SqT.of upd_same) (.cons (.tup (SqT.of (by rw [upd_ne xy, upd_same])) (.cons (.int _) (.cons (.bl _) .nil))) .nil), hD, hD, ?_⟩
        rw [eqv_self hD]
        exact k _ (S10.bg.mono (by omega)) fun c c0 cm cb cl => S10.fr c c0 cm cb cl
end
end Ln
namespace Ln
open PySem L2
abbrev sLaw : Stmt := top 17
def spLaw (K : PySem.W.Frag) : Sp := fun vs H Q _ => ∃ (a : Addr) (ns : List Int), vs = [.ref a] ∧ SqL K H a (ns.map V.int) ∧ ns.length ≤ 63 ∧ ∀ H', Q (.bl true) H'
def cells0 (n : Nat) : List Int := (List.range n).map fun (w : Nat) => 500 + (w : Int)
theorem cells0_len (n : Nat) : (cells0 n).length = n := by unfold cells0; rw [List.length_map, List.length_range]
theorem cells0_succ (n : Nat) : (cells0 (n + 1)).map V.int = (cells0 n).map V.int ++ [V.int (500 + (0 + (n : Int)))] := by
  unfold cells0
  rw [List.range_succ, List.map_append, List.map_append]
  have e : (500 + (0 + (n : Int))) = 500 + (n : Int) := by omega
  rw [e]
  rfl
theorem same_off {Hs H H' : Hp} {b : Addr} (k : Same Hs H) (hb : Hs b = none) (o : Off b H H') : Same Hs H' := fun c u e => (o c (ne_of_none e hb)).trans (k c u e)
theorem Off.same {H H' : Hp} {b : Addr} (hb : H b = none) (o : Off b H H') : Same H H' := fun c u e => (o c (ne_of_none e hb)).trans e
section
variable {P : Program} {w : World} {K : PySem.W.Frag} {mg : Str → Option Value} {base : Heap}
theorem scLaw : FnScope ["_law_script", "_law_k", "_law_bag_here", "_law_many", "_law_turn", "_law_cells", "_law_word"] ["_law_script"] (defScope sLaw) := ⟨rfl, rfl, rfl, by decide +kernel, rfl, by decide +kernel, by decide +kernel⟩
theorem ok_law {f fB fT fP : Addr} {fd fdB fdT fdP : FuncData} (F : Fun K "law" "law" sLaw f fd) (B : TB mg) (FB : Fun K "_law_bag" "_law_bag" sBag fB fdB) (DB : Def K mg "_law_bag" fB fdB ["_law_script", "_law_at"])
    (FT : Fun K "_law_take" "_law_take" sTake fT fdT) (DT : Def K mg "_law_take" fT fdT ["_law_bag_here", "_law_many"])
    (GP : FnOk P w K mg base CX0 4 fP fdP ["_law_bag_here", "_law_cells", "_law_last", "_law_many"] spPlain) (DP : Def K mg "_law_is_plain" fP fdP ["_law_bag_here", "_law_cells", "_law_last", "_law_many"]) : FnOk P w K mg base CX0 5 f fd ["_law_script"] (spLaw K) := by
  have GT : FnOk P w K mg base CX0 1 fT fdT ["_law_bag_here", "_law_many"] spTake := ok_take FT
  have GB : FnOk P w K mg base CX0 1 fB fdB ["_law_script", "_law_at"] (spBag K) := ok_bag FB B
  refine F.ok scLaw (fun vs H Q E h => ?_) (fun cdv A outer s H vs Q E hr h => ?_)
  · obtain ⟨a, ns, rfl, _⟩ := h
    rfl
  · obtain ⟨a, ns, rfl, hS, hl, k⟩ := h
    have hr1 : Room 1 _ := hr.mono (by decide)
    refine ⟨_, pss_cons (ps_for PassesOwn.never rfl (pi_range1 (by rfl) B.range (pa_cons (pe_callB (call_max2 rfl) (by rfl) B.max (by decide +kernel) (pa_cons pe_int (pa_cons (pe_callB (call_min2 rfl) (by rfl) B.min (by decide +kernel) (pa_cons pe_int (pa_cons (pe_callB call_len_seq (by rfl) B.len PySem.boot_len (pa_cons (pv 0) pa_nil)) pa_nil))) pa_nil))) pa_nil)) (pg_name (i := 1) scLaw.nd rfl (Or.inl rfl))
      (pss_cons (ps_set (i := 2) scLaw.nd rfl (Or.inl rfl) (pe_call GB hr1 (by rfl) DB.at_ DB.kp DB.bd .nil pass0 (pa_cons (pv 0) (pa_cons (pv 1) pa_nil))))
      (pss_cons (ps_set (i := 3) scLaw.nd rfl (Or.inl rfl) (pe_op op_add pe_int (pe_call GT hr1 (by rfl) DT.at_ DT.kp DT.bd .nil pass0 (pa_cons (pv 2) (pa_cons pe_int pa_nil)))))
      (pss_one (ps_for PassesOwn.never rfl (pi_range1 (by rfl) B.range (pa_cons pe_int pa_nil)) (pg_name (i := 4) scLaw.nd rfl (Or.inl rfl))
        (pss_cons (ps_setLc (i := 5) (own := [("_law_word", 6)]) (g := gName 6) rfl scLaw.nd rfl rfl (sw_true rfl rfl rfl (by decide +kernel)) (pi_range1 (by rfl) B.range (pa_cons (pe_op op_mul pe_int (pv 3)) pa_nil)) (blkOk_by (N := ["_law_script", "_law_k", "_law_bag_here", "_law_many", "_law_turn", "_law_cells", "_law_word"]) (sc := defScope sLaw) (by decide +kernel))
            (fun _ _ _ _ _ => pg_name (i := 6) scLaw.nd rfl (Or.inl rfl)) (fun _ _ _ _ _ => pts_nil) (fun _ _ _ _ _ => pe_op op_add pe_int (pv 6)))
        (pss_one (ps_if (pt_not (pt_val (pe_call GP hr (by rfl) DP.at_ DP.kp DP.bd .nil pass0 (pa_cons (pv 2) (pa_cons (pv 5) (pa_cons (pe_callTy call_list_of (by rfl) B.list (by decide +kernel) (pa_cons (pv 5) pa_nil)) (pa_cons (pv 3) pa_nil))))))) (pss_one (ps_ret pe_bl)) pss_nil))))))))
      (pss_one (ps_ret pe_bl)), ?_⟩
    refine ⟨_, rfl, a, _, rfl, .inl hS, _, _, rfl, _, _, rfl, _, rfl, ?_⟩
    have hJ : ∀ n : Int, 0 ≤ n → n ≤ 63 → 2 ≤ (if (if n < 6 then n else 6) > 2 then (if n < 6 then n else 6) else 2) ∧ (if (if n < 6 then n else 6) > 2 then (if n < 6 then n else 6) else 2) ≤ 63 := fun n h0 h1 => by
      by_cases q : n < 6
      · rw [if_pos q]
        by_cases z : n > 2
        · rw [if_pos z]; omega
        · rw [if_neg z]; omega
      · rw [if_neg q]
        decide
    have hJ2 := hJ ((ns.map V.int).length : Int) (by omega) (by rw [List.length_map]; omega)
    generalize (if (if ((ns.map V.int).length : Int) < 6 then ((ns.map V.int).length : Int) else 6) > 2 then (if ((ns.map V.int).length : Int) < 6 then ((ns.map V.int).length : Int) else 6) else 2) = J at hJ2 ⊢
    obtain ⟨J0, J1⟩ := hJ2
    refine ⟨by omega, by omega, for_range (lo := 0) (n := J.toNat) (fun i σ H2 => ∃ (v1 v2 v3 v4 v5 v6 : Option V), σ = [some (.ref a), v1, v2, v3, v4, v5, v6] ∧ Same H H2) ⟨none, none, none, none, none, none, rfl, Same.refl H⟩ ?_ ?_⟩
    · rintro i σ H2 hi ⟨v1, v2, v3, v4, v5, v6, rfl, s2⟩
      refine ⟨_, rfl, _, rfl, a, ns, _, rfl, s2.seq hS, hl, by omega, by omega, fun b H3 nb b3 o3 => ?_⟩
      have b0 : H b = none := s2.free nb
      have s3 : Same H H3 := same_off s2 b0 o3
      refine ⟨_, rfl, b, 5, 0, rfl, by decide, by decide, b3, by decide, fun r H4 r0 r1 b4 o4 => ?_⟩
      have s4 : Same H H4 := same_off s3 b0 o4
      refine ⟨_, _, rfl, rfl, 2, rfl, by decide, by decide, for_range (lo := 0) (n := 2) (fun j σ H5 => ∃ (v4 v5 v6 : Option V), σ = [some (.ref a), some (.int (0 + (i : Int))), some (.ref b), some (.int (1 + r)), v4, v5, v6] ∧ Same H H5 ∧ BagAt H5 b (1 + 300 * j))
        ⟨v4, v5, v6, rfl, s4, b4⟩ ?_ ?_⟩
      · rintro j σ H5 hj ⟨v4, v5, v6, rfl, s5, b5⟩
        refine ⟨_, rfl, _, _, rfl, rfl, .inl ⟨by decide, by decide⟩, _, rfl, by omega, by omega, fun D hD => ?_⟩
        refine lc_range (lo := 0) (n := (2 * (1 + r)).toNat) (fun i H6 => Off D H5 H6 ∧ H6 D = some (.lst ((cells0 i).map V.int))) ⟨fun c hc => upd_ne hc, upd_same⟩ ?_ ?_
        · rintro i6 H6 hi6 ⟨o6, d6⟩
          refine ⟨rfl, iteT (B := Off D H5 H6 ∧ H6 D = some (.lst ((cells0 (i6 + 1)).map V.int))) ?_⟩
          refine ⟨_, rfl, _, _, rfl, rfl, _, d6, ?_, fun c hc => (upd_ne hc).trans (o6 c hc), ?_⟩
          · rw [List.length_map, cells0_len]
            exact small1000 (by omega)
          · rw [upd_same, cells0_succ]
        · rintro H6 ⟨o6, d6⟩
          have bD : b ≠ D := fun z => b5.some (by rw [z]; exact hD)
          have D0 : H D = none := s5.free hD
          have s6 : Same H H6 := same_off s5 D0 o6
          have b6 : BagAt H6 b (1 + 300 * j) := b5.keep (o6 b bD)
          refine ⟨_, rfl, _, rfl, _, rfl, D, _, rfl, .inl (SqL.of d6), fun l hl => ?_⟩
          have l0 : H l = none := s6.free hl
          have lD : l ≠ D := fun z => by rw [z, d6] at hl; cases hl
          have lb : l ≠ b := fun z => b6.some (by rw [← z]; exact hl)
          obtain ⟨many, hm⟩ := Int.eq_ofNat_of_zero_le (show 0 ≤ 1 + r by omega)
          have ec : (2 * (1 + r)).toNat = 2 * many := by omega
          rw [ec] at d6 ⊢
          refine ⟨_, rfl, b, D, l, many, 1 + 300 * j, cells0 (2 * many), by rw [hm]; rfl, b6.keep (upd_ne lb.symm), by rw [upd_ne lD.symm]; exact d6, upd_same, bD, lD, lb, cells0_len _, by omega, by omega, by omega, fun H7 b7 f7 => ⟨true, rfl, iteF ?_⟩⟩
          refine ⟨_, _, _, rfl, fun c o e => ?_, by rw [show 1 + 300 * (j + 1) = 1 + 300 * j + 300 by omega]; exact b7⟩
          have e6 := s6 c o e
          have n1 : c ≠ D := ne_of_none e D0
          have n2 : c ≠ b := ne_of_none e b0
          have n3 : c ≠ l := ne_of_none e l0
          have e7 : (upd H6 l (.lst ((cells0 (2 * many)).map V.int))) c = some o := by rw [upd_ne n3]; exact e6
          rw [f7 c (by rw [e7]; simp) n1 n2 n3]
          exact e7
      · rintro σ H5 ⟨v4, v5, v6, rfl, s5, b5⟩
        exact ⟨_, _, _, _, _, _, rfl, s5⟩
    · rintro σ H2 ⟨v1, v2, v3, v4, v5, v6, rfl, s2⟩
      exact k H2
end
end Ln
namespace Ln
open PySem L2
/-! ### what the top has written, the head -/
theorem all_mk {lw : PySem.W.OpenLaw} {w : World} {K : PySem.W.Frag} {h : Heap} {mg : Str → Option Value} {fa C CR pp f1 f3 f4 f5 f6 f7 f8 f2 f9 f10 f11 f12 f13 : Addr} {rest : List Value} {tL : Tok} (X : K.In h) (G : h.Ns mainGlobals mg) (hfa : mg "law" = some (.ref fa))
    {od1 an1 od3 an3 od4 an4 od5 an5 od6 an6 od7 an7 od8 an8 od2 an2 od9 an9 od10 an10 od11 an11 od12 an12 od13 an13 : Option Addr} {sl1 sl3 sl4 sl5 sl6 sl7 sl8 sl2 sl9 sl10 sl11 sl12 sl13 : Array (Option Value)} {oc1 kV1 dc1 pm1 cd1 ct1 oc3 kV3 dc3 pm3 cd3 ct3 oc4 kV4 dc4 pm4 cd4 ct4 oc5 kV5 dc5 pm5 cd5 ct5 oc6 kV6 dc6 pm6 cd6 ct6 oc7 kV7 dc7 pm7 cd7 ct7 oc8 kV8 dc8 pm8 cd8 ct8 oc2 kV2 dc2 pm2 cd2 ct2 oc9 kV9 dc9 pm9 cd9 ct9 oc10 kV10 dc10 pm10 cd10 ct10 oc11 kV11 dc11 pm11 cd11 ct11 oc12 kV12 dc12 pm12 cd12 ct12 oc13 kV13 dc13 pm13 cd13 ct13 : Value}
    (aC : PySem.W.nsIn K mainGlobals "Lines" = some (some (.ref C)))
    (aR : PySem.W.nsIn K mainGlobals "Run" = some (some (.ref CR)))
    (a1 : PySem.W.findIn K (.ref C) "__init__" = some (some (.ref f1)))
    (i1 : PySem.W.isFn K (.ref f1) = true)
    (a3 : PySem.W.findIn K (.ref C) "read" = some (some (.ref f3)))
    (i3 : PySem.W.isFn K (.ref f3) = true)
    (a4 : PySem.W.findIn K (.ref C) "write" = some (some (.ref f4)))
    (i4 : PySem.W.isFn K (.ref f4) = true)
    (a5 : PySem.W.findIn K (.ref C) "load" = some (some (.ref f5)))
    (i5 : PySem.W.isFn K (.ref f5) = true)
    (a6 : PySem.W.findIn K (.ref C) "clean" = some (some (.ref f6)))
    (i6 : PySem.W.isFn K (.ref f6) = true)
    (a7 : PySem.W.findIn K (.ref C) "drop" = some (some (.ref f7)))
    (i7 : PySem.W.isFn K (.ref f7) = true)
    (a8 : PySem.W.findIn K (.ref C) "evict" = some (some (.ref f8)))
    (i8 : PySem.W.isFn K (.ref f8) = true)
    (p1 : PySem.W.findIn K (.ref C) "held" = some (some (.ref pp)))
    (p2 : PySem.W.specialIn K (.ref pp) "__get__" = some (some (.builtin "property.__get__")))
    (p3 : PySem.W.takesIn K (.ref pp) = some true)
    (p4 : PySem.W.recIn K pp "property" = some (.ref f2 :: rest))
    (a9 : PySem.W.nsIn K mainGlobals "_law_bag" = some (some (.ref f9)))
    (a10 : PySem.W.nsIn K mainGlobals "_law_take" = some (some (.ref f10)))
    (a11 : PySem.W.nsIn K mainGlobals "_law_put_in" = some (some (.ref f11)))
    (a12 : PySem.W.nsIn K mainGlobals "_law_is_plain" = some (some (.ref f12)))
    (a13 : PySem.W.nsIn K mainGlobals "law" = some (some (.ref f13)))
    (l1 : K.lookup f1 = some ⟨oc1, od1, .func (PySem.W.fnOf "__init__" "Lines.__init__" (defArgs sInit) (defBody sInit) (defScope sInit) .none kV1 dc1 pm1 an1 cd1 ct1), sl1⟩)
    (c1 : PySem.W.codeIn K cd1 "Lines.__init__" = true)
    (k1 : PySem.W.keepIn K (.ref f1) = true)
    (l3 : K.lookup f3 = some ⟨oc3, od3, .func (PySem.W.fnOf "read" "Lines.read" (defArgs sRead) (defBody sRead) (defScope sRead) .none kV3 dc3 pm3 an3 cd3 ct3), sl3⟩)
    (c3 : PySem.W.codeIn K cd3 "Lines.read" = true)
    (k3 : PySem.W.keepIn K (.ref f3) = true)
    (l4 : K.lookup f4 = some ⟨oc4, od4, .func (PySem.W.fnOf "write" "Lines.write" (defArgs sWrite) (defBody sWrite) (defScope sWrite) .none kV4 dc4 pm4 an4 cd4 ct4), sl4⟩)
    (c4 : PySem.W.codeIn K cd4 "Lines.write" = true)
    (k4 : PySem.W.keepIn K (.ref f4) = true)
    (l5 : K.lookup f5 = some ⟨oc5, od5, .func (PySem.W.fnOf "load" "Lines.load" (defArgs sLoad) (defBody sLoad) (defScope sLoad) .none kV5 dc5 pm5 an5 cd5 ct5), sl5⟩)
    (c5 : PySem.W.codeIn K cd5 "Lines.load" = true)
    (k5 : PySem.W.keepIn K (.ref f5) = true)
    (l6 : K.lookup f6 = some ⟨oc6, od6, .func (PySem.W.fnOf "clean" "Lines.clean" (defArgs sClean) (defBody sClean) (defScope sClean) .none kV6 dc6 pm6 an6 cd6 ct6), sl6⟩)
    (c6 : PySem.W.codeIn K cd6 "Lines.clean" = true)
    (k6 : PySem.W.keepIn K (.ref f6) = true)
    (l7 : K.lookup f7 = some ⟨oc7, od7, .func (PySem.W.fnOf "drop" "Lines.drop" (defArgs sDrop) (defBody sDrop) (defScope sDrop) .none kV7 dc7 pm7 an7 cd7 ct7), sl7⟩)
    (c7 : PySem.W.codeIn K cd7 "Lines.drop" = true)
    (k7 : PySem.W.keepIn K (.ref f7) = true)
    (l8 : K.lookup f8 = some ⟨oc8, od8, .func (PySem.W.fnOf "evict" "Lines.evict" (defArgs sEvict) (defBody sEvict) (defScope sEvict) .none kV8 dc8 pm8 an8 cd8 ct8), sl8⟩)
    (c8 : PySem.W.codeIn K cd8 "Lines.evict" = true)
    (k8 : PySem.W.keepIn K (.ref f8) = true)
    (l2 : K.lookup f2 = some ⟨oc2, od2, .func (PySem.W.fnOf "held" "Lines.held" (defArgs sHeld) (defBody sHeld) (defScope sHeld) .none kV2 dc2 pm2 an2 cd2 ct2), sl2⟩)
    (c2 : PySem.W.codeIn K cd2 "Lines.held" = true)
    (k2 : PySem.W.keepIn K (.ref f2) = true)
    (l9 : K.lookup f9 = some ⟨oc9, od9, .func (PySem.W.fnOf "_law_bag" "_law_bag" (defArgs sBag) (defBody sBag) (defScope sBag) .none kV9 dc9 pm9 an9 cd9 ct9), sl9⟩)
    (c9 : PySem.W.codeIn K cd9 "_law_bag" = true)
    (k9 : PySem.W.keepIn K (.ref f9) = true)
    (l10 : K.lookup f10 = some ⟨oc10, od10, .func (PySem.W.fnOf "_law_take" "_law_take" (defArgs sTake) (defBody sTake) (defScope sTake) .none kV10 dc10 pm10 an10 cd10 ct10), sl10⟩)
    (c10 : PySem.W.codeIn K cd10 "_law_take" = true)
    (k10 : PySem.W.keepIn K (.ref f10) = true)
    (l11 : K.lookup f11 = some ⟨oc11, od11, .func (PySem.W.fnOf "_law_put_in" "_law_put_in" (defArgs sPut) (defBody sPut) (defScope sPut) .none kV11 dc11 pm11 an11 cd11 ct11), sl11⟩)
    (c11 : PySem.W.codeIn K cd11 "_law_put_in" = true)
    (k11 : PySem.W.keepIn K (.ref f11) = true)
    (l12 : K.lookup f12 = some ⟨oc12, od12, .func (PySem.W.fnOf "_law_is_plain" "_law_is_plain" (defArgs sPlain) (defBody sPlain) (defScope sPlain) .none kV12 dc12 pm12 an12 cd12 ct12), sl12⟩)
    (c12 : PySem.W.codeIn K cd12 "_law_is_plain" = true)
    (k12 : PySem.W.keepIn K (.ref f12) = true)
    (l13 : K.lookup f13 = some ⟨oc13, od13, .func (PySem.W.fnOf "law" "law" (defArgs sLaw) (defBody sLaw) (defScope sLaw) .none kV13 dc13 pm13 an13 cd13 ct13), sl13⟩)
    (c13 : PySem.W.codeIn K cd13 "law" = true)
    (k13 : PySem.W.keepIn K (.ref f13) = true)
    (pg : PySem.W.plainGet K C Str.empty = true)
    (hd : PySem.W.hasDictIn K C = true)
    (po : PySem.W.plainOver K C = true)
    (sa : PySem.W.findIn K (.ref C) "__setattr__" = some (some (.builtin "object.__setattr__")))
    (mk : PySem.W.makesIn K C = true)
    (kc : PySem.W.keepIn K (.ref C) = true)
    (nM : PySem.W.findIn K (.ref C) "_memory" = some none)
    (nV : PySem.W.findIn K (.ref C) "_values" = some none)
    (nD : PySem.W.findIn K (.ref C) "_dirty" = some none)
    (r1 : PySem.W.readsIn K CR (.type "type") = true)
    (r2 : PySem.W.specialIn K (.ref CR) "__getattribute__" = some (some (.builtin "type.__getattribute__")))
    (r3 : PySem.W.findCls K (.ref CR) (.type "type") "LINE" = some (.val (.int 2 tL)))
    (z_tuple : PySem.W.nsIn K mainGlobals "tuple" = some none)
    (z_sorted : PySem.W.nsIn K mainGlobals "sorted" = some none)
    (z_len : PySem.W.nsIn K mainGlobals "len" = some none)
    (z_abs : PySem.W.nsIn K mainGlobals "abs" = some none)
    (z_range : PySem.W.nsIn K mainGlobals "range" = some none)
    (z_min : PySem.W.nsIn K mainGlobals "min" = some none)
    (z_max : PySem.W.nsIn K mainGlobals "max" = some none)
    (z_list : PySem.W.nsIn K mainGlobals "list" = some none) :
    ∃ fd : FuncData, (∀ (s : Shared) (v : Value), BindsTo s fd ⟨[v], []⟩ [("_law_script", v)]) ∧ ∀ base : Heap, K.In base → base.Ns mainGlobals mg → FnOk lw.prog w K mg base CX0 5 fa fd ["_law_script"] (spLaw K) := by
  have e := hfa.symm.trans (PySem.W.mg_of X G a13)
  cases e
  have T : TL K mg C CR (.type "type") (.int 2 tL) := ⟨⟨pg, hd, po, sa⟩, nM, nV, nD, PySem.W.mg_of X G aC, PySem.W.mg_of X G aR, ⟨r1, r2⟩, PySem.W.mg_none_of X G z_tuple, PySem.W.mg_none_of X G z_sorted, ⟨r3, ⟨_, rfl⟩⟩⟩
  have B : TB mg := ⟨PySem.W.mg_none_of X G z_len, PySem.W.mg_none_of X G z_abs, PySem.W.mg_none_of X G z_range, PySem.W.mg_none_of X G z_min, PySem.W.mg_none_of X G z_max, PySem.W.mg_none_of X G z_list⟩
  have F1 := fun_mk (st := sInit) l1 c1 k1
  have b1 := F1.binds (ps := ["self", "words"]) fun _ _ _ _ _ _ us hl => match us, hl with | [_, _], _ => rfl
  have F3 := fun_mk (st := sRead) l3 c3 k3
  have b3 := F3.binds (ps := ["self", "word"]) fun _ _ _ _ _ _ us hl => match us, hl with | [_, _], _ => rfl
  have F4 := fun_mk (st := sWrite) l4 c4 k4
  have b4 := F4.binds (ps := ["self", "word", "value"]) fun _ _ _ _ _ _ us hl => match us, hl with | [_, _, _], _ => rfl
  have F5 := fun_mk (st := sLoad) l5 c5 k5
  have b5 := F5.binds (ps := ["self", "line"]) fun _ _ _ _ _ _ us hl => match us, hl with | [_, _], _ => rfl
  have F6 := fun_mk (st := sClean) l6 c6 k6
  have b6 := F6.binds (ps := ["self", "line"]) fun _ _ _ _ _ _ us hl => match us, hl with | [_, _], _ => rfl
  have F7 := fun_mk (st := sDrop) l7 c7 k7
  have b7 := F7.binds (ps := ["self", "line"]) fun _ _ _ _ _ _ us hl => match us, hl with | [_, _], _ => rfl
  have F8 := fun_mk (st := sEvict) l8 c8 k8
  have b8 := F8.binds (ps := ["self", "line"]) fun _ _ _ _ _ _ us hl => match us, hl with | [_, _], _ => rfl
  have F2 := fun_mk (st := sHeld) l2 c2 k2
  have b2 := F2.binds (ps := ["self"]) fun _ _ _ _ _ _ us hl => match us, hl with | [_], _ => rfl
  have F9 := fun_mk (st := sBag) l9 c9 k9
  have b9 := F9.binds (ps := ["_law_script", "_law_at"]) fun _ _ _ _ _ _ us hl => match us, hl with | [_, _], _ => rfl
  have F10 := fun_mk (st := sTake) l10 c10 k10
  have b10 := F10.binds (ps := ["_law_bag_here", "_law_many"]) fun _ _ _ _ _ _ us hl => match us, hl with | [_, _], _ => rfl
  have F11 := fun_mk (st := sPut) l11 c11 k11
  have b11 := F11.binds (ps := ["_law_bag_here", "_law_cache", "_law_many"]) fun _ _ _ _ _ _ us hl => match us, hl with | [_, _, _], _ => rfl
  have F12 := fun_mk (st := sPlain) l12 c12 k12
  have b12 := F12.binds (ps := ["_law_bag_here", "_law_cells", "_law_last", "_law_many"]) fun _ _ _ _ _ _ us hl => match us, hl with | [_, _, _, _], _ => rfl
  have F13 := fun_mk (st := sLaw) l13 c13 k13
  have D9 : Def K mg "_law_bag" f9 _ ["_law_script", "_law_at"] := ⟨PySem.W.mg_of X G a9, k9, b9⟩
  have D10 : Def K mg "_law_take" f10 _ ["_law_bag_here", "_law_many"] := ⟨PySem.W.mg_of X G a10, k10, b10⟩
  have D11 : Def K mg "_law_put_in" f11 _ ["_law_bag_here", "_law_cache", "_law_many"] := ⟨PySem.W.mg_of X G a11, k11, b11⟩
  have D12 : Def K mg "_law_is_plain" f12 _ ["_law_bag_here", "_law_cells", "_law_last", "_law_many"] := ⟨PySem.W.mg_of X G a12, k12, b12⟩
  refine ⟨PySem.W.fnOf "law" "law" (defArgs sLaw) (defBody sLaw) (defScope sLaw) .none kV13 dc13 pm13 an13 cd13 ct13, fun s v => .of_eq rfl, fun base _ _ => ?_⟩
  have GL : FnOk lw.prog w K mg base CX0 1 f5 _ ["self", "line"] (spLoad C) := ok_load F5 T
  have ML : Mth lw.prog w K mg base C 1 "load" ["self", "line"] (spLoad C) f5 _ := ⟨GL, b5, ⟨a5, i5, k5⟩⟩
  have MC : Mth lw.prog w K mg base C 1 "clean" ["self", "line"] (spClean C) f6 _ := ⟨ok_clean F6 T, b6, ⟨a6, i6, k6⟩⟩
  have MD : Mth lw.prog w K mg base C 1 "drop" ["self", "line"] (spDrop C) f7 _ := ⟨ok_drop F7 T, b7, ⟨a7, i7, k7⟩⟩
  have ME : Mth lw.prog w K mg base C 2 "evict" ["self", "line"] (spEvict C) f8 _ := ⟨ok_evict F8 T MC.ok b6 MC.at_ MD.ok b7 MD.at_, b8, ⟨a8, i8, k8⟩⟩
  have MR : Mth lw.prog w K mg base C 2 "read" ["self", "word"] (spRead C) f3 _ := ⟨ok_read F3 T GL b5 ML.at_, b3, ⟨a3, i3, k3⟩⟩
  have MW : Mth lw.prog w K mg base C 2 "write" ["self", "word", "value"] (spWrite C) f4 _ := ⟨ok_write F4 T GL b5 ML.at_, b4, ⟨a4, i4, k4⟩⟩
  have HD : Hd lw.prog w K mg base C pp f2 _ := ⟨ok_held F2 T, b2, ⟨p1, p2, p3, ⟨_, p4⟩⟩⟩
  have GP := ok_put (P := lw.prog) (w := w) (base := base) F11 T B F10 D10 ML MC MD ME
  have GQ := ok_plain F12 T B F10 D10 GP D11 ⟨mk, a1, i1, kc⟩ (ok_init F1 T) b1 MR MW MD ME HD
  exact ok_law F13 B F9 D9 F10 D10 GQ D12
theorem walk {l : PySem.W.OpenLaw} {q : Program} {loose : List Str} {XP : (Str → Option Value) → Heap → Prop} {YP : World → Heap → Prop} {d : DefRec} {K : Params → PySem.W.Frag} (hn : l.most = some 63) (hdf : d.params.defaults = [])
    (hY : ∀ (w : World) (h : Heap), YP w h → (K w.params).In h)
    (F : ∀ (w : World) (mg : Str → Option Value) (fa : Addr) (h : Heap), (K w.params).In h → h.Ns mainGlobals mg → mg d.name = some (.ref fa) →
      ∃ fd : FuncData, (∀ (s : Shared) (u : Value), BindsTo s fd ⟨[u], []⟩ [("_law_script", u)]) ∧ ∀ base : Heap, (K w.params).In base → base.Ns mainGlobals mg → FnOk l.prog w (K w.params) mg base CX0 5 fa fd ["_law_script"] (spLaw (K w.params))) :
    PySem.W.WalkO q loose XP YP l.row.toRowW d [] (fun f vs => PySem.call f vs) :=
  L2.walk_of (n := 63) (k := 5) (x := "_law_script") (CX := fun _ => CX0) (sp := fun w => spLaw (K w.params)) hn (by decide) hdf ⟨rfl, by decide, by decide⟩ hY F (fun _ _ a ns hl _ hS => ⟨a, ns, rfl, hS, hl, fun _ => rfl⟩) fun _ _ _ _ _ z => z
end Ln

open PySem PySem.W PyProof.Rows
set_option maxRecDepth 100000 in
set_option maxHeartbeats 0 in
theorem PySem.Challenge.cw_devicewindows_k08_whole_timing_of_lines_holds : PySem.Challenge.rw_devicewindows_k08_whole_timing_of_lines.Holds := by
  w_on; o_law; k_head; (case hw => w_witness2)
  k_fill
  refine Ln.walk (l := PySem.Challenge.rw_devicewindows_k08_whole_timing_of_lines) rfl rfl (fun w h Y => PySem.W.kIn_of Y) ?F
  case F =>
    intro w mg fa h KX G hmg
    refine' Ln.all_mk KX G hmg ?aC ?aR ?a1 ?i1 ?a3 ?i3 ?a4 ?i4 ?a5 ?i5 ?a6 ?i6 ?a7 ?i7 ?a8 ?i8 ?p1 ?p2 ?p3 ?p4 ?a9 ?a10 ?a11 ?a12 ?a13 ?l1 ?c1 ?k1 ?l3 ?c3 ?k3 ?l4 ?c4 ?k4 ?l5 ?c5 ?k5 ?l6 ?c6 ?k6 ?l7 ?c7 ?k7 ?l8 ?c8 ?k8 ?l2 ?c2 ?k2 ?l9 ?c9 ?k9 ?l10 ?c10 ?k10 ?l11 ?c11 ?k11 ?l12 ?c12 ?k12 ?l13 ?c13 ?k13 ?pg ?hd ?po ?sa ?mk ?kc ?nM ?nV ?nD ?r1 ?r2 ?r3 ?z_tuple ?z_sorted ?z_len ?z_abs ?z_range ?z_min ?z_max ?z_list
    (case aC => k_is)
    (case aR => k_is)
    (case a1 => k_is)
    (case i1 => k_is)
    (case a3 => k_is)
    (case i3 => k_is)
    (case a4 => k_is)
    (case i4 => k_is)
    (case a5 => k_is)
    (case i5 => k_is)
    (case a6 => k_is)
    (case i6 => k_is)
    (case a7 => k_is)
    (case i7 => k_is)
    (case a8 => k_is)
    (case i8 => k_is)
    (case p1 => k_is)
    (case p2 => k_is)
    (case p3 => k_is)
    (case p4 => k_is)
    (case a9 => k_is)
    (case a10 => k_is)
    (case a11 => k_is)
    (case a12 => k_is)
    (case a13 => k_is)
    (case l1 => k_is)
    (case c1 => k_is)
    (case k1 => k_is)
    (case l3 => k_is)
    (case c3 => k_is)
    (case k3 => k_is)
    (case l4 => k_is)
    (case c4 => k_is)
    (case k4 => k_is)
    (case l5 => k_is)
    (case c5 => k_is)
    (case k5 => k_is)
    (case l6 => k_is)
    (case c6 => k_is)
    (case k6 => k_is)
    (case l7 => k_is)
    (case c7 => k_is)
    (case k7 => k_is)
    (case l8 => k_is)
    (case c8 => k_is)
    (case k8 => k_is)
    (case l2 => k_is)
    (case c2 => k_is)
    (case k2 => k_is)
    (case l9 => k_is)
    (case c9 => k_is)
    (case k9 => k_is)
    (case l10 => k_is)
    (case c10 => k_is)
    (case k10 => k_is)
    (case l11 => k_is)
    (case c11 => k_is)
    (case k11 => k_is)
    (case l12 => k_is)
    (case c12 => k_is)
    (case k12 => k_is)
    (case l13 => k_is)
    (case c13 => k_is)
    (case k13 => k_is)
    (case pg => k_is)
    (case hd => k_is)
    (case po => k_is)
    (case sa => k_is)
    (case mk => k_is)
    (case kc => k_is)
    (case nM => k_is)
    (case nV => k_is)
    (case nD => k_is)
    (case r1 => k_is)
    (case r2 => k_is)
    (case r3 => k_is)
    (case z_tuple => k_is)
    (case z_sorted => k_is)
    (case z_len => k_is)
    (case z_abs => k_is)
    (case z_range => k_is)
    (case z_min => k_is)
    (case z_max => k_is)
    (case z_list => k_is)
