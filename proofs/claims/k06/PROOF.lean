import PyProof.Rows.All
import Wide.All
import OpenK.AllK
import Wide.FinOn
import HandS.ForMost
import HandS.Wide
import HandS.ClsMeth
import HandS.Property
import HandS.ListItems
import HandS.SortOrd
import HandS.SortRule
import HandS.More
import HandS.Conv
import HandS.Codes
import HandS.Style
import PySem.Challenge.RW_devicewindows_k06_lines_read_and_written
set_option Elab.async false
set_option linter.all false
set_option maxRecDepth 100000
set_option maxHeartbeats 4000000
/-! Two rules of one's own: storing to a slice of a list; sorting the items of a dict with int keys and bool values. -/
namespace Ln
open PySem PySem.Spec PyProof.Rows L2
/-! ### xs[a:c] = ys -/
/-- the target's reading: the list at l, its bounds, the other list at b -/
def gSlice (to tl th : TE) : TG := fun v σ H Q => to σ H fun x H1 => tl σ H1 fun y H2 => th σ H2 fun z H3 =>
  ∃ (l b : Addr) (xs ys : List V) (a c : Int), x = .ref l ∧ v = .ref b ∧ y = .int a ∧ z = .int c ∧ H3 l = some (.lst xs) ∧ H3 b = some (.lst ys) ∧ l ≠ b ∧ 0 ≤ a ∧ a ≤ c ∧ c ≤ xs.length ∧ xs.length + ys.length ≤ sizeLine ∧
    Q σ (upd H3 l (.lst (xs.take a.toNat ++ ys ++ xs.drop c.toNat)))
section
variable {X : Cx} {pos : Pos}
theorem pg_slice {o lo hi : Expr} {p2 : Pos} {to tl th : TE} (ho : PE X o to) (hl : PE X lo tl) (hh : PE X hi th)
    (ha : ∀ v, assign (.Subscript o (.Slice (some lo) (some hi) none p2) pos) X.env v = (do
      let ov ← holding [v] (eval o X.env)
      let iv ← holding [v, ov] (eval (.Slice (some lo) (some hi) none p2) X.env)
      standAt pos
      holding [v, ov, iv] (setItem ov iv v)
      release [iv, v, ov] []) := by intro _; rfl) : PG X (.Subscript o (.Slice (some lo) (some hi) none p2) pos) (gSlice to tl th) := by
  refine ⟨fun pins s σ H v u Q I r h => ?_⟩
  rw [ha]
  refine wpAny_bind (wpAny_holding (thn (ho.run pins s σ H _ I h) fun ov s1 ⟨x, H1, I1, r1, q1⟩ => ?_))
  refine wpAny_bind (wpAny_holding (wpAny_Slice ?_))
  rw [evalPart_some, evalPart_some]
  refine thn (hl.run pins s1 σ H1 _ I1 q1) fun vl s2 ⟨y, H2, I2, r2, q2⟩ => ?_
  refine thn (hh.run pins s2 σ H2 _ I2 q2) fun vu s3 ⟨z, H3, I3, r3, q3⟩ => ?_
  rw [evalPart_none]
  refine wpAny_pure ?_
  obtain ⟨l, b, xs, ys, a, c, rfl, rfl, rfl, rfl, e1, e2, ne, h0, hac, hc, hz, q⟩ := q3
  obtain rfl : ov = Value.ref l := r1
  obtain rfl : u = Value.ref b := r
  have I4 : Inv X pins σ H3 { s3 with heap := s3.heap.push { cls := .type "slice", data := .fields #[vl, vu, .none] } } := I3.kept (t' := s3.toks) fun b ob q => Heap.get?_push_of_some _ q
  refine wpAny_bind (wpAny_standAt (wpAny_bind (wpAny_holding (set_slice I4 e1 e2 ne (Heap.IsSliceOf.new ..) r2 r3 h0 hac hc hz fun s' I' => ?_))))
  exact wpAny_release ⟨σ, _, I', q⟩
end
/-! ### sorted(d.items()): int keys, bool values -/
abbrev ltK (k : Value → Int) (v u : Value) : Bool := decide (k v < k u)
theorem swo_K (k : Value → Int) : SrtO.Swo (ltK k) := by
  refine ⟨fun x y h => ?_, fun x y z h1 h2 => ?_⟩
  · have a : k x < k y := of_decide_eq_true h
    exact decide_eq_false (by omega)
  · have a : ¬ k y < k x := of_decide_eq_false h1
    have b : ¬ k z < k y := of_decide_eq_false h2
    exact decide_eq_false (by omega)
end Ln
namespace Ln
open PySem PySem.Spec PyProof.Rows L2
/-- a view of the items of the dict at d -/
def ViewO (v d : Addr) : HO := .ext fun h => h.get? v = some { cls := .type "dict_items", data := .fields #[.ref d] }
def rItems : V → List V → Hp → VK → Prop := fun x xs H Q => ∃ (d : Addr) (kvs : List (Key × V)), x = .ref d ∧ xs = [] ∧ H d = some (.dK kvs) ∧ ∀ v, H v = none → Q (.ref v) (upd H v (ViewO v d))
section
variable {X : Cx}
theorem mt_items : MtR X "dict.items" rItems := by
  intro pins s σ H x vs v us Q I rx rv h
  obtain ⟨d, kvs, rfl, rfl, hd, q⟩ := h
  cases rx
  have hus := rv.zero
  subst hus
  obtain ⟨hz, hs0, vs, kv, hdo⟩ := I.hok d _ hd
  refine call_meetsIn F.slot_dict_items hdo.typeIs F.entry_dict_items (F.args_dict_items_1 _) (meets_dict_items (mixKind X.prog X.w) d hs0) ⟨⟨vs, hdo⟩, ?_⟩
  refine ⟨.ref s.heap.objs.size, _, I.laid (a := s.heap.objs.size) (t' := s.toks) (fun b ob q => Heap.get?_push_of_some _ q) (Nat.le_refl _) ?_, rfl, q _ (I.hok.fresh (Nat.le_refl _))⟩
  exact ⟨Heap.get?_push_size _ rfl, ⟨_, Heap.get?_push_size _ rfl⟩, fun h1 h2 e k => k _ e⟩
end
/-! pairs of an int and a bool -/
def IsPB (h : Heap) (v : Value) (x : Int) (b : Bool) : Prop := ∃ a o t n, v = .ref a ∧ h.get? a = some o ∧ o.cls = .type "tuple" ∧ o.data = .seq #[.int x t, .bool b] n
theorem IsPB.keeps {h h' : Heap} {v : Value} {x : Int} {b : Bool} (p : IsPB h v x b) (k : ∀ b o, h.get? b = some o → o.cls = .type "tuple" → h'.get? b = some o) : IsPB h' v x b := by
  obtain ⟨a, o, t, n, e, ho, hc, hd⟩ := p
  exact ⟨a, o, t, n, e, k _ _ ho hc, hc, hd⟩
theorem firsts_pb {h : Heap} : ∀ {vs : List Value}, (∀ v ∈ vs, ∃ x y, IsPB h v x y) → ∃ fs : List Value, PySem.W.KatTups h vs fs ∧ fs.length = vs.length ∧ ∀ f ∈ fs, ∃ x t, f = Value.int x t
  | [], _ => ⟨[], PySem.W.KatTups.nil, rfl, fun _ hm => by simp at hm⟩
  | v :: vs, hp => by
    obtain ⟨fs, h1, h2, h3⟩ := firsts_pb (vs := vs) fun v' hm => hp v' (List.mem_cons_of_mem _ hm)
    obtain ⟨x, y, a, o, t, n, e, ho, hc, hd⟩ := hp v (List.mem_cons_self ..)
    subst e
    refine ⟨.int x t :: fs, PySem.W.KatTups.cons ho hc hd rfl h1, by rw [List.length_cons, List.length_cons, h2], fun f hm => ?_⟩
    rcases List.mem_cons.mp hm with rfl | hm
    · exact ⟨x, t, rfl⟩
    · exact h3 f hm
section
variable {prog : Program} {w : World} {A : Around} {s : Shared}
open SrtO in
theorem pb_cmp {vs : List Value} {k : Value → Int} {g : Value → Bool} (hp : ∀ v ∈ vs, IsPB s.heap v (k v) (g v)) (hu : ∀ v ∈ vs, ∀ u ∈ vs, k v = k u → g v = g u) : Cmp prog w A s (tuples' true) (fun p => p.1 ∈ vs) (lt2 (ltK k)) := by
  intro p q hm hm'
  have h1 := hp _ hm
  have h2 := hp _ hm'
  have hg := hu _ hm _ hm'
  show wpAny (model prog w) A (keyLt' (tuples' true) p.1 q.1) (fun r s' => s' = s ∧ r = decide (k p.1 < k q.1)) (fun _ _ => False) s
  generalize k p.1 = x at h1 hg ⊢
  generalize g p.1 = y at h1 hg ⊢
  generalize k q.1 = x' at h2 hg ⊢
  generalize g q.1 = y' at h2 hg ⊢
  obtain ⟨a, o, t, n, e, ho, hc, hd⟩ := h1
  obtain ⟨a', o', t', n', e', ho', hc', hd'⟩ := h2
  rw [e, e']
  refine PySem.W.kat_lt ho hd ho' hd' ?_
  show PySem.W.KatLex prog w A true (decide (2 < 2)) _ [(.int x t, .int x' t'), (.bool y, .bool y')] 0 s
  refine PySem.W.kat_cons (SeqAt.EqAt.int_int x t x' t' prog w _ _ ?_)
  refine PySem.W.kat_go (fun e1 => ?_) (fun e1 => ?_)
  · have ex : x = x' := by simpa using e1
    have ey : y = y' := hg ex
    refine PySem.W.kat_yes (PySem.W.kat_cons (SeqAt.EqAt.bool_bool y y' prog w _ _ ?_))
    refine PySem.W.kat_go (fun e2 => ?_) (fun e2 => ?_)
    · have e3 : decide (x < x') = false := decide_eq_false (by omega)
      exact PySem.W.kat_yes (PySem.W.kat_nil ⟨rfl, e3.symm⟩)
    · rw [ey] at e2
      simp at e2
  · exact PySem.W.kat_no (oneLt_int ⟨rfl, rfl⟩)
open SrtO in
theorem pb_sortable {a : Addr} {vs : List Value} {k : Value → Int} {g : Value → Bool} (h0 : 0 < vs.length) (hp : ∀ v ∈ vs, IsPB s.heap v (k v) (g v)) (hu : ∀ v ∈ vs, ∀ u ∈ vs, k v = k u → g v = g u)
    (ha : ∀ o, s.heap.get? a = some o → o.cls ≠ .type "tuple") : SortableO prog w A s a vs (ltK k) := by
  intro h' keep
  have hp' : ∀ v ∈ vs, IsPB h' v (k v) (g v) := fun v hm => (hp v hm).keeps fun b o e c => keep b o (fun z => by subst z; exact ha o e c) e
  obtain ⟨fs, h1, h2, h3⟩ := firsts_pb fun v hm => ⟨_, _, hp' v hm⟩
  refine ⟨tuples' true, fun Q E hq => ?_, pb_cmp hp' hu⟩
  refine PySem.W.kat_kind (T := .type "int") h1 (by omega) (fun f hm => ?_) (by rfl) ?_
  · obtain ⟨x, t, rfl⟩ := h3 f hm
    exact PySem.W.Looks.now
  · have e : (Value.type "int" != Value.type "tuple") = true := by first | decide +kernel | rfl | decide
    rw [e]
    exact hq
end
/-! the list of the pairs, laid with the tuples -/
section
variable {X : Cx}
theorem pairs_laid {pins : List (Addr × Obj)} {σ : L2.St} {H : Hp} {s : Shared} {h' : Heap} {tk : Nat} {kvs : List (Key × V)} {vs : List (Key × Value)} {as : List Addr} {L : Addr} {ys : List V} {out : List Value} {c : Nat} (I : Inv X pins σ H s) (kv : KV kvs vs)
    (hk : ∀ b o, s.heap.get? b = some o → h'.get? b = some o) (newS : H L = none) (hLb : ∀ b o, s.heap.get? b = some o → b ≠ L) (hLa : L ∉ as) (hS : h'.get? L = some { cls := .type "list", dict := none, data := .seq out.toArray c, slots := #[] }) (hy : Vals ys out) (hyz : ys.length ≤ sizeLine)
    (hl : as.length = vs.length) (hG : PySem.W.KdxG (mixKind X.prog X.w) vs s.heap.objs.size h' as) :
    ∃ H' : Hp, (∀ b o, H b = some o → H' b = some o) ∧ H L = none ∧ (∀ t ∈ as, H t = none) ∧ H' L = some (.lst ys) ∧ Paired (fun (t : Addr) (q : Key × V) => H' t = some (.tup [kV q.1, q.2])) as kvs ∧ Inv X pins σ H' { s with heap := h', toks := tk } := by
  have lk : kvs.length = vs.length := Paired.length kv
  have nd : as.Nodup := List.Pairwise.imp (fun {a b} (h : a < b) => Nat.ne_of_lt h) hG.rise
  have new : ∀ t ∈ as, H t = none := fun t ht => I.hok.fresh (Nat.le_of_lt (hG.above t ht))
  have atP := LiI.putT_at as kvs (upd H L (.lst ys)) (by omega) nd
  have off : ∀ b, b ∉ as → b ≠ L → LiI.putT (upd H L (.lst ys)) as kvs b = H b := fun b h1 h2 => by rw [LiI.putT_off as kvs _ h1, upd_ne h2]
  have low : ∀ b o, s.heap.get? b = some o → b ∉ as ∧ b ≠ L := fun b o e => ⟨fun z => absurd (Heap.lt_size e) (Nat.not_lt.mpr (Nat.le_of_lt (hG.above b z))), hLb b o e⟩
  have kp : ∀ b u, H b = some u → (LiI.putT (upd H L (.lst ys)) as kvs) b = some u := fun b u e => by
    rw [off b (fun z => by rw [new b z] at e; cases e) (fun z => by rw [z, newS] at e; cases e)]
    exact e
  have eS : LiI.putT (upd H L (.lst ys)) as kvs L = some (.lst ys) := by rw [LiI.putT_off as kvs _ hLa, upd_same]
  refine ⟨LiI.putT (upd H L (.lst ys)) as kvs, kp, newS, new, eS, atP, ?_⟩
  refine I.call' (ch := []) rfl ⟨fun b o q _ _ _ => hk b o q, fun b o q _ _ _ => ⟨o.slots, hk b o q⟩, fun b o q n _ => ?_, fun b o q _ => ⟨o, hk b o q⟩, fun b xs q => kp b _ q, fun b o u q => kp b _ q, fun b ps q => ⟨#[], by rw [kp b _ q]; simp⟩⟩ (fun b u q => ?_) I.bare fun b z => by simp at z
  · obtain ⟨z1, z2⟩ := low b o q
    rw [off b z1 z2]
    exact n
  · by_cases hb : b ∈ as
    · obtain ⟨j, pk, e1, e2, e3⟩ := LiI.paired_ix atP hb
      rw [e3] at q
      cases q
      obtain ⟨key, k, x, f1, f2, f3⟩ := hG.pairs j b e1
      obtain ⟨qv, g1, g2, g3⟩ := LiI.paired_get kv e2
      rw [f1] at g1
      cases g1
      have rk : RelV (kV pk.1) key := by
        rw [g2]
        exact relV_key (show keyIs k key = true from f2)
      exact ⟨by show 2 ≤ sizeLine; decide, [key, x], .cons rk (.cons g3 .nil), ⟨_, f3, rfl, _, rfl⟩⟩
    · by_cases hb2 : b = L
      · rw [hb2] at q ⊢
        rw [eS] at q
        cases q
        exact ⟨hyz, out, c, hy, hS⟩
      · rw [off b hb hb2] at q
        exact (I.hok b u q).stay (fun d v _ y => hk d v y) (fun d y => kp d _ y) fun d xs y => kp d _ y
end
/-- the int and the bool of a pair, read off the heap -/
def kOf (h : Heap) : Value → Int
  | .ref a => match h.get? a with
    | some o => match o.data with
      | .seq its _ => match (its[0]? : Option Value) with
        | some (Value.int x _) => x
        | _ => 0
      | _ => 0
    | none => 0
  | _ => 0
def gOf (h : Heap) : Value → Bool
  | .ref a => match h.get? a with
    | some o => match o.data with
      | .seq its _ => match (its[1]? : Option Value) with
        | some (Value.bool x) => x
        | _ => false
      | _ => false
    | none => false
  | _ => false
theorem pb_reads {h : Heap} {v : Value} {x : Int} {b : Bool} (p : IsPB h v x b) : kOf h v = x ∧ gOf h v = b := by
  obtain ⟨a, o, t, n, rfl, ho, hc, hd⟩ := p
  unfold kOf gOf
  simp only [ho, hd]
  exact ⟨rfl, rfl⟩

def kvB (ks : List (Int × Bool)) : List (Key × V) := ks.map fun p => (Sum.inl p.1, V.bl p.2)
def rSortedI : List V → Hp → VK → Prop := fun vs H Q => ∃ (v d : Addr) (ks : List (Int × Bool)), vs = [V.ref v] ∧ H v = some (ViewO v d) ∧ H d = some (.dK (kvB ks)) ∧ (ks.map (·.1)).Nodup ∧
  ∀ (H' : Hp) (p : Addr) (ts : List Addr) (ks' : List (Int × Bool)), (∀ b o, H b = some o → H' b = some o) → H p = none → (∀ t ∈ ts, H t = none) → H' p = some (.lst (ts.map V.ref)) → ks'.Perm ks → ks'.Pairwise (fun a b => a.1 < b.1) →
    Paired (fun (t : Addr) (q : Int × Bool) => H' t = some (.tup [.int q.1, .bl q.2])) ts ks' → Q (.ref p) H'
theorem paired_map {α β γ : Type} {F : α → β → Prop} (f : γ → α) (g : γ → β) : ∀ {l : List γ}, (∀ x ∈ l, F (f x) (g x)) → Paired F (l.map f) (l.map g)
  | [], _ => .nil
  | x :: l, h => .cons (h x List.mem_cons_self) (paired_map f g fun y hy => h y (List.mem_cons_of_mem _ hy))
def unRef : Value → Addr
  | .ref a => a
  | _ => 0
section
variable {X : Cx}
theorem cr_sortedItems (hcalm : X.calm = true) : CallR X (.builtin "sorted") rSortedI := by
  intro pins s σ H xs us Q I r q
  obtain ⟨v, d, ks, rfl, hv, hd, hnd, q⟩ := q
  obtain ⟨u, rfl, ru⟩ := vals1 r
  obtain rfl : u = Value.ref v := ru
  have hview := (I.hok v _ hv).1
  obtain ⟨hz, hs0, vs, kv, hdo⟩ := I.hok d _ hd
  obtain ⟨ep, hat⟩ := hdo.dictAt
  have lk : (kvB ks).length = vs.length := Paired.length kv
  have lks : (kvB ks).length = ks.length := by unfold kvB; rw [List.length_map]
  refine Calls.call_function_entry PyProof.Rows.kind_sorted PyProof.Rows.plain_sorted PyProof.Rows.entry_sorted (PyProof.Rows.args_sorted1 _) ?_
  unfold Builtin.«sorted»
  refine wpAny_bind (m := checkCount "sorted" 1 1 _) (wpAny_pure ?_)
  refine wpAny_bind (PySem.W.kdx_collect (A := X.A.in1) (knd := mixKind X.prog X.w) (kvs := vs) (ep := ep) (I.ok.hd hcalm) ⟨_, hview, rfl, rfl⟩ hat (by omega) fun h' tk as hk hl hG => ?_)
  have hlen : (as.map Value.ref).length ≤ sizeLine := by rw [List.length_map]; omega
  refine wpAny_bind (wpAny_newList ?_ hlen)
  -- the pairs
  have hp : ∀ (j : Nat) (a : Addr), as[j]? = some a → ∃ p, ks[j]? = some p ∧ IsPB h' (.ref a) p.1 p.2 := fun j a hj => by
    obtain ⟨key, kk, x, e1, e2, e3⟩ := hG.pairs j a hj
    have hjl : j < as.length := (List.getElem?_eq_some_iff.mp hj).1
    have hjk : j < ks.length := by omega
    have e4 : (kvB ks)[j]? = some (Sum.inl (ks[j]).1, V.bl (ks[j]).2) := by
      unfold kvB
      rw [List.getElem?_map, List.getElem?_eq_getElem hjk] <;> rfl
    obtain ⟨qv, g1, g2, g3⟩ := LiI.paired_get kv e4
    rw [e1] at g1
    cases g1
    have rk : RelV (kV (Sum.inl (ks[j]).1)) key := by
      have z : kk = Sum.inl (ks[j]).1 := g2.symm
      rw [← z]
      exact relV_key (show keyIs kk key = true from e2)
    obtain ⟨t, rfl⟩ := rk
    obtain rfl : x = Value.bool (ks[j]).2 := g3
    exact ⟨ks[j], List.getElem?_eq_getElem hjk, a, _, t, _, rfl, e3, rfl, rfl⟩
  have hIs : ∀ v ∈ as.map Value.ref, IsPB h' v (kOf h' v) (gOf h' v) := fun v hm => by
    obtain ⟨a, ha, rfl⟩ := List.mem_map.mp hm
    obtain ⟨j, hj⟩ := List.mem_iff_getElem?.mp ha
    obtain ⟨p, _, hpb⟩ := hp j a hj
    obtain ⟨e1, e2⟩ := pb_reads hpb
    rw [e1, e2]
    exact hpb
  have hmap : (as.map Value.ref).map (fun v => (kOf h' v, gOf h' v)) = ks := by
    apply List.ext_getElem?
    intro j
    rw [List.map_map, List.getElem?_map]
    cases e : as[j]? with
    | none =>
      have : as.length ≤ j := List.getElem?_eq_none_iff.mp e
      rw [List.getElem?_eq_none (by omega)]
      rfl
    | some a =>
      obtain ⟨p, e1, hpb⟩ := hp j a e
      obtain ⟨e2, e3⟩ := pb_reads hpb
      rw [e1]
      show some (kOf h' (.ref a), gOf h' (.ref a)) = some p
      rw [e2, e3]
  have hu : ∀ v ∈ as.map Value.ref, ∀ u ∈ as.map Value.ref, kOf h' v = kOf h' u → gOf h' v = gOf h' u := fun v hm u hn e => by
    obtain ⟨i, hi⟩ := List.mem_iff_getElem?.mp hm
    obtain ⟨j, hj⟩ := List.mem_iff_getElem?.mp hn
    have e1 : ks[i]? = some (kOf h' v, gOf h' v) := by rw [← hmap, List.getElem?_map, hi]; rfl
    have e2 : ks[j]? = some (kOf h' u, gOf h' u) := by rw [← hmap, List.getElem?_map, hj]; rfl
    have f1 : (ks.map (·.1))[i]? = some (kOf h' v) := by rw [List.getElem?_map, e1]; rfl
    have f2 : (ks.map (·.1))[j]? = some (kOf h' v) := by rw [List.getElem?_map, e2, e]; rfl
    have ij : i = j := nd_ix hnd f1 f2
    subst ij
    rw [e1] at e2
    exact (Prod.mk.inj (Option.some.inj e2)).2
  have I1 : Inv X pins σ H { s with heap := h', toks := tk } := I.kept hk
  have hoL : (h'.push (seqObj "list" (as.map Value.ref).toArray 0)).get? h'.objs.size = some (seqObj "list" (as.map Value.ref).toArray 0) := Heap.get?_push_size _ rfl
  show wpAny _ _ _ _ _ { s with heap := h'.push (seqObj "list" (as.map Value.ref).toArray 0), toks := tk }
  refine wpAny_bind (wpAny_holding (wpAny_call_entry PyProof.Rows.slot_list_sort ⟨_, hoL, rfl⟩ PyProof.Rows.entry_list_sort
    (SrtO.list_sort_ord (swo_K (kOf h')) hoL hlen (fun h2 => ?_) fun out hs hb => ⟨_, rfl, ?_⟩) (PyProof.Rows.args_list_sort _)))
  · refine pb_sortable (g := gOf h') (by omega) (fun v hm => (hIs v hm).keeps fun b o e _ => Heap.get?_push_of_some _ e) hu fun o e => ?_
    rw [hoL] at e
    cases e
    intro c
    exact absurd (Value.type.inj c) (by decide)
  · have hout : ∀ x ∈ out, ∃ a ∈ as, x = Value.ref a := fun x hx => by
      obtain ⟨a, ha, e⟩ := List.mem_map.mp (hb.perm.mem_iff.mp hx)
      exact ⟨a, ha, e.symm⟩
    have eout : out = (out.map unRef).map Value.ref := by
      rw [List.map_map]
      conv => lhs; rw [← List.map_id out]
      refine List.map_congr_left fun x hx => ?_
      obtain ⟨a, _, rfl⟩ := hout x hx
      rfl
    obtain ⟨e', he'⟩ := PyProof.Rows.sortedHeap_at (vs := as.map Value.ref) (out := out.toArray) hoL
    have hkk : ∀ b o, h'.get? b = some o → (sortedHeap (h'.push (seqObj "list" (as.map Value.ref).toArray 0)) h'.objs.size (as.map Value.ref) out.toArray).get? b = some o := fun b u e => by
      have hb : b < h'.objs.size := Heap.lt_size e
      rw [PyProof.Rows.sortedHeap_old (Nat.ne_of_lt hb) (by rw [size_push']; exact Nat.lt_succ_of_lt hb)]
      exact Heap.get?_push_of_some _ e
    have hLa : h'.objs.size ∉ as := fun z => Nat.lt_irrefl _ (hG.there z)
    have hG3 : PySem.W.KdxG (mixKind X.prog X.w) vs s.heap.objs.size (sortedHeap (h'.push (seqObj "list" (as.map Value.ref).toArray 0)) h'.objs.size (as.map Value.ref) out.toArray) as := ⟨hG.rise, hG.above, fun j a hj => by
      obtain ⟨key, kk, x, e1, e2, e3⟩ := hG.pairs j a hj
      exact ⟨key, kk, x, e1, e2, hkk _ _ e3⟩⟩
    have hyv : Vals ((out.map unRef).map V.ref) out := by
      have z : Vals ((out.map unRef).map V.ref) ((out.map unRef).map Value.ref) := LiI.vals_refs _
      rw [← eout] at z
      exact z
    have hyz : ((out.map unRef).map V.ref).length ≤ sizeLine := by
      rw [List.length_map, List.length_map, hb.perm.length_eq]
      exact hlen
    obtain ⟨H', k1, k2, k3, k4, k5, J⟩ := pairs_laid (tk := tk) I kv (fun b o e => hkk b o (hk b o e)) (I1.hok.fresh (Nat.le_refl _)) (fun b o e => Nat.ne_of_lt (Heap.lt_size (hk b o e))) hLa he' hyv hyz hl hG3
    have kper : (out.map fun v => (kOf h' v, gOf h' v)).Perm ks := by
      have z := hb.perm.map fun v => (kOf h' v, gOf h' v)
      rw [hmap] at z
      exact z
    refine wpAny_pure ⟨_, rfl, .ref h'.objs.size, H', J, rfl, q H' _ (out.map unRef) (out.map fun v => (kOf h' v, gOf h' v)) k1 k2 (fun t ht => ?_) k4 kper ?_ ?_⟩
    · obtain ⟨x, hx, rfl⟩ := List.mem_map.mp ht
      obtain ⟨a, ha, rfl⟩ := hout x hx
      exact k3 a ha
    · have nd2 : ((out.map fun v => (kOf h' v, gOf h' v)).map (·.1)).Nodup := (kper.map (·.1)).nodup_iff.mpr hnd
      have nd3 : out.Pairwise fun v u => kOf h' v ≠ kOf h' u := by
        rw [List.map_map] at nd2
        exact List.pairwise_map.mp nd2
      refine List.pairwise_map.mpr ?_
      have hs' : out.Pairwise fun x y => ltK (kOf h') y x = false := hs
      refine List.Pairwise.imp (fun {a b} (h : ltK (kOf h') b a = false ∧ kOf h' a ≠ kOf h' b) => ?_) (List.pairwise_and_iff.mpr ⟨hs', nd3⟩)
      have h1 : ¬ kOf h' b < kOf h' a := of_decide_eq_false h.1
      have h2 := h.2
      show kOf h' a < kOf h' b
      omega
    · refine paired_map unRef (fun v => (kOf h' v, gOf h' v)) fun x hx => ?_
      obtain ⟨a, ha, rfl⟩ := hout x hx
      obtain ⟨j, hj⟩ := List.mem_iff_getElem?.mp ha
      obtain ⟨qv, g1, g2⟩ := LiI.paired_get k5 hj
      obtain ⟨p, e1, hpb⟩ := hp j a hj
      obtain ⟨e2, e3⟩ := pb_reads hpb
      have g3 : (kvB ks)[j]? = some (Sum.inl p.1, V.bl p.2) := by
        unfold kvB
        rw [List.getElem?_map, e1] <;> rfl
      rw [g3] at g1
      cases g1
      show H' a = some (.tup [.int (kOf h' (.ref a)), .bl (gOf h' (.ref a))])
      rw [e2, e3]
      exact g2
end
end Ln
namespace Ln
open PySem L2
def top (i : Nat) : Stmt := PySem.Challenge.pw_devicewindows_k06_lines_read_and_written.main.body.getD i (.Pass ⟨0, 0, 0, 0⟩)
abbrev sBag : Stmt := top 13
abbrev sTake : Stmt := top 14
/-! ### drawn numbers -/
/-- all but b stands as before -/
def Off (b : Addr) (H H' : Hp) : Prop := ∀ c, c ≠ b → H' c = H c
/-- the bag's three numbers; at most N mixed numbers were taken so far -/
def BagAt (H : Hp) (b : Addr) (N : Nat) : Prop := ∃ l x c : Int, H b = some (.lst [.int l, .int x, .int c]) ∧ 0 ≤ l ∧ 0 ≤ x ∧ x < 6 * 10 ^ 18 ∧ 0 ≤ c ∧ c ≤ N
def spTake : Sp := fun vs H Q _ => ∃ (b : Addr) (m : Int) (N : Nat), vs = [.ref b, .int m] ∧ 1 ≤ m ∧ m < 1073741824 ∧ BagAt H b N ∧ N < 1000000 ∧
  ∀ (r : Int) (H' : Hp), 0 ≤ r → r < m → BagAt H' b (N + 1) → Off b H H' → Q (.int r) H'
theorem fmod_in {a m : Int} (h : 1 ≤ m) : 0 ≤ a.fmod m ∧ a.fmod m < m := by
  rw [Int.fmod_eq_emod_of_nonneg a (by omega)]
  exact ⟨Int.emod_nonneg _ (by omega), Int.emod_lt_of_pos _ (by omega)⟩
theorem fdiv_in {a m : Int} (h : 1 ≤ m) (ha : 0 ≤ a) : 0 ≤ a.fdiv m := by
  rw [Int.fdiv_eq_ediv_of_nonneg a (by omega)]
  exact Int.ediv_nonneg ha (by omega)
section
variable {P : Program} {w : World} {K : PySem.W.Frag} {mg : Str → Option Value} {base : Heap}
theorem scTake : FnScope ["_law_bag_here", "_law_many", "_law_digit", "_law_mixed"] ["_law_bag_here", "_law_many"] (defScope sTake) := ⟨rfl, rfl, rfl, by decide +kernel, rfl, by decide +kernel, by decide +kernel⟩
theorem sq_bd {c : Int} (h0 : 0 ≤ c) (h : c ≤ 1000001) : 0 ≤ 8081 * c * c ∧ 8081 * c * c ≤ 8081 * 1000001 * 1000001 := by
  have h1 : 0 ≤ 8081 * c := by omega
  refine ⟨Int.mul_nonneg h1 h0, ?_⟩
  exact Int.mul_le_mul (by omega) h h0 (by decide)
theorem ok_take {f : Addr} {fd : FuncData} (F : Fun K "_law_take" "_law_take" sTake f fd) : FnOk P w K mg base CX0 1 f fd ["_law_bag_here", "_law_many"] spTake := by
  refine F.ok scTake (fun vs H Q E h => ?_) (fun cdv A outer s H vs Q E hr h => ?_)
  · obtain ⟨b, m, N, rfl, _⟩ := h
    rfl
  · obtain ⟨b, m, N, rfl, m1, m2, ⟨l, x, c, hb, l0, x0, x1, c0, cN⟩, hN, k⟩ := h
    refine ⟨_, pss_cons (ps_if (pt_cmpR op_gt (pe_ix ix_list (pv 0) pe_int (fun _ _ => rfl)) pe_int (nomark _))
        (pss_cons (ps_set (i := 2) scTake.nd rfl (Or.inl rfl) (pe_op op_modN (pe_ix ix_list (pv 0) pe_int (fun _ _ => rfl)) (pv 1)))
        (pss_cons (ps_asg (pe_op op_fdivN (pe_ix ix_list (pv 0) pe_int (fun _ _ => rfl)) (pv 1)) (pg_sub (pv 0) pe_int set_list))
        (pss_one (ps_ret (pv 2))))) pss_nil)
      (pss_cons (ps_asg (pe_op op_add (pe_ix ix_list (pv 0) pe_int (fun _ _ => rfl)) pe_int) (pg_sub (pv 0) pe_int set_list))
      (pss_cons (ps_set (i := 3) scTake.nd rfl (Or.inl rfl) (pe_op op_mod (pe_op op_pow (pe_op op_add (pe_ix ix_list (pv 0) pe_int (fun _ _ => rfl))
          (pe_op op_mul (pe_op op_mul pe_int (pe_ix ix_list (pv 0) pe_int (fun _ _ => rfl))) (pe_ix ix_list (pv 0) pe_int (fun _ _ => rfl)))) pe_int) pe_int))
      (pss_one (ps_ret (pe_op op_modN (pe_op op_fdiv (pe_op op_mod (pe_op op_mul (pv 3) (pe_op op_add (pe_op op_fdiv (pv 3) pe_int) (pe_op op_mul pe_int (pe_ix ix_list (pv 0) pe_int (fun _ _ => rfl))))) pe_int) pe_int) (pv 1)))))), ?_⟩
    refine ⟨_, rfl, b, _, _, _, rfl, rfl, SqL.of hb, rfl, _, _, rfl, rfl, _, rfl, ?_⟩
    refine ite2 (fun hl => ?_) (fun hl => ?_)
    · have hl' : 0 < l := of_decide_eq_true hl
      refine ⟨_, rfl, b, _, _, _, rfl, rfl, SqL.of hb, rfl, _, rfl, _, _, rfl, rfl, by omega, ?_⟩
      refine ⟨_, rfl, b, _, _, _, rfl, rfl, SqL.of hb, rfl, _, rfl, _, _, rfl, rfl, ⟨by omega, by omega⟩, _, rfl, b, _, _, 0, rfl, rfl, hb, rfl, ?_⟩
      refine ⟨_, rfl, k _ _ (fmod_in m1).1 (fmod_in m1).2 ⟨_, x, c, upd_same, fdiv_in m1 l0, x0, x1, c0, by omega⟩ fun d hd => upd_ne hd⟩
    · obtain ⟨q0, q1⟩ := sq_bd (c := c + 1) (by omega) (by omega)
      refine ⟨_, rfl, b, _, _, _, rfl, rfl, SqL.of hb, rfl, _, _, rfl, rfl, _, rfl, b, _, _, 2, rfl, rfl, hb, rfl, ?_⟩
      have hb2 : (upd H b (.lst [.int l, .int x, .int (c + 1)])) b = some (.lst [.int l, .int x, .int (c + 1)]) := upd_same
      refine ⟨_, rfl, b, _, _, _, rfl, rfl, SqL.of hb2, rfl, _, rfl, b, _, _, _, rfl, rfl, SqL.of hb2, rfl, _, _, rfl, rfl, .inl ⟨by decide, by decide⟩, _, rfl, b, _, _, _, rfl, rfl, SqL.of hb2, rfl, _, _, rfl, rfl, .inr ⟨by omega, by omega⟩, _, _, rfl, rfl, _, _, rfl, rfl, ⟨by decide, by decide, by omega⟩, _, _, rfl, rfl, (by show (0 : Int) < 2147483563; decide), ?_⟩
      generalize hy : ((x + 8081 * (c + 1) * (c + 1)) ^ ((3 : Int)).toNat) % 2147483563 = y
      have y0 : 0 ≤ y := by rw [← hy]; exact Int.emod_nonneg _ (by decide)
      have y1 : y < 2147483563 := by rw [← hy]; exact Int.emod_lt_of_pos _ (by decide)
      refine ⟨_, rfl, _, rfl, _, _, rfl, rfl, ⟨by decide, by decide⟩, _, rfl, b, _, _, _, rfl, rfl, SqL.of hb2, rfl, _, _, rfl, rfl, .inl ⟨by decide, by decide⟩, _, _, rfl, rfl, _, _, rfl, rfl, .inl ⟨by omega, by omega⟩, _, _, rfl, rfl, (by show (0 : Int) < 2147483549; decide), _, _, rfl, rfl, ⟨by decide, by decide⟩, _, rfl, _, _, rfl, rfl, by omega, ?_⟩
      exact k _ _ (fmod_in m1).1 (fmod_in m1).2 ⟨l, x, c + 1, hb2, l0, x0, x1, by omega, by omega⟩ fun d hd => upd_ne hd
end
end Ln
namespace Ln
open PySem L2
/-! ### the cache as a list of entries -/
structure Ent where
  ln : Int
  ad : Addr
  x : Int
  y : Int
  dt : Bool
def vK (es : List Ent) : List (Key × V) := es.map fun e => (Sum.inl e.ln, V.ref e.ad)
def dB (es : List Ent) : List (Key × V) := es.map fun e => (Sum.inl e.ln, V.bl e.dt)
def fnd (es : List Ent) (n : Int) : Option Ent := es.find? fun e => decide (e.ln = n)
def setE (es : List Ent) (n : Int) (f : Ent → Ent) : List Ent := es.map fun e => if e.ln = n then f e else e
def delE (es : List Ent) (n : Int) : List Ent := es.filter fun e => decide (e.ln ≠ n)
theorem val_map (g : Ent → V) (n : Int) : ∀ es : List Ent, valV (es.map fun e => ((Sum.inl e.ln : Key), g e)) (Sum.inl n) = (fnd es n).map g
  | [] => rfl
  | e :: es => by
    have ih := val_map g n es
    rw [List.map_cons]
    by_cases h : e.ln = n
    · rw [valV_pos (by rw [h])]
      unfold fnd
      rw [List.find?_cons_of_pos (by simp [h])]
      rfl
    · rw [valV_neg (fun z => h (Sum.inl.inj z)), ih]
      unfold fnd
      rw [List.find?_cons_of_neg (by simp [h])]
theorem val_v (es : List Ent) (n : Int) : valV (vK es) (Sum.inl n) = (fnd es n).map fun e => V.ref e.ad := val_map _ n es
theorem val_d (es : List Ent) (n : Int) : valV (dB es) (Sum.inl n) = (fnd es n).map fun e => V.bl e.dt := val_map _ n es
theorem fnd_mem {es : List Ent} {n : Int} {e : Ent} (h : fnd es n = some e) : e ∈ es ∧ e.ln = n := by
  unfold fnd at h
  exact ⟨List.mem_of_find?_eq_some h, by simpa using List.find?_some h⟩
theorem fnd_no {es : List Ent} {n : Int} (h : fnd es n = none) : ∀ e ∈ es, e.ln ≠ n := by
  unfold fnd at h
  intro e he
  simpa using List.find?_eq_none.mp h e he
theorem fnd_none {es : List Ent} {n : Int} (h : ∀ e ∈ es, e.ln ≠ n) : fnd es n = none := by
  unfold fnd
  exact List.find?_eq_none.mpr fun e he => by simpa using h e he
theorem put_d {es : List Ent} {n : Int} {e : Ent} (b : Bool) (h : fnd es n = some e) : putK (dB es) (Sum.inl n) (V.bl b) = dB (setE es n fun e => { e with dt := b }) := by
  unfold putK
  have hv : valV (dB es) (Sum.inl n) = some (V.bl e.dt) := by rw [val_d, h] <;> rfl
  rw [valV_any, hv, if_pos (show (some (V.bl e.dt)).isSome = true from rfl)]
  unfold dB setE
  rw [List.map_map, List.map_map]
  refine List.map_congr_left fun a _ => ?_
  show (if (Sum.inl a.ln : Key) = Sum.inl n then ((Sum.inl a.ln : Key), V.bl b) else (Sum.inl a.ln, V.bl a.dt)) = _
  by_cases q : a.ln = n
  · rw [if_pos (by rw [q])]
    show _ = ((Sum.inl (if a.ln = n then _ else _ : Ent).ln : Key), V.bl (if a.ln = n then _ else _ : Ent).dt)
    rw [if_pos q]
  · rw [if_neg (fun z => q (Sum.inl.inj z))]
    show _ = ((Sum.inl (if a.ln = n then _ else _ : Ent).ln : Key), V.bl (if a.ln = n then _ else _ : Ent).dt)
    rw [if_neg q]
theorem new_v {es : List Ent} {n : Int} (a : Addr) (x y : Int) (b : Bool) (h : fnd es n = none) : putK (vK es) (Sum.inl n) (V.ref a) = vK (es ++ [⟨n, a, x, y, b⟩]) := by
  rw [putK_new _ (by rw [val_v, h] <;> rfl)]
  unfold vK
  rw [List.map_append]
  rfl
theorem new_d {es : List Ent} {n : Int} (a : Addr) (x y : Int) (b : Bool) (h : fnd es n = none) : putK (dB es) (Sum.inl n) (V.bl b) = dB (es ++ [⟨n, a, x, y, b⟩]) := by
  rw [putK_new _ (by rw [val_d, h] <;> rfl)]
  unfold dB
  rw [List.map_append]
  rfl
theorem drop_map (g : Ent → V) (n : Int) : ∀ es : List Ent, dropK (es.map fun e => ((Sum.inl e.ln : Key), g e)) (Sum.inl n) = (delE es n).map fun e => ((Sum.inl e.ln : Key), g e)
  | [] => rfl
  | e :: es => by
    have ih := drop_map g n es
    rw [List.map_cons]
    unfold delE at ih ⊢
    by_cases h : e.ln = n
    · rw [dropK_pos (by rw [h]), List.filter_cons_of_neg (by simp [h]), ih]
    · rw [dropK_neg (fun z => h (Sum.inl.inj z)), List.filter_cons_of_pos (by simp [h]), ih]
      rfl
theorem drop_v (es : List Ent) (n : Int) : dropK (vK es) (Sum.inl n) = vK (delE es n) := drop_map _ n es
theorem drop_d (es : List Ent) (n : Int) : dropK (dB es) (Sum.inl n) = dB (delE es n) := drop_map _ n es
theorem setE_vK (es : List Ent) (n : Int) (f : Ent → Ent) (h : ∀ e, (f e).ln = e.ln ∧ (f e).ad = e.ad) : vK (setE es n f) = vK es := by
  unfold vK setE
  rw [List.map_map]
  refine List.map_congr_left fun a _ => ?_
  show ((Sum.inl (if a.ln = n then f a else a).ln : Key), V.ref (if a.ln = n then f a else a).ad) = _
  by_cases q : a.ln = n
  · rw [if_pos q, (h a).1, (h a).2]
  · rw [if_neg q]
theorem setE_map {α : Type} (g : Ent → α) (es : List Ent) (n : Int) (f : Ent → Ent) (h : ∀ e, g (f e) = g e) : (setE es n f).map g = es.map g := by
  unfold setE
  rw [List.map_map]
  refine List.map_congr_left fun a _ => ?_
  show g (if a.ln = n then f a else a) = g a
  by_cases q : a.ln = n
  · rw [if_pos q, h a]
  · rw [if_neg q]
theorem setE_mem {es : List Ent} {n : Int} {f : Ent → Ent} {e : Ent} (h : e ∈ setE es n f) : ∃ a ∈ es, e = if a.ln = n then f a else a := by
  unfold setE at h
  obtain ⟨a, ha, rfl⟩ := List.mem_map.mp h
  exact ⟨a, ha, rfl⟩
theorem setE_len (es : List Ent) (n : Int) (f : Ent → Ent) : (setE es n f).length = es.length := List.length_map _
theorem setE_none {es : List Ent} {n : Int} (f : Ent → Ent) (h : fnd es n = none) : setE es n f = es := by
  unfold setE
  conv => rhs; rw [← List.map_id es]
  refine List.map_congr_left fun a ha => ?_
  rw [if_neg (fnd_no h a ha)]
  rfl
/-- entries of different lines are apart -/
theorem uniq_ln {es : List Ent} (nd : (es.map (·.ln)).Nodup) {a b : Ent} (ha : a ∈ es) (hb : b ∈ es) (h : a.ln = b.ln) : a = b := by
  obtain ⟨i, hi⟩ := List.mem_iff_getElem?.mp ha
  obtain ⟨j, hj⟩ := List.mem_iff_getElem?.mp hb
  have e : i = j := nd_ix nd (by rw [List.getElem?_map, hi]; rfl) (by rw [List.getElem?_map, hj]; exact congrArg some h.symm)
  subst e
  rw [hi] at hj
  exact Option.some.inj hj
theorem uniq_ad {es : List Ent} (nd : (es.map (·.ad)).Nodup) {a b : Ent} (ha : a ∈ es) (hb : b ∈ es) (h : a.ad = b.ad) : a = b := by
  obtain ⟨i, hi⟩ := List.mem_iff_getElem?.mp ha
  obtain ⟨j, hj⟩ := List.mem_iff_getElem?.mp hb
  have e : i = j := nd_ix nd (by rw [List.getElem?_map, hi]; rfl) (by rw [List.getElem?_map, hj]; exact congrArg some h.symm)
  subst e
  rw [hi] at hj
  exact Option.some.inj hj
theorem fnd_some {es : List Ent} (nd : (es.map (·.ln)).Nodup) {e : Ent} (h : e ∈ es) : fnd es e.ln = some e := by
  cases q : fnd es e.ln with
  | none => exact absurd rfl (fnd_no q e h)
  | some a =>
    obtain ⟨h1, h2⟩ := fnd_mem q
    rw [uniq_ln nd h1 h h2]
theorem delE_mem {es : List Ent} {n : Int} {e : Ent} : e ∈ delE es n ↔ e ∈ es ∧ e.ln ≠ n := by
  unfold delE
  rw [List.mem_filter, decide_eq_true_eq]
theorem delE_sub (es : List Ent) (n : Int) : (delE es n).Sublist es := List.filter_sublist
theorem snoc_nd {α : Type} {l : List α} {k : α} (h : l.Nodup) (hk : ¬ k ∈ l) : (l ++ [k]).Nodup := by
  refine List.nodup_append.mpr ⟨h, by simp, fun a ha b hb => ?_⟩
  rw [List.mem_singleton.mp hb]
  exact fun z => hk (z ▸ ha)
/-! ### fnd behind each deed -/
theorem fnd_snoc {es : List Ent} {n : Int} {e : Ent} (h : fnd es e.ln = none) : fnd (es ++ [e]) n = if e.ln = n then some e else fnd es n := by
  by_cases q : e.ln = n
  · rw [if_pos q]
    unfold fnd at h ⊢
    rw [List.find?_append, ← q, h, List.find?_cons_of_pos (by simp)]
    rfl
  · rw [if_neg q]
    unfold fnd
    rw [List.find?_append, List.find?_cons_of_neg (by simp [q])]
    simp
theorem fnd_set {es : List Ent} {n k : Int} {f : Ent → Ent} (hf : ∀ e, (f e).ln = e.ln) : fnd (setE es n f) k = (fnd es k).map fun e => if k = n then f e else e := by
  induction es with
  | nil => rfl
  | cons a es ih =>
    show fnd ((if a.ln = n then f a else a) :: setE es n f) k = _
    have el : (if a.ln = n then f a else a).ln = a.ln := by
      by_cases q : a.ln = n
      · rw [if_pos q, hf]
      · rw [if_neg q]
    unfold fnd at ih ⊢
    by_cases q : a.ln = k
    · rw [List.find?_cons_of_pos (by rw [el]; simp [q]), List.find?_cons_of_pos (by simp [q])]
      show some (if a.ln = n then f a else a) = some (if k = n then f a else a)
      rw [q]
    · rw [List.find?_cons_of_neg (by simp [el, q]), List.find?_cons_of_neg (by simp [q]), ih]
theorem fnd_del {es : List Ent} {n k : Int} : fnd (delE es n) k = if k = n then none else fnd es k := by
  induction es with
  | nil => by_cases q : k = n <;> simp [fnd, delE, q]
  | cons a es ih =>
    unfold fnd delE at ih ⊢
    by_cases q : a.ln = n
    · rw [List.filter_cons_of_neg (by simp [q]), ih]
      by_cases z : k = n
      · rw [if_pos z, if_pos z]
      · rw [if_neg z, if_neg z, List.find?_cons_of_neg (by simp; omega)]
    · rw [List.filter_cons_of_pos (by simp [q])]
      by_cases z : a.ln = k
      · rw [List.find?_cons_of_pos (by simp [z]), List.find?_cons_of_pos (by simp [z]), if_neg (by omega)]
      · rw [List.find?_cons_of_neg (by simp [z]), List.find?_cons_of_neg (by simp [z]), ih]
/-! ### slices of the memory -/
theorem cut2 {xs : List Int} {i : Nat} (h : i + 1 < xs.length) : cutV (xs.map V.int) (some (i : Int)) (some ((i : Int) + 2)) = [V.int xs[i], V.int xs[i + 1]] := by
  unfold cutV
  have e2 : ((i : Int) + 2) = ((i + 2 : Nat) : Int) := by omega
  rw [e2, HT.sIx_nat, HT.sIx_nat, List.length_map, Nat.min_eq_left (by omega), Nat.min_eq_left (by omega)]
  rw [← List.map_drop, ← List.map_take]
  have e3 : i + 2 - i = 2 := by omega
  rw [e3]
  rw [List.drop_eq_getElem_cons (by omega), List.drop_eq_getElem_cons (by omega)]
  rfl
theorem splice2 {xs : List Int} {i : Nat} {x y : Int} (h : i + 1 < xs.length) : (xs.map V.int).take i ++ [V.int x, V.int y] ++ (xs.map V.int).drop (i + 2) = ((xs.set i x).set (i + 1) y).map V.int := by
  apply List.ext_getElem?
  intro j
  rw [← List.map_take, ← List.map_drop, List.getElem?_map]
  rcases Nat.lt_or_ge j i with q | q
  · rw [List.append_assoc, List.getElem?_append_left (by rw [List.length_map, List.length_take]; omega), List.getElem?_map, List.getElem?_take_of_lt q, List.getElem?_set_ne (by omega), List.getElem?_set_ne (by omega)]
  · by_cases q1 : j = i
    · subst q1
      rw [List.append_assoc, List.getElem?_append_right (by rw [List.length_map, List.length_take]; omega), List.length_map, List.length_take, Nat.min_eq_left (by omega), Nat.sub_self, List.getElem?_set_ne (by omega), List.getElem?_set_self (by omega)]
      rfl
    · by_cases q2 : j = i + 1
      · subst q2
        rw [List.append_assoc, List.getElem?_append_right (by rw [List.length_map, List.length_take]; omega), List.length_map, List.length_take, Nat.min_eq_left (by omega), List.getElem?_set_self (by rw [List.length_set]; omega)]
        have : i + 1 - i = 1 := by omega
        rw [this]
        rfl
      · rw [List.getElem?_append_right (by rw [List.length_append, List.length_map, List.length_take]; simp; omega), List.length_append, List.length_map, List.length_take, Nat.min_eq_left (by omega), List.getElem?_map, List.getElem?_drop, List.getElem?_set_ne (by omega), List.getElem?_set_ne (by omega)]
        have : i + 2 + (j - (i + [V.int x, V.int y].length)) = j := by show i + 2 + (j - (i + 2)) = j; omega
        rw [this]
end Ln
namespace Ln
open PySem L2
abbrev sInit : Stmt := inClass (top 11) 0
abbrev sHeld : Stmt := inClass (top 11) 1
abbrev sRead : Stmt := inClass (top 11) 2
abbrev sWrite : Stmt := inClass (top 11) 3
abbrev sLoad : Stmt := inClass (top 11) 4
abbrev sClean : Stmt := inClass (top 11) 5
abbrev sDrop : Stmt := inClass (top 11) 6
abbrev sEvict : Stmt := inClass (top 11) 7
/-! ### the object -/
theorem n1 : ¬ (("_values" : Str) = "_dirty") := by decide +kernel
theorem n2 : ¬ (("_memory" : Str) = "_dirty") := by decide +kernel
theorem n3 : ¬ (("_memory" : Str) = "_values") := by decide +kernel
def flds (m v d : Addr) : List (Str × V) := putF "_dirty" (.ref d) (putF "_values" (.ref v) (putF "_memory" (.ref m) []))
theorem flds_m (m v d : Addr) : (flds m v d).lookup ("_memory" : Str) = some (.ref m) := by
  unfold flds
  rw [lookup_putF, if_neg n2, lookup_putF, if_neg n3, lookup_putF, if_pos rfl]
theorem flds_v (m v d : Addr) : (flds m v d).lookup ("_values" : Str) = some (.ref v) := by
  unfold flds
  rw [lookup_putF, if_neg n1, lookup_putF, if_pos rfl]
theorem flds_d (m v d : Addr) : (flds m v d).lookup ("_dirty" : Str) = some (.ref d) := by
  unfold flds
  rw [lookup_putF, if_pos rfl]
theorem flds_no (m v d : Addr) {x : Str} (h1 : ¬ x = "_dirty") (h2 : ¬ x = "_values") (h3 : ¬ x = "_memory") : (flds m v d).lookup x = none := by
  unfold flds
  rw [lookup_putF, if_neg h1, lookup_putF, if_neg h2, lookup_putF, if_neg h3]
  all_goals rfl
/-- THE INVARIANT: a cache at p over the memory at m, behind the heap H0 in which it was made -/
structure CA (C : Addr) (H0 H : Hp) (p m v d dx : Addr) (cells : List Int) (es : List Ent) : Prop where
  ob : H p = some (.ins C dx (flds m v d))
  mm : H m = some (.lst (cells.map V.int))
  vv : H v = some (.dK (vK es))
  dd : H d = some (.dK (dB es))
  en : ∀ e ∈ es, H e.ad = some (.lst [.int e.x, .int e.y])
  nd : (es.map (·.ln)).Nodup
  na : (es.map (·.ad)).Nodup
  fp : H0 p = none
  fv : H0 v = none
  fd : H0 d = none
  fe : ∀ e ∈ es, H0 e.ad = none
  st : ∀ c, H0 c ≠ none → H c ≠ none
  m0 : H0 m ≠ none
  vd : v ≠ d
  cl : cells.length ≤ 900
  el : es.length ≤ 900
/-- of what H0 knew just the memory may have changed -/
def Fm (H0 : Hp) (m : Addr) (H H' : Hp) : Prop := ∀ c, H0 c ≠ none → c ≠ m → H' c = H c
theorem Fm.refl {H0 : Hp} {m : Addr} {H : Hp} : Fm H0 m H H := fun _ _ _ => rfl
theorem Fm.trans {H0 : Hp} {m : Addr} {H H1 H2 : Hp} (a : Fm H0 m H H1) (b : Fm H0 m H1 H2) : Fm H0 m H H2 := fun c h n => (b c h n).trans (a c h n)
theorem Fm.put {H0 H : Hp} {m a : Addr} {o : HO} (h : H0 a = none) : Fm H0 m H (upd H a o) := fun c hc _ => upd_ne fun z => hc (by rw [z]; exact h)
theorem Fm.putM {H0 H : Hp} {m : Addr} {o : HO} : Fm H0 m H (upd H m o) := fun c _ n => upd_ne n
/-- another object that H0 knew changes -/
theorem CA.frame {C : Addr} {H0 H H' : Hp} {p m v d dx b : Addr} {cells : List Int} {es : List Ent} (I : CA C H0 H p m v d dx cells es) (hb : H0 b ≠ none) (hbm : b ≠ m) (k : Off b H H') (hn : H' b ≠ none) : CA C H0 H' p m v d dx cells es := by
  have ne : ∀ c, H0 c = none → H' c = H c := fun c hc => k c fun z => hb (by rw [← z]; exact hc)
  refine ⟨(ne _ I.fp).trans I.ob, (k m (fun z => hbm z.symm)).trans I.mm, (ne _ I.fv).trans I.vv, (ne _ I.fd).trans I.dd, fun e he => (ne _ (I.fe e he)).trans (I.en e he), I.nd, I.na, I.fp, I.fv, I.fd, I.fe, fun c hc => ?_, I.m0, I.vd, I.cl, I.el⟩
  by_cases q : c = b
  · rw [q]; exact hn
  · rw [k c q]; exact I.st c hc
/-- objects that were not there change nothing -/
theorem CA.same {C : Addr} {H0 H H' : Hp} {p m v d dx : Addr} {cells : List Int} {es : List Ent} (I : CA C H0 H p m v d dx cells es) (k : Same H H') : CA C H0 H' p m v d dx cells es := by
  refine ⟨k _ _ I.ob, k _ _ I.mm, k _ _ I.vv, k _ _ I.dd, fun e he => k _ _ (I.en e he), I.nd, I.na, I.fp, I.fv, I.fd, I.fe, fun c hc => ?_, I.m0, I.vd, I.cl, I.el⟩
  cases q : H c with
  | none => exact absurd q (I.st c hc)
  | some o => rw [k _ _ q]; simp
/-! ### the mirror -/
def LdR (cells : List Int) (es : List Ent) (n : Int) (es' : List Ent) : Prop :=
  (∃ e, fnd es n = some e ∧ es' = es) ∨ (fnd es n = none ∧ ∃ a, es' = es ++ [⟨n, a, cells.getD (2 * n).toNat 0, cells.getD ((2 * n).toNat + 1) 0, false⟩])
def clnC (cells : List Int) (es : List Ent) (n : Int) : List Int := match fnd es n with
  | some e => if e.dt = true then (cells.set (2 * n).toNat e.x).set ((2 * n).toNat + 1) e.y else cells
  | none => cells
def clnE (es : List Ent) (n : Int) : List Ent := setE es n fun e => { e with dt := false }
def putE (es : List Ent) (w z : Int) : List Ent := setE es (w / 2) fun e => { e with x := if w % 2 = 0 then z else e.x, y := if w % 2 = 0 then e.y else z, dt := true }
theorem clnC_len (cells : List Int) (es : List Ent) (n : Int) : (clnC cells es n).length = cells.length := by
  unfold clnC
  cases fnd es n with
  | none => rfl
  | some e =>
    show (if e.dt = true then _ else cells).length = _
    by_cases h : e.dt = true
    · rw [if_pos h, List.length_set, List.length_set]
    · rw [if_neg h]
theorem putE_vK (es : List Ent) (w z : Int) : vK (putE es w z) = vK es := setE_vK es (w / 2) _ fun _ => ⟨rfl, rfl⟩
theorem putE_ln (es : List Ent) (w z : Int) : (putE es w z).map (·.ln) = es.map (·.ln) := setE_map (·.ln) es (w / 2) _ fun _ => rfl
theorem putE_ad (es : List Ent) (w z : Int) : (putE es w z).map (·.ad) = es.map (·.ad) := setE_map (·.ad) es (w / 2) _ fun _ => rfl
theorem clnE_vK (es : List Ent) (w : Int) : vK (clnE es w) = vK es := setE_vK es w _ fun _ => ⟨rfl, rfl⟩
theorem clnE_ln (es : List Ent) (w : Int) : (clnE es w).map (·.ln) = es.map (·.ln) := setE_map (·.ln) es w _ fun _ => rfl
theorem clnE_ad (es : List Ent) (w : Int) : (clnE es w).map (·.ad) = es.map (·.ad) := setE_map (·.ad) es w _ fun _ => rfl
theorem ldr_has {cells : List Int} {es es' : List Ent} {n : Int} (h : LdR cells es n es') : ∃ e, fnd es' n = some e := by
  rcases h with ⟨e, h, rfl⟩ | ⟨h, a, rfl⟩
  · exact ⟨e, h⟩
  · exact ⟨_, by rw [fnd_snoc (e := ⟨n, a, _, _, false⟩) h, if_pos rfl]⟩
theorem dB_congr {es : List Ent} {n : Int} {f g : Ent → Ent} (h : ∀ e, (f e).ln = (g e).ln ∧ (f e).dt = (g e).dt) : dB (setE es n f) = dB (setE es n g) := by
  unfold dB setE
  rw [List.map_map, List.map_map]
  refine List.map_congr_left fun a _ => ?_
  show ((Sum.inl (if a.ln = n then f a else a).ln : Key), V.bl (if a.ln = n then f a else a).dt) = ((Sum.inl (if a.ln = n then g a else a).ln : Key), V.bl (if a.ln = n then g a else a).dt)
  by_cases q : a.ln = n
  · rw [if_pos q, if_pos q, (h a).1, (h a).2]
  · rw [if_neg q, if_neg q]
theorem delE_none {es : List Ent} {n : Int} (h : fnd es n = none) : delE es n = es := by
  unfold delE
  exact List.filter_eq_self.mpr fun e he => by simpa using fnd_no h e he
theorem clnE_id {es : List Ent} {n : Int} (nd : (es.map (·.ln)).Nodup) (h : ∀ e, fnd es n = some e → e.dt = false) : clnE es n = es := by
  unfold clnE setE
  conv => rhs; rw [← List.map_id es]
  refine List.map_congr_left fun a ha => ?_
  by_cases q : a.ln = n
  · have hd : a.dt = false := h a (by rw [← q]; exact fnd_some nd ha)
    rw [if_pos q]
    cases a
    simp only at hd
    subst hd
    rfl
  · rw [if_neg q]
    rfl
theorem del_cln (es : List Ent) (n : Int) : delE (clnE es n) n = delE es n := by
  unfold delE clnE setE
  rw [List.filter_map]
  have e : ((fun e : Ent => decide (e.ln ≠ n)) ∘ fun e : Ent => if e.ln = n then { e with dt := false } else e) = fun e : Ent => decide (e.ln ≠ n) := funext fun a => by
    show decide ((if a.ln = n then { a with dt := false } else a : Ent).ln ≠ n) = decide (a.ln ≠ n)
    by_cases q : a.ln = n
    · rw [if_pos q]
    · rw [if_neg q]
  rw [e]
  conv => rhs; rw [← List.map_id (es.filter fun e => decide (e.ln ≠ n))]
  refine List.map_congr_left fun a ha => ?_
  have q : a.ln ≠ n := by simpa using (List.mem_filter.mp ha).2
  rw [if_neg q]
  rfl
/-! ### the promises -/
section
variable (C : Addr)
def spInit : Sp := fun vs H Q _ => ∃ (H0 : Hp) (p m dx : Addr) (cells : List Int), vs = [.ref p, .ref m] ∧ H = upd (upd H0 dx (.own p)) p (.ins C dx []) ∧ H0 p = none ∧ H0 dx = none ∧ dx ≠ p ∧ H0 m = some (.lst (cells.map V.int)) ∧ cells.length ≤ 900 ∧
  ∀ (v d : Addr) (H' : Hp), CA C H0 H' p m v d dx cells [] → (∀ c, H0 c ≠ none → H' c = H0 c) → Q .non H'
def spLoad : Sp := fun vs H Q _ => ∃ (H0 : Hp) (p m v d dx : Addr) (cells : List Int) (es : List Ent) (n : Int), vs = [.ref p, .int n] ∧ CA C H0 H p m v d dx cells es ∧ 0 ≤ n ∧ 2 * n + 1 < cells.length ∧ es.length < 900 ∧
  ∀ (es' : List Ent) (H' : Hp), LdR cells es n es' → CA C H0 H' p m v d dx cells es' → Fm H0 m H H' → Q .non H'
def spRead : Sp := fun vs H Q _ => ∃ (H0 : Hp) (p m v d dx : Addr) (cells : List Int) (es : List Ent) (w : Int), vs = [.ref p, .int w] ∧ CA C H0 H p m v d dx cells es ∧ 0 ≤ w ∧ 2 * (w / 2) + 1 < cells.length ∧ es.length < 900 ∧
  ∀ (es' : List Ent) (e : Ent) (H' : Hp), LdR cells es (w / 2) es' → fnd es' (w / 2) = some e → CA C H0 H' p m v d dx cells es' → Fm H0 m H H' → Q (.int (if w % 2 = 0 then e.x else e.y)) H'
def spWrite : Sp := fun vs H Q _ => ∃ (H0 : Hp) (p m v d dx : Addr) (cells : List Int) (es : List Ent) (w z : Int), vs = [.ref p, .int w, .int z] ∧ CA C H0 H p m v d dx cells es ∧ 0 ≤ w ∧ 2 * (w / 2) + 1 < cells.length ∧ es.length < 900 ∧
  ∀ (es' : List Ent) (H' : Hp), LdR cells es (w / 2) es' → CA C H0 H' p m v d dx cells (putE es' w z) → Fm H0 m H H' → Q .non H'
def spClean : Sp := fun vs H Q _ => ∃ (H0 : Hp) (p m v d dx : Addr) (cells : List Int) (es : List Ent) (n : Int), vs = [.ref p, .int n] ∧ CA C H0 H p m v d dx cells es ∧ 0 ≤ n ∧ 2 * n + 1 < cells.length ∧
  ∀ (H' : Hp), CA C H0 H' p m v d dx (clnC cells es n) (clnE es n) → Fm H0 m H H' → Q .non H'
def spDrop : Sp := fun vs H Q _ => ∃ (H0 : Hp) (p m v d dx : Addr) (cells : List Int) (es : List Ent) (n : Int), vs = [.ref p, .int n] ∧ CA C H0 H p m v d dx cells es ∧
  ∀ (H' : Hp), CA C H0 H' p m v d dx cells (delE es n) → Fm H0 m H H' → Q .non H'
def spEvict : Sp := fun vs H Q _ => ∃ (H0 : Hp) (p m v d dx : Addr) (cells : List Int) (es : List Ent) (n : Int), vs = [.ref p, .int n] ∧ CA C H0 H p m v d dx cells es ∧ 0 ≤ n ∧ 2 * n + 1 < cells.length ∧
  ∀ (H' : Hp), CA C H0 H' p m v d dx (clnC cells es n) (delE es n) → Fm H0 m H H' → Q .non H'
def spHeld : Sp := fun vs H Q _ => ∃ (H0 : Hp) (p m v d dx : Addr) (cells : List Int) (es : List Ent), vs = [.ref p] ∧ CA C H0 H p m v d dx cells es ∧
  ∀ (ks : List (Int × Bool)) (ts : List Addr) (q : Addr) (H' : Hp), ks.Perm (es.map fun e => (e.ln, e.dt)) → ks.Pairwise (fun a b => a.1 < b.1) → Same H H' → H q = none → H' q = some (.tup (ts.map V.ref)) →
    Paired (fun (t : Addr) (q : Int × Bool) => H' t = some (.tup [.int q.1, .bl q.2])) ts ks → Q (.ref q) H'
end
/-- what the walk asks of the classes -/
structure TL (K : PySem.W.Frag) (mg : Str → Option Value) (C CR : Addr) (mc u : Value) : Prop where
  cl : Cls K C
  nM : NoAttr K C "_memory"
  nV : NoAttr K C "_values"
  nD : NoAttr K C "_dirty"
  mgC : mg "Lines" = some (.ref C)
  mgR : mg "Run" = some (.ref CR)
  rd : ClX.CRead K CR mc
  tup : mg "tuple" = none
  srt : mg "sorted" = none
  ln : ClX.CVal K CR mc "LINE" (.int 2) u
section
variable {P : Program} {w : World} {K : PySem.W.Frag} {mg : Str → Option Value} {base : Heap} {C CR : Addr} {mc u : Value}
theorem scInit : FnScope ["self", "words"] ["self", "words"] (defScope sInit) := ⟨rfl, rfl, rfl, by decide +kernel, rfl, by decide +kernel, by decide +kernel⟩
theorem ok_init {f : Addr} {fd : FuncData} (F : Fun K "__init__" "Lines.__init__" sInit f fd) (T : TL K mg C CR mc u) : FnOk P w K mg base CX0 1 f fd ["self", "words"] (spInit C) := by
  refine F.ok scInit (fun vs H Q E h => ?_) (fun cdv A outer s H vs Q E hr h => ?_)
  · obtain ⟨H0, p, m, dx, cells, rfl, _⟩ := h
    rfl
  · obtain ⟨H0, p, m, dx, cells, rfl, rfl, p0, dx0, npd, hm, hl, k⟩ := h
    refine ⟨_, pss_cons (ps_fld (pv 0) (pv 1) rfl) (pss_cons (ps_fld (pv 0) pe_dnewK rfl) (pss_one (ps_fld (pv 0) pe_dnewK rfl))), ?_⟩
    refine ⟨_, rfl, _, rfl, p, C, dx, [], rfl, upd_same, T.cl, T.nM, (by show 0 < 1000; decide), ?_⟩
    intro v hv
    have pv_ : p ≠ v := fun z => by rw [← z, upd_same] at hv; cases hv
    rw [upd_ne pv_.symm, upd_ne pv_.symm] at hv
    have hdv : v ≠ dx := fun z => by rw [z, upd_same] at hv; cases hv
    rw [upd_ne hdv] at hv
    refine ⟨_, rfl, p, C, dx, _, rfl, (by rw [upd_ne pv_]; exact upd_same), T.cl, T.nV, (by show 1 < 1000; decide), ?_⟩
    intro d hd
    have pd_ : p ≠ d := fun z => by rw [← z, upd_same] at hd; cases hd
    rw [upd_ne pd_.symm] at hd
    have nvd : v ≠ d := fun z => by rw [← z, upd_same] at hd; cases hd
    rw [upd_ne nvd.symm, upd_ne pd_.symm, upd_ne pd_.symm] at hd
    have hdd : d ≠ dx := fun z => by rw [z, upd_same] at hd; cases hd
    rw [upd_ne hdd] at hd
    refine ⟨_, rfl, p, C, dx, _, rfl, (by rw [upd_ne pd_]; exact upd_same), T.cl, T.nD, ?_, ?_⟩
    · show (putF "_values" (V.ref v) (putF "_memory" (V.ref m) [])).length < 1000
      have e : putF "_values" (V.ref v) (putF "_memory" (V.ref m) []) = [(("_memory" : Str), V.ref m), ("_values", V.ref v)] := by
        show (if ("_memory" : Str) = "_values" then _ else (("_memory" : Str), V.ref m) :: putF "_values" (V.ref v) []) = _
        rw [if_neg n3]
        rfl
      rw [e]
      show 2 < 1000
      decide
    · have kp : ∀ (c : Addr) (o1 o2 o3 o4 o5 o6 : HO), c ≠ p → c ≠ d → c ≠ v → c ≠ dx → (L2.upd (L2.upd (L2.upd (L2.upd (L2.upd (L2.upd (L2.upd H0 dx (.own p)) p o1) p o2) v o3) p o4) d o5) p o6) c = H0 c := fun c _ _ _ _ _ _ z1 z2 z3 z4 => by
        rw [upd_ne z1, upd_ne z2, upd_ne z1, upd_ne z3, upd_ne z1, upd_ne z1, upd_ne z4]
      have ap : ∀ c, H0 c ≠ none → c ≠ p ∧ c ≠ d ∧ c ≠ v ∧ c ≠ dx := fun c hc => ⟨fun z => hc (by rw [z]; exact p0), fun z => hc (by rw [z]; exact hd), fun z => hc (by rw [z]; exact hv), fun z => hc (by rw [z]; exact dx0)⟩
      have kp' : ∀ c, H0 c ≠ none → (L2.upd (L2.upd (L2.upd (L2.upd (L2.upd (L2.upd (L2.upd H0 dx (.own p)) p (.ins C dx [])) p (.ins C dx (putF "_memory" (.ref m) []))) v (.dK [])) p (.ins C dx (putF "_values" (.ref v) (putF "_memory" (.ref m) [])))) d (.dK [])) p (.ins C dx (flds m v d))) c = H0 c := fun c hc => by
        obtain ⟨z1, z2, z3, z4⟩ := ap c hc
        exact kp c _ _ _ _ _ _ z1 z2 z3 z4
      have hm0 : H0 m ≠ none := by rw [hm]; simp
      refine k v d _ ⟨upd_same, ?_, ?_, ?_, fun e he => absurd he (by simp), List.nodup_nil, List.nodup_nil, p0, hv, hd, fun e he => absurd he (by simp), fun c hc => ?_, hm0, nvd, hl, Nat.zero_le _⟩ fun c hc => kp' c hc
      · exact (kp' m hm0).trans hm
      · rw [upd_ne pv_.symm, upd_ne nvd, upd_ne pv_.symm, upd_same]; rfl
      · rw [upd_ne pd_.symm, upd_same]; rfl
      · exact fun z => hc ((kp' c hc).symm.trans z)
theorem scLoad : FnScope ["self", "line", "first"] ["self", "line"] (defScope sLoad) := ⟨rfl, rfl, rfl, by decide +kernel, rfl, by decide +kernel, by decide +kernel⟩
theorem ok_load {f : Addr} {fd : FuncData} (F : Fun K "load" "Lines.load" sLoad f fd) (T : TL K mg C CR mc u) : FnOk P w K mg base CX0 1 f fd ["self", "line"] (spLoad C) := by
  refine F.ok scLoad (fun vs H Q E h => ?_) (fun cdv A outer s H vs Q E hr h => ?_)
  · obtain ⟨H0, p, m, v, d, dx, cells, es, n, rfl, _⟩ := h
    rfl
  · obtain ⟨H0, p, m, v, d, dx, cells, es, n, rfl, I, n0, n1, hl, k⟩ := h
    have hu := hu_of hr
    refine ⟨_, pss_one (ps_if (pt_cmp (pc_dnotin hu (pv 1) (pe_fld (pv 0) rfl)))
      (pss_cons (ps_set (i := 2) scLoad.nd rfl (Or.inl rfl) (pe_op op_mul (pv 1) (ClX.pe_cval (pe_glob (v := .ref CR) rfl T.mgR rfl))))
      (pss_cons (ps_dput hu (pe_fld (pv 0) rfl) (pv 1) (pe_slice sl_list (pe_fld (pv 0) rfl) (po_some (pv 2)) (po_some (pe_op op_add (pv 2) (ClX.pe_cval (pe_glob (v := .ref CR) rfl T.mgR rfl))))) rfl)
      (pss_one (ps_dput hu (pe_fld (pv 0) rfl) (pv 1) pe_bl rfl)))) pss_nil), ?_⟩
    refine ⟨_, rfl, _, rfl, p, C, dx, _, _, rfl, I.ob, T.cl, T.nV, flds_v _ _ _, v, _, rfl, DGet.k (k := Sum.inl n) I.vv, _, rfl, ?_⟩
    rw [val_v]
    cases hf : fnd es n with
    | some e =>
      refine iteF ?_
      exact k es H (.inl ⟨e, hf, rfl⟩) I Fm.refl
    | none =>
      refine iteT ?_
      obtain ⟨j, rfl⟩ := Int.eq_ofNat_of_zero_le n0
      refine ⟨_, rfl, CR, mc, _, u, rfl, T.rd, T.ln, _, _, rfl, rfl, .inr ⟨by decide, by decide⟩, ?_⟩
      refine ⟨_, rfl, p, C, dx, _, _, rfl, I.ob, T.cl, T.nM, flds_m _ _ _, _, rfl, _, rfl, _, rfl, CR, mc, _, u, rfl, T.rd, T.ln, _, _, rfl, rfl, _, rfl, m, _, rfl, SqL.of I.mm, fun a ha => ?_⟩
      have na0 : H0 a = none := by
        cases q : H0 a with
        | none => rfl
        | some o => exact absurd ha (I.st a (by rw [q]; simp))
      have pa : p ≠ a := ne_of_none I.ob ha
      have va : v ≠ a := ne_of_none I.vv ha
      have da : d ≠ a := ne_of_none I.dd ha
      have ma : m ≠ a := ne_of_none I.mm ha
      have pv_ : p ≠ v := ne_of I.ob I.vv (by intro z; cases z)
      have pd_ : p ≠ d := ne_of I.ob I.dd (by intro z; cases z)
      have mv_ : m ≠ v := ne_of I.mm I.vv (by intro z; cases z)
      have md_ : m ≠ d := ne_of I.mm I.dd (by intro z; cases z)
      have h2j : 2 * j + 1 < cells.length := by omega
      have ec : cutV (cells.map V.int) (some ((j : Int) * 2)) (some ((j : Int) * 2 + 2)) = [V.int (cells.getD (2 * (j : Int)).toNat 0), V.int (cells.getD ((2 * (j : Int)).toNat + 1) 0)] := by
        have e1 : (j : Int) * 2 = ((2 * j : Nat) : Int) := by omega
        have e2 : (2 * (j : Int)).toNat = 2 * j := by omega
        rw [e1, cut2 h2j, e2, List.getD_eq_getElem?_getD, List.getD_eq_getElem?_getD, List.getElem?_eq_getElem (by omega), List.getElem?_eq_getElem h2j]
        rfl
      refine ⟨_, rfl, p, C, dx, _, _, rfl, (by rw [upd_ne pa]; exact I.ob), T.cl, T.nV, flds_v _ _ _, _, rfl, v, _, rfl, DPut.k (k := Sum.inl (j : Int)) (by rw [upd_ne va]; exact I.vv) (small1000 (by unfold vK; rw [List.length_map]; omega)), ?_⟩
      refine ⟨_, rfl, p, C, dx, _, _, rfl, (by rw [upd_ne pv_, upd_ne pa]; exact I.ob), T.cl, T.nD, flds_d _ _ _, _, rfl, d, _, rfl, DPut.k (k := Sum.inl (j : Int)) (by rw [upd_ne I.vd.symm, upd_ne da]; exact I.dd) (small1000 (by unfold dB; rw [List.length_map]; omega)), ?_⟩
      rw [ec, new_v a (cells.getD (2 * (j : Int)).toNat 0) (cells.getD ((2 * (j : Int)).toNat + 1) 0) false hf, new_d a (cells.getD (2 * (j : Int)).toNat 0) (cells.getD ((2 * (j : Int)).toNat + 1) 0) false hf]
      have hea : ∀ e ∈ es, e.ad ≠ a ∧ e.ad ≠ v ∧ e.ad ≠ d := fun e he => ⟨ne_of_none (I.en e he) ha, ne_of (I.en e he) I.vv (by intro z; cases z), ne_of (I.en e he) I.dd (by intro z; cases z)⟩
      refine k _ _ (.inr ⟨hf, a, rfl⟩) ⟨?_, ?_, ?_, upd_same, fun e he => ?_, ?_, ?_, I.fp, I.fv, I.fd, fun e he => ?_, fun c hc => ?_, I.m0, I.vd, I.cl, by rw [List.length_append]; show es.length + 1 ≤ 900; omega⟩ ((Fm.put na0).trans ((Fm.put I.fv).trans (Fm.put I.fd)))
      · rw [upd_ne pd_, upd_ne pv_, upd_ne pa]; exact I.ob
      · rw [upd_ne md_, upd_ne mv_, upd_ne ma]; exact I.mm
      · rw [upd_ne I.vd, upd_same]
      · rcases List.mem_append.mp he with he | he
        · obtain ⟨z1, z2, z3⟩ := hea e he
          rw [upd_ne z3, upd_ne z2, upd_ne z1]; exact I.en e he
        · rw [List.mem_singleton.mp he]
          show (L2.upd (L2.upd (L2.upd H a _) v _) d _) a = _
          rw [upd_ne da.symm, upd_ne va.symm, upd_same]
      · rw [List.map_append]
        refine snoc_nd I.nd fun z => ?_
        obtain ⟨e, he, q⟩ := List.mem_map.mp z
        exact fnd_no hf e he q
      · rw [List.map_append]
        refine snoc_nd I.na fun z => ?_
        obtain ⟨e, he, q⟩ := List.mem_map.mp z
        exact (hea e he).1 q
      · rcases List.mem_append.mp he with he | he
        · exact I.fe e he
        · rw [List.mem_singleton.mp he]; exact na0
      · have z1 : c ≠ a := fun z => hc (by rw [z]; exact na0)
        have z2 : c ≠ v := fun z => hc (by rw [z]; exact I.fv)
        have z3 : c ≠ d := fun z => hc (by rw [z]; exact I.fd)
        rw [upd_ne z3, upd_ne z2, upd_ne z1]; exact I.st c hc
theorem scRead : FnScope ["self", "word", "line"] ["self", "word"] (defScope sRead) := ⟨rfl, rfl, rfl, by decide +kernel, rfl, by decide +kernel, by decide +kernel⟩
theorem get_v {H : Hp} {v : Addr} {es : List Ent} {n : Int} {e : Ent} (hv : H v = some (.dK (vK es))) (h : fnd es n = some e) : DGet H v (.int n) (some (.ref e.ad)) := by
  have z := DGet.k (k := (Sum.inl n : Key)) hv
  rw [val_v, h] at z
  exact z
theorem at2 {x y w : Int} : atI [V.int x, V.int y] (w % 2) = some (V.int (if w % 2 = 0 then x else y)) := by
  rcases (show w % 2 = 0 ∨ w % 2 = 1 by omega) with q | q
  · rw [q, if_pos rfl]; rfl
  · rw [q, if_neg (by decide)]; rfl
theorem ok_read {f fL : Addr} {fd fdL : FuncData} (F : Fun K "read" "Lines.read" sRead f fd) (T : TL K mg C CR mc u) (GL : FnOk P w K mg base CX0 1 fL fdL ["self", "line"] (spLoad C)) (bL : Binds K fdL ["self", "line"] []) (mL : Meth K C "load" fL) :
    FnOk P w K mg base CX0 2 f fd ["self", "word"] (spRead C) := by
  refine F.ok scRead (fun vs H Q E h => ?_) (fun cdv A outer s H vs Q E hr h => ?_)
  · obtain ⟨H0, p, m, v, d, dx, cells, es, n, rfl, _⟩ := h
    rfl
  · obtain ⟨H0, p, m, v, d, dx, cells, es, n, rfl, I, n0, n1, hl, k⟩ := h
    have hu := hu_of hr
    refine ⟨_, pss_cons (ps_set (i := 2) scRead.nd rfl (Or.inl rfl) (pe_op op_fdiv (pv 1) (ClX.pe_cval (pe_glob (v := .ref CR) rfl T.mgR rfl))))
      (pss_cons (ps_expr (pe_meth (pv 0) T.cl mL GL hr bL .nil pass0 (pa_cons (pv 2) pa_nil)))
      (pss_one (ps_ret (pe_ix ix_list (pe_dget hu (pe_fld (pv 0) rfl) (pv 2) (fun _ _ => rfl)) (pe_op op_mod (pv 1) (ClX.pe_cval (pe_glob (v := .ref CR) rfl T.mgR rfl))) (fun _ _ => rfl))))), ?_⟩
    refine ⟨_, rfl, CR, mc, _, u, rfl, T.rd, T.ln, _, _, rfl, rfl, ⟨by decide, by decide⟩, ?_⟩
    refine ⟨_, rfl, p, dx, _, rfl, I.ob, flds_no _ _ _ (by decide +kernel) (by decide +kernel) (by decide +kernel), _, rfl, H0, p, m, v, d, dx, cells, es, n / 2, rfl, I, by omega, n1, hl, fun es' H' ld I' fm => ?_⟩
    obtain ⟨e, he⟩ := ldr_has ld
    refine ⟨_, rfl, p, C, dx, _, _, rfl, I'.ob, T.cl, T.nV, flds_v _ _ _, _, rfl, v, _, rfl, get_v I'.vv he, _, rfl, CR, mc, _, u, rfl, T.rd, T.ln, _, _, rfl, rfl, (by show (0 : Int) < 2; decide), e.ad, _, _, _, rfl, rfl, SqL.of (I'.en e (fnd_mem he).1), at2, ?_⟩
    exact k es' e H' ld he I' fm
theorem scWrite : FnScope ["self", "word", "value", "line"] ["self", "word", "value"] (defScope sWrite) := ⟨rfl, rfl, rfl, by decide +kernel, rfl, by decide +kernel, by decide +kernel⟩
theorem ok_write {f fL : Addr} {fd fdL : FuncData} (F : Fun K "write" "Lines.write" sWrite f fd) (T : TL K mg C CR mc u) (GL : FnOk P w K mg base CX0 1 fL fdL ["self", "line"] (spLoad C)) (bL : Binds K fdL ["self", "line"] []) (mL : Meth K C "load" fL) :
    FnOk P w K mg base CX0 2 f fd ["self", "word", "value"] (spWrite C) := by
  refine F.ok scWrite (fun vs H Q E h => ?_) (fun cdv A outer s H vs Q E hr h => ?_)
  · obtain ⟨H0, p, m, v, d, dx, cells, es, n, z, rfl, _⟩ := h
    rfl
  · obtain ⟨H0, p, m, v, d, dx, cells, es, n, z, rfl, I, n0, n1, hl, k⟩ := h
    have hu := hu_of hr
    refine ⟨_, pss_cons (ps_set (i := 3) scWrite.nd rfl (Or.inl rfl) (pe_op op_fdiv (pv 1) (ClX.pe_cval (pe_glob (v := .ref CR) rfl T.mgR rfl))))
      (pss_cons (ps_expr (pe_meth (pv 0) T.cl mL GL hr bL .nil pass0 (pa_cons (pv 3) pa_nil)))
      (pss_cons (ps_asg (pv 2) (pg_sub (pe_dget hu (pe_fld (pv 0) rfl) (pv 3) (fun _ _ => rfl)) (pe_op op_mod (pv 1) (ClX.pe_cval (pe_glob (v := .ref CR) rfl T.mgR rfl))) set_list))
      (pss_one (ps_dput hu (pe_fld (pv 0) rfl) (pv 3) pe_bl rfl)))), ?_⟩
    refine ⟨_, rfl, CR, mc, _, u, rfl, T.rd, T.ln, _, _, rfl, rfl, ⟨by decide, by decide⟩, ?_⟩
    refine ⟨_, rfl, p, dx, _, rfl, I.ob, flds_no _ _ _ (by decide +kernel) (by decide +kernel) (by decide +kernel), _, rfl, H0, p, m, v, d, dx, cells, es, n / 2, rfl, I, by omega, n1, hl, fun es' H' ld J fm => ?_⟩
    obtain ⟨e, he⟩ := ldr_has ld
    obtain ⟨em, en⟩ := fnd_mem he
    have pe_ : p ≠ e.ad := ne_of J.ob (J.en e em) (by intro z; cases z)
    have ve_ : v ≠ e.ad := ne_of J.vv (J.en e em) (by intro z; cases z)
    have de_ : d ≠ e.ad := ne_of J.dd (J.en e em) (by intro z; cases z)
    have me_ : m ≠ e.ad := fun q => J.m0 (by rw [q]; exact J.fe e em)
    have pd_ : p ≠ d := ne_of J.ob J.dd (by intro z; cases z)
    have md_ : m ≠ d := ne_of J.mm J.dd (by intro z; cases z)
    obtain ⟨j, hj, hij, hset⟩ : ∃ j : Nat, ixN 2 (n % 2) = some j ∧ j < 2 ∧ ([V.int e.x, V.int e.y].set j (V.int z)) = [V.int (if n % 2 = 0 then z else e.x), V.int (if n % 2 = 0 then e.y else z)] := by
      rcases (show n % 2 = 0 ∨ n % 2 = 1 by omega) with q | q
      · refine ⟨0, by rw [q]; rfl, by decide, ?_⟩
        rw [if_pos q, if_pos q]; rfl
      · refine ⟨1, by rw [q]; rfl, by decide, ?_⟩
        rw [if_neg (by omega), if_neg (by omega)]; rfl
    refine ⟨_, rfl, _, rfl, p, C, dx, _, _, rfl, J.ob, T.cl, T.nV, flds_v _ _ _, _, rfl, v, _, rfl, get_v J.vv he, _, rfl, CR, mc, _, u, rfl, T.rd, T.ln, _, _, rfl, rfl, (by show (0 : Int) < 2; decide), e.ad, _, _, j, rfl, rfl, J.en e em, hj, ?_⟩
    rw [hset]
    refine ⟨_, rfl, p, C, dx, _, _, rfl, (by rw [upd_ne pe_]; exact J.ob), T.cl, T.nD, flds_d _ _ _, _, rfl, d, _, rfl, DPut.k (k := Sum.inl (n / 2)) (by rw [upd_ne de_]; exact J.dd) (small1000 (by have q := J.el; unfold dB; rw [List.length_map]; omega)), ?_⟩
    rw [put_d true he]
    have hln : ∀ a : Ent, ({ a with x := if n % 2 = 0 then z else a.x, y := if n % 2 = 0 then a.y else z, dt := true } : Ent).ln = a.ln := fun _ => rfl
    refine k es' _ ld ⟨?_, ?_, ?_, ?_, fun a ha => ?_, ?_, ?_, J.fp, J.fv, J.fd, fun a ha => ?_, fun c hc => ?_, J.m0, J.vd, J.cl, by unfold putE; rw [setE_len]; exact J.el⟩ (fm.trans ((Fm.put (J.fe e em)).trans (Fm.put J.fd)))
    · rw [upd_ne pd_, upd_ne pe_]; exact J.ob
    · rw [upd_ne md_, upd_ne me_]; exact J.mm
    · rw [upd_ne J.vd, upd_ne ve_]
      rw [putE_vK]
      exact J.vv
    · rw [upd_same]
      unfold putE
      exact congrArg (fun q => some (HO.dK q)) (dB_congr fun _ => ⟨rfl, rfl⟩)
    · obtain ⟨b, hb, rfl⟩ := setE_mem ha
      have bd : b.ad ≠ d := ne_of (J.en b hb) J.dd (by intro z; cases z)
      by_cases q : b.ln = n / 2
      · have eb : b = e := uniq_ln J.nd hb em (q.trans en.symm)
        rw [if_pos q, eb]
        show (upd (upd H' e.ad _) d _) e.ad = _
        rw [upd_ne de_.symm, upd_same]
      · have nb : b.ad ≠ e.ad := fun z => q (by rw [uniq_ad J.na hb em z]; exact en)
        rw [if_neg q, upd_ne bd, upd_ne nb]
        exact J.en b hb
    · rw [putE_ln]
      exact J.nd
    · rw [putE_ad]
      exact J.na
    · obtain ⟨b, hb, rfl⟩ := setE_mem ha
      by_cases q : b.ln = n / 2
      · rw [if_pos q]; exact J.fe b hb
      · rw [if_neg q]; exact J.fe b hb
    · have z1 : c ≠ e.ad := fun z => hc (by rw [z]; exact J.fe e em)
      have z2 : c ≠ d := fun z => hc (by rw [z]; exact J.fd)
      rw [upd_ne z2, upd_ne z1]; exact J.st c hc
theorem scHeld : FnScope ["self"] ["self"] (defScope sHeld) := ⟨rfl, rfl, rfl, by decide +kernel, rfl, by decide +kernel, by decide +kernel⟩
theorem ok_held {f : Addr} {fd : FuncData} (F : Fun K "held" "Lines.held" sHeld f fd) (T : TL K mg C CR mc u) : FnOk P w K mg base CX0 1 f fd ["self"] (spHeld C) := by
  refine F.ok scHeld (fun vs H Q E h => ?_) (fun cdv A outer s H vs Q E hr h => ?_)
  · obtain ⟨H0, p, m, v, d, dx, cells, es, rfl, _⟩ := h
    rfl
  · obtain ⟨H0, p, m, v, d, dx, cells, es, rfl, I, k⟩ := h
    refine ⟨_, pss_one (ps_ret (pe_callTy call_tuple_of (by rfl) T.tup (by decide +kernel) (pa_cons (pe_callB (cr_sortedItems rfl) (by rfl) T.srt (by decide +kernel) (pa_cons (pe_bm0 PySem.F.plainAttrs_dict PySem.F.slot_dict_items PySem.F.type_dict_items mt_items (pe_fld (pv 0) rfl)) pa_nil)) pa_nil))), ?_⟩
    have eK : dB es = kvB (es.map fun e => (e.ln, e.dt)) := by
      unfold dB kvB
      rw [List.map_map]
      rfl
    refine ⟨_, rfl, p, C, dx, _, _, rfl, I.ob, T.cl, T.nD, flds_d _ _ _, .inr (.inr (.inl ⟨rfl, .inl ⟨_, I.dd⟩⟩)), d, _, rfl, rfl, I.dd, fun a ha => ?_⟩
    have da : d ≠ a := ne_of_none I.dd ha
    refine ⟨a, d, es.map fun e => (e.ln, e.dt), rfl, upd_same, by rw [upd_ne da, I.dd, eK], by rw [List.map_map]; exact I.nd, fun H1 q ts ks s1 q0 t0 hq hp ho hP => ?_⟩
    refine ⟨q, _, rfl, .inl ⟨SqL.of hq, fun l hl => ?_⟩⟩
    have s0 : Same H H1 := fun b o e => s1 b o (by rw [upd_ne (ne_of_none e ha)]; exact e)
    refine k ks ts l _ hp ho (fun b o e => ?_) (s0.free hl) upd_same (L2.Paired.mapP hP fun t x hx => ?_)
    · rw [upd_ne (ne_of_none (s0 b o e) hl)]
      exact s0 b o e
    · rw [upd_ne (ne_of_none hx hl)]
      exact hx
end
end Ln
namespace Ln
open PySem L2
/-! ### what a law keeps beside the cache: entries again, of their own lists -/
def core (e : Ent) : Int × Int × Int × Bool := (e.ln, e.x, e.y, e.dt)
theorem core_fnd (es : List Ent) (n : Int) : (fnd es n).map core = (es.map core).find? fun c => decide (c.1 = n) := by
  unfold fnd
  rw [List.find?_map]
  rfl
theorem core_set {f : Ent → Ent} {F : Int × Int × Int × Bool → Int × Int × Int × Bool} (h : ∀ e, core (f e) = F (core e)) (es : List Ent) (n : Int) : (setE es n f).map core = (es.map core).map fun c => if c.1 = n then F c else c := by
  unfold setE
  rw [List.map_map, List.map_map]
  refine List.map_congr_left fun e _ => ?_
  show core (if e.ln = n then f e else e) = if e.ln = n then F (core e) else core e
  by_cases q : e.ln = n
  · rw [if_pos q, if_pos q, h]
  · rw [if_neg q, if_neg q]
theorem core_del (es : List Ent) (n : Int) : (delE es n).map core = (es.map core).filter fun c => decide (c.1 ≠ n) := by
  unfold delE
  rw [List.filter_map]
  rfl
theorem core_ln {ks es : List Ent} (h : ks.map core = es.map core) : ks.map (·.ln) = es.map (·.ln) := by
  have z := congrArg (List.map (·.1)) h
  rw [List.map_map, List.map_map] at z
  exact z
theorem core_lnd {ks es : List Ent} (h : ks.map core = es.map core) : (ks.map fun e => (e.ln, e.dt)) = es.map fun e => (e.ln, e.dt) := by
  have z := congrArg (List.map fun c : Int × Int × Int × Bool => (c.1, c.2.2.2)) h
  rw [List.map_map, List.map_map] at z
  exact z
theorem core_len {ks es : List Ent} (h : ks.map core = es.map core) : ks.length = es.length := by
  have z := congrArg List.length h
  rw [List.length_map, List.length_map] at z
  exact z
theorem core_find {ks es : List Ent} (h : ks.map core = es.map core) (n : Int) : (fnd ks n).map core = (fnd es n).map core := by
  rw [core_fnd, core_fnd, h]
theorem core_none {ks es : List Ent} (h : ks.map core = es.map core) {n : Int} (q : fnd es n = none) : fnd ks n = none := by
  have z := core_find h n
  rw [q] at z
  cases e : fnd ks n with
  | none => rfl
  | some a => rw [e] at z; cases z
theorem core_some {ks es : List Ent} (h : ks.map core = es.map core) {n : Int} {e : Ent} (q : fnd es n = some e) : ∃ a, fnd ks n = some a ∧ core a = core e := by
  have z := core_find h n
  rw [q] at z
  cases r : fnd ks n with
  | none => rw [r] at z; cases z
  | some a => rw [r] at z; exact ⟨a, rfl, Option.some.inj z⟩
theorem core_ldr {cells : List Int} {ks es ks' es' : List Ent} {n : Int} (h : ks.map core = es.map core) (a : LdR cells ks n ks') (b : LdR cells es n es') : ks'.map core = es'.map core := by
  rcases b with ⟨e, q, rfl⟩ | ⟨q, t, rfl⟩
  · rcases a with ⟨_, _, rfl⟩ | ⟨z, _, _⟩
    · exact h
    · obtain ⟨y, hy, _⟩ := core_some h q
      rw [z] at hy
      cases hy
  · rcases a with ⟨y, hy, _⟩ | ⟨_, u, rfl⟩
    · rw [core_none h q] at hy
      cases hy
    · rw [List.map_append, List.map_append, h]
      rfl
def putF (w z : Int) (c : Int × Int × Int × Bool) : Int × Int × Int × Bool := (c.1, (if w % 2 = 0 then z else c.2.1), (if w % 2 = 0 then c.2.2.1 else z), true)
theorem core_put {ks es : List Ent} (h : ks.map core = es.map core) (w z : Int) : (putE ks w z).map core = (putE es w z).map core := by
  have f : ∀ l : List Ent, (putE l w z).map core = (l.map core).map fun c => if c.1 = w / 2 then Ln.putF w z c else c := fun l => core_set (F := Ln.putF w z) (fun _ => rfl) l (w / 2)
  rw [f, f, h]
theorem core_cln {ks es : List Ent} (h : ks.map core = es.map core) (n : Int) : (clnE ks n).map core = (clnE es n).map core := by
  have f : ∀ l : List Ent, (clnE l n).map core = (l.map core).map fun c => if c.1 = n then (c.1, c.2.1, c.2.2.1, false) else c := fun l => core_set (F := fun c => (c.1, c.2.1, c.2.2.1, false)) (fun _ => rfl) l n
  rw [f, f, h]
theorem core_dl {ks es : List Ent} (h : ks.map core = es.map core) (n : Int) : (delE ks n).map core = (delE es n).map core := by
  rw [core_del, core_del, h]
theorem core_clnC {ks es : List Ent} (h : ks.map core = es.map core) (cells : List Int) (n : Int) : clnC cells ks n = clnC cells es n := by
  have z := core_find h n
  unfold clnC
  cases q : fnd es n with
  | none => rw [core_none h q]
  | some e =>
    obtain ⟨a, ha, hc⟩ := core_some h q
    rw [ha]
    unfold core at hc
    simp only [Prod.mk.injEq] at hc
    obtain ⟨_, h2, h3, h4⟩ := hc
    show (if a.dt = true then _ else cells) = if e.dt = true then _ else cells
    rw [h2, h3, h4]
/-! ### two sorted lists of the same pairs -/
theorem sorted_ext : ∀ {l m : List (Int × Bool)}, l.Pairwise (fun a b => a.1 < b.1) → m.Pairwise (fun a b => a.1 < b.1) → l.Perm m → l = m
  | [], m, _, _, h => (List.Perm.eq_nil h.symm).symm
  | x :: l, [], _, _, h => absurd h.length_eq (by simp)
  | x :: l, y :: m, hl, hm, h => by
    obtain ⟨l1, l2⟩ := List.pairwise_cons.mp hl
    obtain ⟨m1, m2⟩ := List.pairwise_cons.mp hm
    have e : x = y := by
      rcases List.mem_cons.mp (h.mem_iff.mp (List.mem_cons_self (a := x) (l := l))) with e | hx
      · exact e
      · rcases List.mem_cons.mp (h.mem_iff.mpr (List.mem_cons_self (a := y) (l := m))) with e | hy
        · exact e.symm
        · have a := m1 x hx
          have b := l1 y hy
          omega
    subst e
    rw [sorted_ext l2 m2 h.cons_inv]
def dtOf (ks : List Ent) (n : Int) : Bool := match fnd ks n with
  | some e => e.dt
  | none => false
/-- what the law sorts is what the cache tells -/
theorem held_same {ks es : List Ent} {ps : List (Int × Bool)} {ys : List Int} (nd : (es.map (·.ln)).Nodup) (h : ks.map core = es.map core) (h1 : ps.Perm (es.map fun e => (e.ln, e.dt))) (h2 : ps.Pairwise fun a b => a.1 < b.1) (h3 : ys.Perm (ks.map (·.ln))) (h4 : ys.Pairwise (· ≤ ·)) :
    ps = ys.map fun y => (y, dtOf ks y) := by
  have ndk : (ks.map (·.ln)).Nodup := by rw [core_ln h]; exact nd
  have ndy : ys.Nodup := h3.nodup_iff.mpr ndk
  refine sorted_ext h2 (List.pairwise_map.mpr ?_) (h1.trans ?_)
  · refine List.Pairwise.imp (fun {a b} (z : a ≤ b ∧ a ≠ b) => ?_) (List.pairwise_and_iff.mpr ⟨h4, ndy⟩)
    have z1 := z.1
    have z2 := z.2
    show a < b
    omega
  · rw [← core_lnd h]
    have e : (ks.map fun e => (e.ln, e.dt)) = (ks.map (·.ln)).map fun y => (y, dtOf ks y) := by
      rw [List.map_map]
      refine List.map_congr_left fun e he => ?_
      show (e.ln, e.dt) = (e.ln, dtOf ks e.ln)
      unfold dtOf
      rw [fnd_some ndk he]
    rw [e]
    exact (h3.map _).symm
/-! ### data of pairs -/
def dPair (q : Int × Bool) : PyData := .tuple [.int q.1, .bool q.2]
theorem dp_pairs {K : PySem.W.Frag} {H : Hp} : ∀ {ts : List Addr} {ks : List (Int × Bool)}, Paired (fun (t : Addr) (q : Int × Bool) => H t = some (.tup [.int q.1, .bl q.2])) ts ks → DpAll K H (ts.map V.ref) (ks.map dPair)
  | _, _, .nil => .nil
  | _, _, .cons h t => .cons (.tup (SqT.of h) (.cons (.int _) (.cons (.bl _) .nil))) (dp_pairs t)
theorem can_pairs : ∀ ks : List (Int × Bool), PyData.canLayAll0 (ks.map dPair) = true
  | [] => rfl
  | q :: ks => by
    rw [List.map_cons, PyData.canLayAll0, can_pairs ks]
    rfl
theorem depth_pairs : ∀ ks : List (Int × Bool), PyData.depthAll (ks.map dPair) ≤ 1
  | [] => Nat.zero_le _
  | q :: ks => by
    rw [List.map_cons, PyData.depthAll]
    have h := depth_pairs ks
    have e : PyData.depth (dPair q) = 1 := rfl
    rw [e]
    exact Nat.max_le.mpr ⟨Nat.le_refl _, h⟩
theorem shaped_pairs (ks : List (Int × Bool)) : SeqAt.shaped (.tuple (ks.map dPair)) = true := by
  unfold SeqAt.shaped
  rw [PyData.canLay0, can_pairs, PyData.depth]
  have h := depth_pairs ks
  exact decide_eq_true (by omega)
end Ln
namespace Ln
open PySem L2
/-- what was tracked stays, but for b -/
def OffN (b : Addr) (H H' : Hp) : Prop := ∀ c, H c ≠ none → c ≠ b → H' c = H c
theorem Off.n {b : Addr} {H H' : Hp} (o : Off b H H') : OffN b H H' := fun c _ h => o c h
theorem put_same {H : Hp} {p : Addr} {o : HO} (h : H p = none) : Same H (upd H p o) := fun b u e => by rw [upd_ne (ne_of_none e h)]; exact e
theorem same_at {H H' : Hp} (k : Same H H') {c : Addr} (h : H c ≠ none) : H' c = H c := by
  cases q : H c with
  | none => exact absurd q h
  | some o => exact k _ _ q
theorem BagAt.mono {H : Hp} {b : Addr} {N M : Nat} (h : BagAt H b N) (q : N ≤ M) : BagAt H b M := by
  obtain ⟨l, x, c, e, h1, h2, h3, h4, h5⟩ := h
  exact ⟨l, x, c, e, h1, h2, h3, h4, by omega⟩
theorem BagAt.some {H : Hp} {b : Addr} {N : Nat} (h : BagAt H b N) : H b ≠ none := by
  obtain ⟨l, x, c, e, _⟩ := h
  rw [e]
  simp
theorem BagAt.keep {H H' : Hp} {b : Addr} {N : Nat} (h : BagAt H b N) (e : H' b = H b) : BagAt H' b N := by
  obtain ⟨l, x, c, q, h1⟩ := h
  exact ⟨l, x, c, e.trans q, h1⟩
/-- one object that the cache does not know changes; H1 tells what is known from now on -/
theorem CA.step {C : Addr} {H0 H H' : Hp} {p m v d dx b : Addr} {cells : List Int} {es : List Ent} (I : CA C H0 H p m v d dx cells es) (hb : H0 b ≠ none) (hbm : b ≠ m) (k : OffN b H H') (hn : H' b ≠ none) : CA C H0 H' p m v d dx cells es := by
  have ne : ∀ c o, H0 c = none → H c = some o → H' c = some o := fun c o hc e => (k c (by rw [e]; simp) fun z => hb (by rw [← z]; exact hc)).trans e
  refine ⟨ne _ _ I.fp I.ob, (k m (by rw [I.mm]; simp) (fun z => hbm z.symm)).trans I.mm, ne _ _ I.fv I.vv, ne _ _ I.fd I.dd, fun e he => ne _ _ (I.fe e he) (I.en e he), I.nd, I.na, I.fp, I.fv, I.fd, I.fe, fun c hc => ?_, I.m0, I.vd, I.cl, I.el⟩
  by_cases q : c = b
  · rw [q]; exact hn
  · rw [k c (I.st c hc) q]; exact I.st c hc
/-- a new object becomes known -/
theorem CA.know {C : Addr} {H0 H H' : Hp} {p m v d dx q : Addr} {o : HO} {cells : List Int} {es : List Ent} (I : CA C H0 H p m v d dx cells es) (hq : H q = none) (k : Same H H') (hn : H' q ≠ none) : CA C (upd H0 q o) H' p m v d dx cells es := by
  have J := I.same k
  have ap : ∀ c u, H c = some u → c ≠ q := fun c u e => ne_of_none e hq
  refine ⟨J.ob, J.mm, J.vv, J.dd, J.en, J.nd, J.na, by rw [upd_ne (ap _ _ I.ob)]; exact I.fp, by rw [upd_ne (ap _ _ I.vv)]; exact I.fv, by rw [upd_ne (ap _ _ I.dd)]; exact I.fd, fun e he => by rw [upd_ne (ap _ _ (I.en e he))]; exact I.fe e he, fun c hc => ?_, ?_, I.vd, I.cl, I.el⟩
  · by_cases z : c = q
    · rw [z]; exact hn
    · rw [upd_ne z] at hc
      exact J.st c hc
  · rw [upd_ne (ap _ _ I.mm)]; exact I.m0
/-- a value is put into the memory itself -/
theorem CA.poke {C : Addr} {H0 H : Hp} {p m v d dx : Addr} {cells cells' : List Int} {es : List Ent} (I : CA C H0 H p m v d dx cells es) (hl : cells'.length = cells.length) : CA C H0 (upd H m (.lst (cells'.map V.int))) p m v d dx cells' es := by
  have ne : ∀ c u, H0 c = none → H c = some u → (upd H m (.lst (cells'.map V.int))) c = some u := fun c u hc e => by rw [upd_ne (fun z => I.m0 (by rw [← z]; exact hc))]; exact e
  refine ⟨ne _ _ I.fp I.ob, upd_same, ne _ _ I.fv I.vv, ne _ _ I.fd I.dd, fun e he => ne _ _ (I.fe e he) (I.en e he), I.nd, I.na, I.fp, I.fv, I.fd, I.fe, fun c hc => ?_, I.m0, I.vd, by rw [hl]; exact I.cl, I.el⟩
  by_cases z : c = m
  · rw [z, upd_same]; simp
  · rw [upd_ne z]; exact I.st c hc
/-- the state between two deeds: es the cache's entries, ks the law's own; Hs: the heap at the law's beginning -/
structure S6 (C : Addr) (Hs H0 H : Hp) (p m v d dx b l k : Addr) (N : Nat) (cells : List Int) (es ks : List Ent) : Prop where
  ca : CA C H0 H p m v d dx cells es
  bg : BagAt H b N
  ml : H l = some (.lst (cells.map V.int))
  kv : H k = some (.dK (vK ks))
  ke : ∀ e ∈ ks, H e.ad = some (.lst [.int e.x, .int e.y, .bl e.dt])
  ka : (ks.map (·.ad)).Nodup
  kn : (ks.map (·.ln)).Nodup
  b0 : H0 b ≠ none
  l0 : H0 l ≠ none
  k0 : H0 k ≠ none
  e0 : ∀ e ∈ ks, H0 e.ad ≠ none
  bm : b ≠ m
  lm : l ≠ m
  lb : l ≠ b
  em : ∀ e ∈ ks, e.ad ≠ m
  eb : ∀ e ∈ ks, e.ad ≠ b
  el : ∀ e ∈ ks, e.ad ≠ l
  rg : ∀ e ∈ es, 0 ≤ e.ln ∧ 2 * e.ln + 1 < cells.length
  hs : Same Hs H
  h0 : ∀ c, Hs c ≠ none → H0 c ≠ none
  sm : Hs m = none
  sb : Hs b = none
  sl : Hs l = none
  sk : Hs k = none
  se : ∀ e ∈ ks, Hs e.ad = none
section
variable {C : Addr} {Hs H0 H H' : Hp} {p m v d dx b l k : Addr} {N : Nat} {cells : List Int} {es es' ks : List Ent}
theorem S6.km (S : S6 C Hs H0 H p m v d dx b l k N cells es ks) : k ≠ m := ne_of S.kv S.ca.mm (by intro z; cases z)
theorem S6.kb (S : S6 C Hs H0 H p m v d dx b l k N cells es ks) : k ≠ b := by
  obtain ⟨x, y, z, e, _⟩ := S.bg
  exact ne_of S.kv e (by intro z; cases z)
theorem S6.kl (S : S6 C Hs H0 H p m v d dx b l k N cells es ks) : k ≠ l := ne_of S.kv S.ml (by intro z; cases z)
theorem S6.ek (S : S6 C Hs H0 H p m v d dx b l k N cells es ks) : ∀ e ∈ ks, e.ad ≠ k := fun e he => ne_of (S.ke e he) S.kv (by intro z; cases z)
/-- all stays -/
theorem S6.same (S : S6 C Hs H0 H p m v d dx b l k N cells es ks) (q : Same H H') : S6 C Hs H0 H' p m v d dx b l k N cells es ks :=
  ⟨S.ca.same q, S.bg.keep (same_at q S.bg.some), q _ _ S.ml, q _ _ S.kv, fun e he => q _ _ (S.ke e he), S.ka, S.kn, S.b0, S.l0, S.k0, S.e0, S.bm, S.lm, S.lb, S.em, S.eb, S.el, S.rg, fun c o e => q _ _ (S.hs c o e), S.h0, S.sm, S.sb, S.sl, S.sk, S.se⟩
/-- the bag gives a number -/
theorem S6.take {M : Nat} (S : S6 C Hs H0 H p m v d dx b l k N cells es ks) (h : BagAt H' b M) (o : OffN b H H') : S6 C Hs H0 H' p m v d dx b l k M cells es ks := by
  have st : ∀ {c u}, H c = some u → c ≠ b → H' c = some u := fun e n => (o _ (by rw [e]; simp) n).trans e
  exact ⟨S.ca.step S.b0 S.bm o h.some, h, st S.ml S.lb, st S.kv S.kb, fun e he => st (S.ke e he) (S.eb e he), S.ka, S.kn, S.b0, S.l0, S.k0, S.e0, S.bm, S.lm, S.lb, S.em, S.eb, S.el, S.rg,
    fun c u e => st (S.hs c u e) (ne_of_none e S.sb), S.h0, S.sm, S.sb, S.sl, S.sk, S.se⟩
/-- the cache does a deed, the memory as before -/
theorem S6.cache (S : S6 C Hs H0 H p m v d dx b l k N cells es ks) (h : CA C H0 H' p m v d dx cells es') (f : Fm H0 m H H') (r : ∀ e ∈ es', 0 ≤ e.ln ∧ 2 * e.ln + 1 < cells.length) : S6 C Hs H0 H' p m v d dx b l k N cells es' ks :=
  ⟨h, S.bg.keep (f b S.b0 S.bm), (f l S.l0 S.lm).trans S.ml, (f k S.k0 S.km).trans S.kv, fun e he => (f _ (S.e0 e he) (S.em e he)).trans (S.ke e he), S.ka, S.kn, S.b0, S.l0, S.k0, S.e0, S.bm, S.lm, S.lb, S.em, S.eb, S.el, r,
    fun c u e => (f c (S.h0 c (by rw [e]; simp)) (ne_of_none e S.sm)).trans (S.hs c u e), S.h0, S.sm, S.sb, S.sl, S.sk, S.se⟩
/-- the law lays an entry of its own -/
theorem S6.new {n x y : Int} {t : Bool} {q : Addr} (S : S6 C Hs H0 H p m v d dx b l k N cells es ks) (hf : fnd ks n = none) (hq : H q = none) :
    S6 C Hs (upd H0 q (.lst [])) (upd (upd H q (.lst [.int x, .int y, .bl t])) k (.dK (vK (ks ++ [⟨n, q, x, y, t⟩])))) p m v d dx b l k N cells es (ks ++ [⟨n, q, x, y, t⟩]) := by
  have ap : ∀ {c u}, H c = some u → c ≠ q := fun e => ne_of_none e hq
  have q0 : H0 q = none := by
    cases z : H0 q with
    | none => rfl
    | some o => exact absurd hq (S.ca.st q (by rw [z]; simp))
  have kq := ap S.kv
  have st : ∀ {c u}, H c = some u → c ≠ k → (upd (upd H q (.lst [.int x, .int y, .bl t])) k (.dK (vK (ks ++ [⟨n, q, x, y, t⟩])))) c = some u := fun e z => by rw [upd_ne z, upd_ne (ap e)]; exact e
  have kn : ∀ {c}, H0 c ≠ none → (upd H0 q (.lst [])) c ≠ none := fun {c} h => by
    by_cases z : c = q
    · rw [z, upd_same]; simp
    · rw [upd_ne z]; exact h
  have ca1 := S.ca.know (o := .lst []) hq (put_same (o := .lst [.int x, .int y, .bl t]) hq) (by rw [upd_same]; simp)
  have bq : b ≠ q := fun z => S.bg.some (by rw [z]; exact hq)
  have sq : Hs q = none := S.hs.free hq
  refine ⟨ca1.frame (kn S.k0) S.km (fun c hc => upd_ne hc) (by rw [upd_same]; simp), S.bg.keep ?_, st S.ml S.kl.symm, upd_same, fun e he => ?_, ?_, ?_, kn S.b0, kn S.l0, kn S.k0, fun e he => ?_, S.bm, S.lm, S.lb, fun e he => ?_, fun e he => ?_, fun e he => ?_, S.rg,
    fun c u e => st (S.hs c u e) (ne_of_none e S.sk), fun c hc => kn (S.h0 c hc), S.sm, S.sb, S.sl, S.sk, fun e he => ?_⟩
  · rw [upd_ne S.kb.symm, upd_ne bq]
  · rcases List.mem_append.mp he with he | he
    · exact st (S.ke e he) (S.ek e he)
    · rw [List.mem_singleton.mp he, upd_ne kq.symm, upd_same]
  · rw [List.map_append]
    refine snoc_nd S.ka fun z => ?_
    obtain ⟨e, he, w⟩ := List.mem_map.mp z
    exact ap (S.ke e he) w
  · rw [List.map_append]
    refine snoc_nd S.kn fun z => ?_
    obtain ⟨e, he, w⟩ := List.mem_map.mp z
    exact fnd_no hf e he w
  · rcases List.mem_append.mp he with he | he
    · exact kn (S.e0 e he)
    · rw [List.mem_singleton.mp he, upd_same]; simp
  · rcases List.mem_append.mp he with he | he
    · exact S.em e he
    · rw [List.mem_singleton.mp he]; exact (ap S.ca.mm).symm
  · rcases List.mem_append.mp he with he | he
    · exact S.eb e he
    · rw [List.mem_singleton.mp he]; exact bq.symm
  · rcases List.mem_append.mp he with he | he
    · exact S.el e he
    · rw [List.mem_singleton.mp he]; exact (ap S.ml).symm
  · rcases List.mem_append.mp he with he | he
    · exact S.se e he
    · rw [List.mem_singleton.mp he]; exact sq
/-- the law stores to an entry of its own -/
theorem S6.put {n : Int} {e : Ent} {f : Ent → Ent} (S : S6 C Hs H0 H p m v d dx b l k N cells es ks) (hf : fnd ks n = some e) (f1 : ∀ e, (f e).ln = e.ln ∧ (f e).ad = e.ad) :
    S6 C Hs H0 (upd H e.ad (.lst [.int (f e).x, .int (f e).y, .bl (f e).dt])) p m v d dx b l k N cells es (setE ks n f) := by
  obtain ⟨em, en⟩ := fnd_mem hf
  have mem : ∀ {a}, a ∈ setE ks n f → ∃ c ∈ ks, a.ad = c.ad := fun {a} h => by
    obtain ⟨c, hc, rfl⟩ := setE_mem h
    refine ⟨c, hc, ?_⟩
    by_cases q : c.ln = n
    · rw [if_pos q]; exact (f1 c).2
    · rw [if_neg q]
  refine ⟨S.ca.frame (S.e0 e em) (S.em e em) (fun c hc => upd_ne hc) (by rw [upd_same]; simp), S.bg.keep (upd_ne (S.eb e em).symm), by rw [upd_ne (S.el e em).symm]; exact S.ml, by rw [upd_ne (S.ek e em).symm, setE_vK _ _ _ f1]; exact S.kv, fun a ha => ?_, by rw [setE_map (·.ad) _ _ _ fun e => (f1 e).2]; exact S.ka, by rw [setE_map (·.ln) _ _ _ fun e => (f1 e).1]; exact S.kn,
    S.b0, S.l0, S.k0, fun a ha => ?_, S.bm, S.lm, S.lb, fun a ha => ?_, fun a ha => ?_, fun a ha => ?_, S.rg, fun c u w => ?_, S.h0, S.sm, S.sb, S.sl, S.sk, fun a ha => ?_⟩
  · obtain ⟨c, hc, rfl⟩ := setE_mem ha
    by_cases q : c.ln = n
    · have ec : c = e := uniq_ln S.kn hc em (q.trans en.symm)
      rw [if_pos q, ec, (f1 e).2, upd_same]
    · have nb : c.ad ≠ e.ad := fun z => q (by rw [uniq_ad S.ka hc em z]; exact en)
      rw [if_neg q, upd_ne nb]
      exact S.ke c hc
  · obtain ⟨c, hc, w⟩ := mem ha
    rw [w]; exact S.e0 c hc
  · obtain ⟨c, hc, w⟩ := mem ha
    rw [w]; exact S.em c hc
  · obtain ⟨c, hc, w⟩ := mem ha
    rw [w]; exact S.eb c hc
  · obtain ⟨c, hc, w⟩ := mem ha
    rw [w]; exact S.el c hc
  · rw [upd_ne (fun z => by rw [z, S.se e em] at w; cases w)]
    exact S.hs c u w
  · obtain ⟨c, hc, w⟩ := mem ha
    rw [w]; exact S.se c hc
/-- a value is put into the memory and into the mirror -/
theorem S6.poke {cells' : List Int} (S : S6 C Hs H0 H p m v d dx b l k N cells es ks) (hl : cells'.length = cells.length) :
    S6 C Hs H0 (upd (upd H m (.lst (cells'.map V.int))) l (.lst (cells'.map V.int))) p m v d dx b l k N cells' es ks := by
  have st : ∀ {c u}, H c = some u → c ≠ m → c ≠ l → (upd (upd H m (.lst (cells'.map V.int))) l (.lst (cells'.map V.int))) c = some u := fun e z1 z2 => by rw [upd_ne z2, upd_ne z1]; exact e
  refine ⟨(S.ca.poke hl).frame S.l0 S.lm (fun c hc => upd_ne hc) (by rw [upd_same]; simp), S.bg.keep (by rw [upd_ne S.lb.symm, upd_ne S.bm]), upd_same, st S.kv S.km S.kl, fun e he => st (S.ke e he) (S.em e he) (S.el e he), S.ka, S.kn, S.b0, S.l0, S.k0, S.e0, S.bm, S.lm, S.lb, S.em, S.eb, S.el, fun e he => by rw [hl]; exact S.rg e he,
    fun c u e => st (S.hs c u e) (ne_of_none e S.sm) (ne_of_none e S.sl), S.h0, S.sm, S.sb, S.sl, S.sk, S.se⟩
end
/-- lines that are loaded lie in the memory -/
theorem ldr_rg {cells : List Int} {es es' : List Ent} {n : Int} (r : ∀ e ∈ es, 0 ≤ e.ln ∧ 2 * e.ln + 1 < cells.length) (n0 : 0 ≤ n) (n1 : 2 * n + 1 < cells.length) (h : LdR cells es n es') : (∀ e ∈ es', 0 ≤ e.ln ∧ 2 * e.ln + 1 < cells.length) ∧ es'.length ≤ es.length + 1 := by
  rcases h with ⟨_, _, rfl⟩ | ⟨_, a, rfl⟩
  · exact ⟨r, Nat.le_succ _⟩
  · refine ⟨fun e he => ?_, by rw [List.length_append]; exact Nat.le_refl _⟩
    rcases List.mem_append.mp he with he | he
    · exact r e he
    · rw [List.mem_singleton.mp he]; exact ⟨n0, n1⟩
theorem set_rg {cells : List Int} {es : List Ent} {n : Int} {f : Ent → Ent} (f1 : ∀ e, (f e).ln = e.ln) (r : ∀ e ∈ es, 0 ≤ e.ln ∧ 2 * e.ln + 1 < cells.length) : ∀ e ∈ setE es n f, 0 ≤ e.ln ∧ 2 * e.ln + 1 < cells.length := fun e he => by
  obtain ⟨c, hc, rfl⟩ := setE_mem he
  by_cases q : c.ln = n
  · rw [if_pos q, f1]; exact r c hc
  · rw [if_neg q]; exact r c hc
end Ln
namespace Ln
open PySem L2
/-- dict() -/
theorem cr_dict0 {X : Cx} : CallR X (.type "dict") (fun xs H Q => xs = [] ∧ ∀ p, H p = none → Q (.ref p) (upd H p (.dK []))) := by
  intro pins s σ H xs us Q I r h
  obtain ⟨rfl, q⟩ := h
  cases r
  refine FK.call_dict0 ⟨.ref s.heap.objs.size, _, I.laid (a := s.heap.objs.size) (o := .dK []) (t' := s.toks) (fun _ _ q => Heap.get?_push_of_some _ q) (Nat.le_refl _) (dk_empty s.heap I.big), rfl, q _ (I.hok.fresh (Nat.le_refl _))⟩
/-- what the walk asks of the built-ins -/
structure TB (mg : Str → Option Value) : Prop where
  len : mg "len" = none
  abs : mg "abs" = none
  range : mg "range" = none
  min : mg "min" = none
  max : mg "max" = none
  list : mg "list" = none
  dict : mg "dict" = none
  tuple : mg "tuple" = none
  sorted : mg "sorted" = none
theorem ixN_at {n : Nat} {i : Int} (h0 : 0 ≤ i) (h1 : i < n) : ixN n i = some i.toNat := by
  unfold ixN
  rw [if_pos h0, if_pos h1]
theorem at_int {xs : List Int} {i : Int} (h0 : 0 ≤ i) (h1 : i < xs.length) : atI (xs.map V.int) i = some (.int (xs.getD i.toNat 0)) := by
  refine at_of (j := i.toNat) (by omega) ?_
  have q : i.toNat < xs.length := by omega
  rw [List.getElem?_map, List.getD_eq_getElem?_getD, List.getElem?_eq_getElem q]
  rfl
theorem same_off {Hs H H' : Hp} {b : Addr} (k : Same Hs H) (hb : Hs b = none) (o : OffN b H H') : Same Hs H' := fun c u e => (o c (by rw [k c u e]; simp) (ne_of_none e hb)).trans (k c u e)
theorem held_nil {H' : Hp} {q : Addr} {ks : List (Int × Bool)} {ts : List Addr} (h1 : ks.Perm (([] : List Ent).map fun e => (e.ln, e.dt))) (h2 : H' q = some (.tup (ts.map V.ref))) (h3 : Paired (fun (t : Addr) (q : Int × Bool) => H' t = some (.tup [.int q.1, .bl q.2])) ts ks) : H' q = some (.tup []) := by
  have e : ks = [] := List.Perm.eq_nil h1
  subst e
  cases h3
  exact h2
theorem eqv_self {d : PyData} (h : SeqAt.shaped d = true) : PyData.eqv d d = true := SeqAt.eqv_refl _ (SeqAt.canLay_of_shaped h)
abbrev g0 (l : List Int) (i : Nat) : Int := l.getD i 0
def dInts (xs : List Int) : PyData := .list (xs.map .int)
theorem canlay_ints : ∀ xs : List Int, PyData.canLayAll0 (xs.map .int) = true
  | [] => rfl
  | x :: xs => by
    rw [List.map_cons, PyData.canLayAll0, canlay_ints xs, PyData.canLay0]
    rfl
theorem depth_ints : ∀ xs : List Int, PyData.depthAll (xs.map .int) = 0
  | [] => rfl
  | x :: xs => by
    rw [List.map_cons, PyData.depthAll, depth_ints xs, PyData.depth]
    rfl
theorem shaped_ints (xs : List Int) : SeqAt.shaped (dInts xs) = true := by
  unfold SeqAt.shaped dInts
  rw [PyData.canLay0, canlay_ints, PyData.depth, depth_ints]
  rfl
theorem dpall_ints {K : PySem.W.Frag} {H : Hp} : ∀ xs : List Int, DpAll K H (xs.map V.int) (xs.map .int)
  | [] => .nil
  | x :: xs => .cons (.int x) (dpall_ints xs)
theorem dp_ints {K : PySem.W.Frag} {H : Hp} {a : Addr} {xs : List Int} (h : SqL K H a (xs.map V.int)) : Dp K H (.ref a) (dInts xs) := .lst h (dpall_ints xs)
theorem eqv_ints (xs : List Int) : PyData.eqv (dInts xs) (dInts xs) = true := eqv_self (shaped_ints xs)
structure Def (K : PySem.W.Frag) (mg : Str → Option Value) (x : Str) (f : Addr) (fd : FuncData) (ps : List Str) : Prop where
  at_ : mg x = some (.ref f)
  kp : PySem.W.keepIn K (.ref f) = true
  bd : Binds K fd ps []
structure Mth (P : Program) (w : World) (K : PySem.W.Frag) (mg : Str → Option Value) (base : Heap) (C : Addr) (k : Nat) (x : Str) (ps : List Str) (sp : Sp) (f : Addr) (fd : FuncData) : Prop where
  ok : FnOk P w K mg base CX0 k f fd ps sp
  bd : Binds K fd ps []
  at_ : Meth K C x f
structure Hd (P : Program) (w : World) (K : PySem.W.Frag) (mg : Str → Option Value) (base : Heap) (C : Addr) (pp f : Addr) (fd : FuncData) : Prop where
  ok : FnOk P w K mg base CX0 1 f fd ["self"] (spHeld C)
  bd : Binds K fd ["self"] []
  pr : PropOf K C "held" pp f
def spBag (K : PySem.W.Frag) : Sp := fun vs H Q _ => ∃ (a : Addr) (ns : List Int) (i : Int), vs = [.ref a, .int i] ∧ SqL K H a (ns.map V.int) ∧ ns.length ≤ 63 ∧ 0 ≤ i ∧ i ≤ 63 ∧
  ∀ (p : Addr) (H' : Hp), H p = none → BagAt H' p 0 → Off p H H' → Q (.ref p) H'
section
variable {P : Program} {w : World} {K : PySem.W.Frag} {mg : Str → Option Value} {base : Heap}
theorem scBag : FnScope ["_law_script", "_law_at", "_law_number", "_law_large"] ["_law_script", "_law_at"] (defScope sBag) := ⟨rfl, rfl, rfl, by decide +kernel, rfl, by decide +kernel, by decide +kernel⟩
theorem ok_bag {f : Addr} {fd : FuncData} (F : Fun K "_law_bag" "_law_bag" sBag f fd) (T : TB mg) : FnOk P w K mg base CX0 1 f fd ["_law_script", "_law_at"] (spBag K) := by
  refine F.ok scBag (fun vs H Q E h => ?_) (fun cdv A outer s H vs Q E hr h => ?_)
  · obtain ⟨a, ns, i, rfl, _⟩ := h
    rfl
  · obtain ⟨a, ns, i, rfl, hS, hl, i0, i1, k⟩ := h
    refine ⟨_, pss_cons (ps_set (i := 2) scBag.nd rfl (Or.inl rfl) (pe_ifExp (pt_cmpR op_lt (pv 1) (pe_callB call_len_seq (by rfl) T.len PySem.boot_len (pa_cons (pv 0) pa_nil)) (nomark _)) (pe_ix ix_list (pv 0) (pv 1) (fun _ _ => rfl)) pe_int))
      (pss_cons (ps_set (i := 3) scBag.nd rfl (Or.inl rfl) (pe_ifExp (pt_cmpR op_ge (pe_callB call_abs (by rfl) T.abs (by decide +kernel) (pa_cons (pv 2) pa_nil)) (pe_op op_pow pe_int pe_int) (nomark _)) (pe_callB call_abs (by rfl) T.abs (by decide +kernel) (pa_cons (pv 2) pa_nil)) pe_int))
      (pss_one (ps_ret (pe_lst (pa_cons (pv 3) (pa_cons (pe_op op_add (pe_op op_add (pe_op op_mul (pe_op op_modN (pv 2) (pe_op op_add (pe_op op_pow pe_int pe_int) pe_int)) pe_int) (pe_op op_mul pe_int (pv 1))) pe_int) (pa_cons pe_int pa_nil))))))), ?_⟩
    refine ⟨_, rfl, _, rfl, a, _, rfl, .inl hS, _, _, rfl, rfl, _, rfl, ?_⟩
    have hw : ∀ z : Int, 0 ≤ z.fmod (10 ^ 18 + 9) * 5 + 7793 * i + 613 ∧ z.fmod (10 ^ 18 + 9) * 5 + 7793 * i + 613 < 6 * 10 ^ 18 := fun z => by
      obtain ⟨q1, q2⟩ := fmod_in (a := z) (m := 10 ^ 18 + 9) (by decide)
      omega
    have ha : ∀ z : Int, 0 ≤ (if z < 0 then -z else z) := fun z => by
      by_cases q : z < 0
      · rw [if_pos q]; omega
      · rw [if_neg q]; omega
    refine ite2 (fun h1 => ?_) (fun h1 => ?_)
    · have h2 : i < ((ns.map V.int).length : Int) := of_decide_eq_true h1
      rw [List.length_map] at h2
      have hn : i.toNat < ns.length := by omega
      refine ⟨_, rfl, _, rfl, a, _, _, .int ns[i.toNat], rfl, rfl, hS, ?_, ?_⟩
      · refine at_of (j := i.toNat) (by omega) ?_
        rw [List.getElem?_map, List.getElem?_eq_getElem hn] <;> rfl
      refine ⟨_, rfl, _, rfl, _, _, rfl, rfl, ⟨by decide, by decide, by decide⟩, _, _, rfl, rfl, _, rfl, ?_⟩
      refine ite2 (fun h3 => ?_) (fun h3 => ?_)
      · refine ⟨_, rfl, _, rfl, ?_⟩
        refine ⟨_, rfl, _, rfl, _, _, rfl, rfl, ⟨by decide, by decide, by decide⟩, _, _, rfl, rfl, _, _, rfl, rfl, (by show (10 ^ Int.toNat 18 + 9 : Int) ≠ 0; decide), _, _, rfl, rfl, .inr ⟨by decide, by decide⟩, _, rfl, _, _, rfl, rfl, .inl ⟨by decide, by decide⟩, _, _, rfl, rfl, _, _, rfl, rfl, (by show 3 ≤ sizeLine; decide), fun p hp => ?_⟩
        exact k p _ hp ⟨_, _, 0, upd_same, ha _, (hw _).1, (hw _).2, Int.le_refl _, Int.le_refl _⟩ fun c hc => upd_ne hc
      · refine ⟨_, rfl, _, rfl, _, _, rfl, rfl, ⟨by decide, by decide, by decide⟩, _, _, rfl, rfl, _, _, rfl, rfl, (by show (10 ^ Int.toNat 18 + 9 : Int) ≠ 0; decide), _, _, rfl, rfl, .inr ⟨by decide, by decide⟩, _, rfl, _, _, rfl, rfl, .inl ⟨by decide, by decide⟩, _, _, rfl, rfl, _, _, rfl, rfl, (by show 3 ≤ sizeLine; decide), fun p hp => ?_⟩
        exact k p _ hp ⟨_, _, 0, upd_same, Int.le_refl _, (hw _).1, (hw _).2, Int.le_refl _, Int.le_refl _⟩ fun c hc => upd_ne hc
    · refine ⟨_, rfl, _, rfl, _, _, rfl, rfl, ⟨by decide, by decide, by decide⟩, _, _, rfl, rfl, _, rfl, ?_⟩
      refine ite2 (fun h3 => ?_) (fun h3 => ?_)
      · refine ⟨_, rfl, _, rfl, ?_⟩
        refine ⟨_, rfl, _, rfl, _, _, rfl, rfl, ⟨by decide, by decide, by decide⟩, _, _, rfl, rfl, _, _, rfl, rfl, (by show (10 ^ Int.toNat 18 + 9 : Int) ≠ 0; decide), _, _, rfl, rfl, .inr ⟨by decide, by decide⟩, _, rfl, _, _, rfl, rfl, .inl ⟨by decide, by decide⟩, _, _, rfl, rfl, _, _, rfl, rfl, (by show 3 ≤ sizeLine; decide), fun p hp => ?_⟩
        exact k p _ hp ⟨_, _, 0, upd_same, ha _, (hw _).1, (hw _).2, Int.le_refl _, Int.le_refl _⟩ fun c hc => upd_ne hc
      · refine ⟨_, rfl, _, rfl, _, _, rfl, rfl, ⟨by decide, by decide, by decide⟩, _, _, rfl, rfl, _, _, rfl, rfl, (by show (10 ^ Int.toNat 18 + 9 : Int) ≠ 0; decide), _, _, rfl, rfl, .inr ⟨by decide, by decide⟩, _, rfl, _, _, rfl, rfl, .inl ⟨by decide, by decide⟩, _, _, rfl, rfl, _, _, rfl, rfl, (by show 3 ≤ sizeLine; decide), fun p hp => ?_⟩
        exact k p _ hp ⟨_, _, 0, upd_same, Int.le_refl _, (hw _).1, (hw _).2, Int.le_refl _, Int.le_refl _⟩ fun c hc => upd_ne hc
end
end Ln
namespace Ln
open PySem L2
abbrev sValue : Stmt := top 15
abbrev sKept : Stmt := top 16
def spValue : Sp := fun vs H Q _ => ∃ (b : Addr) (N : Nat), vs = [.ref b] ∧ BagAt H b N ∧ N < 900000 ∧ ∀ (z : Int) (H' : Hp), BagAt H' b (N + 2) → OffN b H H' → Q (.int z) H'
def spKept : Sp := fun vs H Q _ => ∃ (k l : Addr) (n : Int) (cells : List Int) (ks : List Ent), vs = [.ref k, .ref l, .int n] ∧ H k = some (.dK (vK ks)) ∧ H l = some (.lst (cells.map V.int)) ∧ 0 ≤ n ∧ 2 * n + 1 < cells.length ∧ ks.length < 900 ∧
  (∀ e, fnd ks n = some e → Q (.ref e.ad) H) ∧
  (fnd ks n = none → ∀ q, H q = none → Q (.ref q) (upd (upd H q (.lst [.int (cells.getD (2 * n).toNat 0), .int (cells.getD ((2 * n).toNat + 1) 0), .bl false])) k (.dK (vK (ks ++ [⟨n, q, cells.getD (2 * n).toNat 0, cells.getD ((2 * n).toNat + 1) 0, false⟩])))))
theorem S6.kept {C : Addr} {Hs H0 H : Hp} {p m v d dx b l k : Addr} {N : Nat} {cells : List Int} {es ks : List Ent} {n : Int} {Q : VK} {E : XK} (S : S6 C Hs H0 H p m v d dx b l k N cells es ks) (n0 : 0 ≤ n) (n1 : 2 * n + 1 < cells.length) (hl : ks.length < 900)
    (h : ∀ (ks' : List Ent) (e : Ent) (H0' H' : Hp), LdR cells ks n ks' → fnd ks' n = some e → S6 C Hs H0' H' p m v d dx b l k N cells es ks' → Q (.ref e.ad) H') : spKept [.ref k, .ref l, .int n] H Q E := by
  refine ⟨k, l, n, cells, ks, rfl, S.kv, S.ml, n0, n1, hl, fun e he => h ks e H0 H (.inl ⟨e, he, rfl⟩) he S, fun hf q hq => ?_⟩
  exact h _ ⟨n, q, _, _, false⟩ _ _ (.inr ⟨hf, q, rfl⟩) (by rw [fnd_snoc (e := ⟨n, q, _, _, false⟩) hf, if_pos rfl]) (S.new hf hq)
section
variable {P : Program} {w : World} {K : PySem.W.Frag} {mg : Str → Option Value} {base : Heap}
theorem scValue : FnScope ["_law_bag_here"] ["_law_bag_here"] (defScope sValue) := ⟨rfl, rfl, rfl, by decide +kernel, rfl, by decide +kernel, by decide +kernel⟩
theorem at6 {x0 x1 x2 x3 x4 x5 : Int} {r : Int} (h0 : 0 ≤ r) (h1 : r < 6) : ∃ z, atI [V.int x0, V.int x1, V.int x2, V.int x3, V.int x4, V.int x5] r = some (V.int z) := by
  rcases (show r = 0 ∨ r = 1 ∨ r = 2 ∨ r = 3 ∨ r = 4 ∨ r = 5 by omega) with q | q | q | q | q | q <;> rw [q]
  · exact ⟨x0, rfl⟩
  · exact ⟨x1, rfl⟩
  · exact ⟨x2, rfl⟩
  · exact ⟨x3, rfl⟩
  · exact ⟨x4, rfl⟩
  · exact ⟨x5, rfl⟩
theorem ok_value {f fT : Addr} {fd fdT : FuncData} (F : Fun K "_law_value" "_law_value" sValue f fd) (FT : Fun K "_law_take" "_law_take" sTake fT fdT) (DA : mg "_law_take" = some (.ref fT)) (DK : PySem.W.keepIn K (.ref fT) = true) (DB : Binds K fdT ["_law_bag_here", "_law_many"] []) :
    FnOk P w K mg base CX0 2 f fd ["_law_bag_here"] spValue := by
  have GT : FnOk P w K mg base CX0 1 fT fdT ["_law_bag_here", "_law_many"] spTake := ok_take FT
  refine F.ok scValue (fun vs H Q E h => ?_) (fun cdv A outer s H vs Q E hr h => ?_)
  · obtain ⟨b, N, rfl, _⟩ := h
    rfl
  · obtain ⟨b, N, rfl, hb, hN, k⟩ := h
    refine ⟨_, pss_one (ps_ret (pe_ix ix_list (pe_lst (pa_cons pe_int (pa_cons pe_int (pa_cons (pe_un un_neg pe_int) (pa_cons (pe_op op_sub (pe_op op_pow pe_int pe_int) pe_int) (pa_cons (pe_op op_sub pe_int (pe_op op_pow pe_int pe_int)) (pa_cons (pe_call GT hr (by rfl) DA DK DB .nil pass0 (pa_cons (pv 0) (pa_cons pe_int pa_nil))) pa_nil)))))))
      (pe_call GT hr (by rfl) DA DK DB .nil pass0 (pa_cons (pv 0) (pa_cons pe_int pa_nil))) (fun _ _ => rfl))), ?_⟩
    refine ⟨_, rfl, _, _, rfl, rfl, ⟨by decide, by decide, by decide⟩, _, _, rfl, rfl, _, _, rfl, rfl, ⟨by decide, by decide, by decide⟩, _, _, rfl, rfl, _, rfl, b, _, N, rfl, by decide, by decide, hb, by omega, fun r H1 r0 r1 b1 o1 => ?_⟩
    refine ⟨(by show 6 ≤ sizeLine; decide), fun q hq => ?_⟩
    have bq : b ≠ q := fun z => b1.some (by rw [z]; exact hq)
    refine ⟨_, rfl, b, _, N + 1, rfl, by decide, by decide, b1.keep (upd_ne bq), by omega, fun i H2 i0 i1 b2 o2 => ?_⟩
    have hq2 : H2 q = some (.lst [.int 0, .int 1, .int (-1), .int (10 ^ (12 : Int).toNat - 1), .int (1 - 10 ^ (12 : Int).toNat), .int r]) := by rw [o2 q bq.symm, upd_same]
    obtain ⟨z, hz⟩ := at6 (x0 := 0) (x1 := 1) (x2 := -1) (x3 := 10 ^ (12 : Int).toNat - 1) (x4 := 1 - 10 ^ (12 : Int).toNat) (x5 := r) i0 i1
    refine ⟨q, _, i, _, rfl, rfl, SqL.of hq2, hz, ?_⟩
    refine k z H2 b2 fun c hc hcb => ?_
    have cq : c ≠ q := fun z => hc (by rw [z, ← o1 q bq.symm]; exact hq)
    rw [o2 c hcb, upd_ne cq, o1 c hcb]
theorem scKept : FnScope ["_law_kept_here", "_law_cells", "_law_line"] ["_law_kept_here", "_law_cells", "_law_line"] (defScope sKept) := ⟨rfl, rfl, rfl, by decide +kernel, rfl, by decide +kernel, by decide +kernel⟩
theorem ok_kept {f : Addr} {fd : FuncData} (F : Fun K "_law_kept" "_law_kept" sKept f fd) : FnOk P w K mg base CX0 1 f fd ["_law_kept_here", "_law_cells", "_law_line"] spKept := by
  refine F.ok scKept (fun vs H Q E h => ?_) (fun cdv A outer s H vs Q E hr h => ?_)
  · obtain ⟨k, l, n, cells, ks, rfl, _⟩ := h
    rfl
  · obtain ⟨k, l, n, cells, ks, rfl, hk, hL, n0, n1, hl, h1, h2⟩ := h
    have hu := hu_of hr
    refine ⟨_, pss_cons (ps_if (pt_cmp (pc_dnotin hu (pv 2) (pv 0))) (pss_one (ps_dput hu (pv 0) (pv 2) (pe_lst (pa_cons (pe_ix ix_list (pv 1) (pe_op op_mul pe_int (pv 2)) (fun _ _ => rfl)) (pa_cons (pe_ix ix_list (pv 1) (pe_op op_add (pe_op op_mul pe_int (pv 2)) pe_int) (fun _ _ => rfl)) (pa_cons pe_bl pa_nil)))) rfl)) pss_nil)
      (pss_one (ps_ret (pe_dget hu (pv 0) (pv 2) (fun _ _ => rfl)))), ?_⟩
    refine ⟨_, rfl, _, rfl, k, _, rfl, DGet.k (k := Sum.inl n) hk, _, rfl, ?_⟩
    rw [val_v]
    cases hf : fnd ks n with
    | some e =>
      refine iteF ?_
      exact ⟨_, rfl, _, rfl, k, _, rfl, get_v hk hf, h1 e hf⟩
    | none =>
      refine iteT ?_
      have a1 : atI (cells.map V.int) (2 * n) = some (.int (cells.getD (2 * n).toNat 0)) := at_int (by omega) (by omega)
      have a2 : atI (cells.map V.int) (2 * n + 1) = some (.int (cells.getD ((2 * n).toNat + 1) 0)) := by
        have z := at_int (xs := cells) (i := 2 * n + 1) (by omega) n1
        have e : (2 * n + 1).toNat = (2 * n).toNat + 1 := by omega
        rw [e] at z
        exact z
      refine ⟨_, rfl, _, rfl, _, _, rfl, rfl, .inl ⟨by decide, by decide⟩, l, _, _, _, rfl, rfl, SqL.of hL, a1, _, rfl, _, rfl, _, _, rfl, rfl, .inl ⟨by decide, by decide⟩, _, _, rfl, rfl, l, _, _, _, rfl, rfl, SqL.of hL, a2, (by show 3 ≤ sizeLine; decide), fun q hq => ?_⟩
      have kq : k ≠ q := ne_of_none hk hq
      refine ⟨_, rfl, _, rfl, k, _, rfl, DPut.k (k := Sum.inl n) (by rw [upd_ne kq]; exact hk) (small1000 (by unfold vK; rw [List.length_map]; omega)), ?_⟩
      rw [new_v q (cells.getD (2 * n).toNat 0) (cells.getD ((2 * n).toNat + 1) 0) false hf]
      refine ⟨_, rfl, _, rfl, k, _, rfl, get_v upd_same (e := ⟨n, q, cells.getD (2 * n).toNat 0, cells.getD ((2 * n).toNat + 1) 0, false⟩) (by rw [fnd_snoc (e := ⟨n, q, _, _, false⟩) hf, if_pos rfl]), h2 hf q hq⟩
end
end Ln
namespace Ln
open PySem L2
abbrev sLaw : Stmt := top 17
def spLaw (K : PySem.W.Frag) : Sp := fun vs H Q _ => ∃ (a : Addr) (ns : List Int), vs = [.ref a] ∧ SqL K H a (ns.map V.int) ∧ ns.length ≤ 63 ∧ ∀ H', Q (.bl true) H'
theorem S6.mono {C : Addr} {Hs H0 H : Hp} {p m v d dx b l k : Addr} {N M : Nat} {cells : List Int} {es ks : List Ent} (S : S6 C Hs H0 H p m v d dx b l k N cells es ks) (q : N ≤ M) : S6 C Hs H0 H p m v d dx b l k M cells es ks :=
  S.take (S.bg.mono q) fun _ _ _ => rfl
theorem paired_snoc {α β : Type} {F : α → β → Prop} {x : α} {y : β} (r : F x y) : ∀ {xs : List α} {ys : List β}, Paired F xs ys → Paired F (xs ++ [x]) (ys ++ [y])
  | _, _, .nil => .cons r .nil
  | _, _, .cons a t => .cons a (paired_snoc r t)
theorem at3 {x y w : Int} {t : Bool} : atI [V.int x, V.int y, V.bl t] (w % 2) = some (V.int (if w % 2 = 0 then x else y)) := by
  rcases (show w % 2 = 0 ∨ w % 2 = 1 by omega) with q | q
  · rw [q, if_pos rfl]; rfl
  · rw [q, if_neg (by decide)]; rfl
theorem set3 {x y w z : Int} {t : Bool} : ∃ j : Nat, ixN 3 (w % 2) = some j ∧ ([V.int x, V.int y, V.bl t].set j (V.int z)) = [V.int (if w % 2 = 0 then z else x), V.int (if w % 2 = 0 then y else z), V.bl t] := by
  rcases (show w % 2 = 0 ∨ w % 2 = 1 by omega) with q | q
  · refine ⟨0, by rw [q]; rfl, ?_⟩
    rw [if_pos q, if_pos q]; rfl
  · refine ⟨1, by rw [q]; rfl, ?_⟩
    rw [if_neg (by omega), if_neg (by omega)]; rfl
theorem g0_set_eq {l : List Int} {i : Nat} {v : Int} (h : i < l.length) : (l.set i v).getD i 0 = v := by
  rw [List.getD_eq_getElem?_getD, List.getElem?_set_self h]
  rfl
abbrev NL : List Str := ["_law_script", "_law_k", "_law_bag_here", "_law_size", "_law_turn", "_law_cells", "_law_kept_here", "_law_mirror", "_law_cache", "_law_word", "_law_way", "_law_told", "_law_row", "_law_value_here", "_law_line"]
theorem scLaw : FnScope NL ["_law_script"] (defScope sLaw) := ⟨rfl, rfl, rfl, by decide +kernel, rfl, by decide +kernel, by decide +kernel⟩
section
variable {P : Program} {w : World} {K : PySem.W.Frag} {mg : Str → Option Value} {base : Heap} {C CR : Addr} {mc u : Value}
theorem ok_law {f fB fT fV fK fI fR fW fL fH pp : Addr} {fd fdB fdT fdV fdK fdI fdR fdW fdL fdH : FuncData} (F : Fun K "law" "law" sLaw f fd) (T : TL K mg C CR mc u) (B : TB mg)
    (GB : FnOk P w K mg base CX0 1 fB fdB ["_law_script", "_law_at"] (spBag K)) (DB : Def K mg "_law_bag" fB fdB ["_law_script", "_law_at"]) (GT : FnOk P w K mg base CX0 1 fT fdT ["_law_bag_here", "_law_many"] spTake) (DT : Def K mg "_law_take" fT fdT ["_law_bag_here", "_law_many"])
    (GV : FnOk P w K mg base CX0 2 fV fdV ["_law_bag_here"] spValue) (DV : Def K mg "_law_value" fV fdV ["_law_bag_here"]) (GK : FnOk P w K mg base CX0 1 fK fdK ["_law_kept_here", "_law_cells", "_law_line"] spKept) (DK : Def K mg "_law_kept" fK fdK ["_law_kept_here", "_law_cells", "_law_line"])
    (M : Mk K C fI) (GI : FnOk P w K mg base CX0 1 fI fdI ["self", "words"] (spInit C)) (bI : Binds K fdI ["self", "words"] [])
    (MR : Mth P w K mg base C 2 "read" ["self", "word"] (spRead C) fR fdR) (MW : Mth P w K mg base C 2 "write" ["self", "word", "value"] (spWrite C) fW fdW) (ML : Mth P w K mg base C 1 "load" ["self", "line"] (spLoad C) fL fdL)
    (HD : Hd P w K mg base C pp fH fdH) : FnOk P w K mg base CX0 3 f fd ["_law_script"] (spLaw K) := by
  refine F.ok scLaw (fun vs H Q E h => ?_) (fun cdv A outer s Hs vs Q E hr h => ?_)
  · obtain ⟨a, ns, rfl, _⟩ := h
    rfl
  · obtain ⟨a, ns, rfl, hS, hl, k⟩ := h
    have hr1 : Room 1 _ := hr.mono (by decide)
    have hu := hu_of hr
    refine ⟨_, pss_cons (ps_for PassesOwn.never rfl (pi_range1 (by rfl) B.range (pa_cons (pe_callB (call_max2 rfl) (by rfl) B.max (by decide +kernel) (pa_cons pe_int (pa_cons (pe_callB (call_min2 rfl) (by rfl) B.min (by decide +kernel) (pa_cons pe_int (pa_cons (pe_callB call_len_seq (by rfl) B.len PySem.boot_len (pa_cons (pv 0) pa_nil)) pa_nil))) pa_nil))) pa_nil)) (pg_name (i := 1) scLaw.nd rfl (Or.inl rfl))
      (pss_cons (ps_set (i := 2) scLaw.nd rfl (Or.inr rfl) (pe_call GB hr1 (by rfl) DB.at_ DB.kp DB.bd .nil pass0 (pa_cons (pv 0) (pa_cons (pv 1) pa_nil))))
      (pss_cons (ps_set (i := 3) scLaw.nd rfl (Or.inl rfl) (pe_op op_mul pe_int (pe_op op_add pe_int (pe_call GT hr1 (by rfl) DT.at_ DT.kp DT.bd .nil pass0 (pa_cons (pv 2) (pa_cons pe_int pa_nil))))))
      (pss_cons (ps_asg (pe_tup (pa_cons (pe_lc (own := [("_law_turn", 4)]) (g := gName 4) (tt := tYes) rfl scLaw.nd (pi_range1 (by rfl) B.range (pa_cons (pv 3) pa_nil)) (blkOk_by (N := NL) (sc := defScope sLaw) (by decide +kernel))
            (fun _ _ _ _ _ => pg_name (i := 4) scLaw.nd rfl (Or.inl rfl)) (fun _ _ _ _ _ => pts_nil) (fun _ _ _ _ _ => pe_call GV hr (by rfl) DV.at_ DV.kp DV.bd .nil pass0 (pa_cons (pv 2) pa_nil))) (pa_cons (pe_callTy0 cr_dict0 (by rfl) B.dict (by decide +kernel)) pa_nil)))
          (pg_tup (by rfl) (pgs_cons (pg_name (i := 5) scLaw.nd rfl (Or.inl rfl)) (pgs_cons (pg_name (i := 6) scLaw.nd rfl (Or.inr rfl)) pgs_nil))))
      (pss_cons (ps_par (i := 7) (j := 8) rfl scLaw.nd rfl rfl (by decide) rfl rfl (pa_cons (pe_callTy call_list_of (by rfl) B.list (by decide +kernel) (pa_cons (pv 5) pa_nil)) (pa_cons (pe_make M GI hr (by rfl) T.mgC bI .nil pass0 (pa_cons (pv 5) pa_nil)) pa_nil)) (by rfl))
      (pss_cons (ps_if (pt_cmpR (op_neD hr.units) (pe_prop (pv 8) T.cl HD.pr HD.ok hr HD.bd .nil pass0 rfl) (pe_tup pa_nil) (nomark _)) (pss_one (ps_ret pe_bl)) pss_nil)
      (pss_one (ps_for PassesOwn.never rfl (pi_range1 (by rfl) B.range (pa_cons pe_int pa_nil)) (pg_name (i := 4) scLaw.nd rfl (Or.inl rfl))
        (pss_cons (ps_par3 (i := 9) (j := 10) (l := 11) rfl scLaw.nd rfl rfl rfl (by decide) (by decide) (by decide) rfl rfl rfl (pa_cons (pe_call GT hr1 (by rfl) DT.at_ DT.kp DT.bd .nil pass0 (pa_cons (pv 2) (pa_cons (pv 3) pa_nil))) (pa_cons (pe_call GT hr1 (by rfl) DT.at_ DT.kp DT.bd .nil pass0 (pa_cons (pv 2) (pa_cons pe_int pa_nil))) (pa_cons pe_non pa_nil))) (by rfl))
        (C8.pss_cut (ps_if (pt_cmpR op_eq (pv 10) pe_int (nomark _))
            (pss_cons (ps_asg (pe_call GV hr (by rfl) DV.at_ DV.kp DV.bd .nil pass0 (pa_cons (pv 2) pa_nil)) (pg_sub (pv 5) (pv 9) set_list)) (pss_one (ps_asg (pe_ix ix_list (pv 5) (pv 9) (fun _ _ => rfl)) (pg_sub (pv 7) (pv 9) set_list))))
          (pss_one (ps_if (pt_cmpR op_eq (pv 10) pe_int (nomark _))
            (pss_cons (ps_set (i := 11) scLaw.nd rfl (Or.inl rfl) (pe_meth (pv 8) T.cl ML.at_ ML.ok hr1 ML.bd .nil pass0 (pa_cons (pe_op op_fdiv (pv 9) pe_int) pa_nil)))
              (pss_one (ps_set (i := 12) scLaw.nd rfl (Or.inl rfl) (pe_call GK hr1 (by rfl) DK.at_ DK.kp DK.bd .nil pass0 (pa_cons (pv 6) (pa_cons (pv 7) (pa_cons (pe_op op_fdiv (pv 9) pe_int) pa_nil)))))))
          (pss_one (ps_if (pt_cmpR op_lt (pv 10) pe_int (nomark _))
            (pss_cons (ps_set (i := 13) scLaw.nd rfl (Or.inl rfl) (pe_call GV hr (by rfl) DV.at_ DV.kp DV.bd .nil pass0 (pa_cons (pv 2) pa_nil)))
            (pss_cons (ps_par (i := 11) (j := 12) rfl scLaw.nd rfl rfl (by decide) rfl rfl (pa_cons (pe_meth (pv 8) T.cl MW.at_ MW.ok hr MW.bd .nil pass0 (pa_cons (pv 9) (pa_cons (pv 13) pa_nil))) (pa_cons (pe_call GK hr1 (by rfl) DK.at_ DK.kp DK.bd .nil pass0 (pa_cons (pv 6) (pa_cons (pv 7) (pa_cons (pe_op op_fdiv (pv 9) pe_int) pa_nil)))) pa_nil)) (by rfl))
            (pss_cons (ps_asg (pv 13) (pg_sub (pv 12) (pe_op op_mod (pv 9) pe_int) set_list)) (pss_one (ps_asg pe_bl (pg_sub (pv 12) pe_int set_list))))))
            (pss_cons (ps_set (i := 12) scLaw.nd rfl (Or.inl rfl) (pe_call GK hr1 (by rfl) DK.at_ DK.kp DK.bd .nil pass0 (pa_cons (pv 6) (pa_cons (pv 7) (pa_cons (pe_op op_fdiv (pv 9) pe_int) pa_nil)))))
              (pss_one (ps_if (pt_cmpR op_ne (pe_meth (pv 8) T.cl MR.at_ MR.ok hr MR.bd .nil pass0 (pa_cons (pv 9) pa_nil)) (pe_ix ix_list (pv 12) (pe_op op_mod (pv 9) pe_int) (fun _ _ => rfl)) (nomark _)) (pss_one (ps_ret pe_bl)) pss_nil))))))))
        (pss_cons (ps_if (PW.pt (pw_or (pt_cmpR op_notN (pv 11) pe_non (nomark _)) (pw_or1 (pt_cmpR (op_neD hr.units) (pv 5) (pv 7) (nomark _))))) (pss_one (ps_ret pe_bl)) pss_nil)
        (pss_one (ps_if (pt_cmpR (op_neD hr.units) (pe_prop (pv 8) T.cl HD.pr HD.ok hr HD.bd .nil pass0 rfl)
            (pe_callTy call_tuple_of (by rfl) B.tuple (by decide +kernel) (pa_cons (pe_lc (own := [("_law_line", 14)]) (g := gName 14) (tt := tYes) rfl scLaw.nd (pi_list (pe_callB (call_sortedDI rfl) (by rfl) B.sorted (by decide +kernel) (pa_cons (pv 6) pa_nil))) (blkOk_by (N := NL) (sc := defScope sLaw) (by decide +kernel))
              (fun _ _ _ _ _ => pg_name (i := 14) scLaw.nd rfl (Or.inl rfl)) (fun _ _ _ _ _ => pts_nil) (fun _ _ _ _ _ => pe_tup (pa_cons (pv 14) (pa_cons (pe_ix (r := rIxL K) ix_list (pe_dget hu (pv 6) (pv 14) (fun _ _ => rfl)) pe_int (fun _ _ => rfl)) pa_nil)))) pa_nil)) (nomark _)) (pss_one (ps_ret pe_bl)) pss_nil)))))))))))))
      (pss_one (ps_ret pe_bl)), ?_⟩
    refine ⟨_, rfl, a, _, rfl, .inl hS, _, _, rfl, _, _, rfl, _, rfl, ?_⟩
    have hJ : ∀ n : Int, 0 ≤ n → n ≤ 63 → 2 ≤ (if (if n < 6 then n else 6) > 2 then (if n < 6 then n else 6) else 2) ∧ (if (if n < 6 then n else 6) > 2 then (if n < 6 then n else 6) else 2) ≤ 63 := fun n h0 h1 => by
      by_cases q : n < 6
      · rw [if_pos q]
        by_cases z : n > 2
        · rw [if_pos z]; omega
        · rw [if_neg z]; omega
      · rw [if_neg q]
        decide
    have hJ2 := hJ ((ns.map V.int).length : Int) (by omega) (by rw [List.length_map]; omega)
    generalize (if (if ((ns.map V.int).length : Int) < 6 then ((ns.map V.int).length : Int) else 6) > 2 then (if ((ns.map V.int).length : Int) < 6 then ((ns.map V.int).length : Int) else 6) else 2) = J at hJ2 ⊢
    obtain ⟨J0, J1⟩ := hJ2
    refine ⟨by omega, by omega, for_range (lo := 0) (n := J.toNat) (fun i σ H2 => ∃ (v1 v2 v3 v4 v5 v6 v7 v8 v9 v10 v11 v12 v13 v14 : Option V), σ = [some (.ref a), v1, v2, v3, v4, v5, v6, v7, v8, v9, v10, v11, v12, v13, v14] ∧ Same Hs H2) ⟨none, none, none, none, none, none, none, none, none, none, none, none, none, none, rfl, Same.refl Hs⟩ ?_ ?_⟩
    · rintro i σ H2 hi ⟨v1, v2, v3, v4, v5, v6, v7, v8, v9, v10, v11, v12, v13, v14, rfl, s2⟩
      refine ⟨_, rfl, _, rfl, a, ns, _, rfl, s2.seq hS, hl, by omega, by omega, fun b H3 nb b3 o3 => ?_⟩
      have sb : Hs b = none := s2.free nb
      have s3 : Same Hs H3 := same_off s2 sb o3.n
      refine ⟨_, rfl, b, 6, 0, rfl, by decide, by decide, b3, by decide, fun r H4 r0 r1 b4 o4 => ?_⟩
      have s4 : Same Hs H4 := same_off s3 sb o4.n
      obtain ⟨many, hm⟩ := Int.eq_ofNat_of_zero_le (show 0 ≤ 1 + r by omega)
      refine ⟨_, _, rfl, rfl, _, _, rfl, rfl, .inl ⟨by decide, by decide⟩, ?_⟩
      -- _law_cells, _law_kept_here = [..], dict()
      refine ⟨_, rfl, _, rfl, by omega, by omega, fun m hm0 => ?_⟩
      have sm : Hs m = none := s4.free hm0
      have bm : b ≠ m := fun z => b4.some (by rw [z]; exact hm0)
      refine lc_range (lo := 0) (n := (2 * (1 + r)).toNat) (fun i H5 => ∃ xs : List Int, xs.length = i ∧ H5 m = some (.lst (xs.map V.int)) ∧ BagAt H5 b (1 + 2 * i) ∧ Same Hs H5) ⟨[], rfl, upd_same, b4.keep (upd_ne bm), s4.trans (put_same hm0)⟩ ?_ ?_
      · rintro i5 H5 hi5 ⟨xs, hx, d5, b5, s5⟩
        refine ⟨rfl, iteT (B := ∃ xs : List Int, xs.length = i5 + 1 ∧ H5 m = some (.lst (xs.map V.int)) ∧ BagAt H5 b (1 + 2 * (i5 + 1)) ∧ Same Hs H5) ?_⟩
        refine ⟨_, rfl, b, _, rfl, b5, by omega, fun z H6 b6 o6 => ?_⟩
        have d6 : H6 m = some (.lst (xs.map V.int)) := (o6 m (by rw [d5]; simp) bm.symm).trans d5
        refine ⟨_, d6, by rw [List.length_map]; exact small1000 (by omega), xs ++ [z], by rw [List.length_append]; exact congrArg (· + 1) hx, by rw [upd_same, List.map_append]; rfl, (b6.keep (upd_ne bm)).mono (by omega), fun c o e => ?_⟩
        rw [upd_ne (ne_of_none e sm)]
        exact same_off s5 sb o6 c o e
      · rintro H5 ⟨cells, hx, d5, b5, s5⟩
        refine ⟨rfl, fun k6 hk6 => ?_⟩
        have sk : Hs k6 = none := s5.free hk6
        refine ⟨(by show 2 ≤ sizeLine; decide), fun tq htq => ?_⟩
        refine ⟨tq, _, rfl, SqT.of upd_same, rfl, _, _, rfl, _, _, rfl, rfl, ?_⟩
        have mk_ : m ≠ k6 := ne_of_none d5 hk6
        have bk_ : b ≠ k6 := fun z => b5.some (by rw [z]; exact hk6)
        have mt_ : m ≠ tq := fun z => by rw [← z, upd_ne mk_, d5] at htq; cases htq
        have kt_ : k6 ≠ tq := fun z => by rw [← z, upd_same] at htq; cases htq
        have bt_ : b ≠ tq := fun z => b5.some (by rw [← z, upd_ne bk_] at htq; exact htq)
        have d7 : (upd (upd H5 k6 (.dK [])) tq (.tup [.ref m, .ref k6])) m = some (.lst (cells.map V.int)) := by rw [upd_ne mt_, upd_ne mk_]; exact d5
        have e7 : (upd (upd H5 k6 (.dK [])) tq (.tup [.ref m, .ref k6])) k6 = some (.dK []) := by rw [upd_ne kt_, upd_same]
        have b7 : BagAt (upd (upd H5 k6 (.dK [])) tq (.tup [.ref m, .ref k6])) b (1 + 2 * (2 * (1 + r)).toNat) := b5.keep (by rw [upd_ne bt_, upd_ne bk_])
        have s7 : Same Hs (upd (upd H5 k6 (.dK [])) tq (.tup [.ref m, .ref k6])) := (s5.trans (put_same hk6)).trans (put_same htq)
        generalize upd (upd H5 k6 (.dK [])) tq (.tup [.ref m, .ref k6]) = H7 at d7 e7 b7 s7
        have ec : (2 * (1 + r)).toNat = 2 * many := by omega
        rw [ec] at b7 hx
        -- _law_mirror, _law_cache = list(_law_cells), Lines(_law_cells)
        refine ⟨_, rfl, m, _, rfl, .inl (SqL.of d7), fun l hl0 => ?_⟩
        have sl : Hs l = none := s7.free hl0
        have lm : l ≠ m := fun z => by rw [z, d7] at hl0; cases hl0
        have lk : l ≠ k6 := fun z => by rw [z, e7] at hl0; cases hl0
        have lb : l ≠ b := fun z => b7.some (by rw [← z]; exact hl0)
        have d8 : (upd H7 l (.lst (cells.map V.int))) m = some (.lst (cells.map V.int)) := by rw [upd_ne lm.symm]; exact d7
        have e8 : (upd H7 l (.lst (cells.map V.int))) k6 = some (.dK []) := by rw [upd_ne lk.symm]; exact e7
        have b8 : BagAt (upd H7 l (.lst (cells.map V.int))) b (1 + 2 * (2 * many)) := b7.keep (upd_ne lb.symm)
        have s8 : Same Hs (upd H7 l (.lst (cells.map V.int))) := s7.trans (put_same hl0)
        have l8 : (upd H7 l (.lst (cells.map V.int))) l = some (.lst (cells.map V.int)) := upd_same
        generalize upd H7 l (.lst (cells.map V.int)) = H8 at d8 e8 b8 s8 l8
        refine ⟨_, rfl, fun p dx np ndx nex => ?_⟩
        refine ⟨H8, p, m, dx, cells, rfl, rfl, np, ndx, nex, d8, by omega, fun v d H9 I9 e9 => ⟨rfl, _, _, rfl, ?_⟩⟩
        have kn8 : ∀ {c u}, H8 c = some u → H9 c = some u := fun e => (e9 _ (by rw [e]; simp)).trans e
        have S0 : S6 C Hs H8 H9 p m v d dx b l k6 (1 + 2 * (2 * many)) cells [] [] := ⟨I9, b8.keep (e9 b b8.some), kn8 l8, kn8 e8, fun e he => absurd he (by simp), List.nodup_nil, List.nodup_nil, b8.some, by rw [l8]; simp, by rw [e8]; simp, fun e he => absurd he (by simp), bm, lm, lb,
          fun e he => absurd he (by simp), fun e he => absurd he (by simp), fun e he => absurd he (by simp), fun e he => absurd he (by simp), fun c u e => kn8 (s8 c u e), fun c hc => by rw [same_at s8 hc]; exact hc, sm, sb, sl, sk, fun e he => absurd he (by simp)⟩
        have no : ∀ {x : Str}, ¬ x = "_dirty" → ¬ x = "_values" → ¬ x = "_memory" → (flds m v d).lookup x = none := fun h1 h2 h3 => flds_no _ _ _ h1 h2 h3
        clear I9 e9 kn8
        -- if _law_cache.held != ()
        refine ⟨_, rfl, p, dx, _, rfl, S0.ca.ob, H8, p, m, v, d, dx, cells, [], rfl, S0.ca, fun qs ts q H10 h1 _ s10 q0 hq hP => ?_⟩
        have hq0 := held_nil h1 hq hP
        refine ⟨Nat.zero_le _, fun t ht => ?_⟩
        have S1 := (S0.same s10).same (put_same (o := .tup []) ht)
        refine ⟨.tuple [], .tuple [], .tup (SqT.of (by rw [upd_ne (ne_of_none hq0 ht)]; exact hq0)) .nil, .tup (SqT.of upd_same) .nil, by decide +kernel, by decide +kernel, false, by rw [eqv_self (by decide +kernel)]; rfl, iteF ?_⟩
        generalize upd H10 t (.tup []) = H11 at S1
        have hN : 1 + 2 * (2 * many) ≤ 100 := by omega
        generalize 1 + 2 * (2 * many) = N at S1 hN
        -- for _law_turn in range(30)
        refine ⟨30, rfl, by decide, by decide, for_range (lo := 0) (n := 30) (fun i' σ H2 => ∃ (v4 v9 v10 v11 v12 v13 v14 : Option V) (H0 : Hp) (c2 : List Int) (es ks : List Ent), σ = [some (.ref a), some (.int (0 + (i : Int))), some (.ref b), some (.int (2 * (1 + r))), v4, some (.ref m), some (.ref k6), some (.ref l), some (.ref p), v9, v10, v11, v12, v13, v14] ∧
            S6 C Hs H0 H2 p m v d dx b l k6 (N + 4 * i') c2 es ks ∧ ks.map core = es.map core ∧ es.length ≤ i' ∧ c2.length = 2 * many)
          ⟨_, _, _, _, _, _, _, H8, cells, [], [], rfl, S1, rfl, Nat.le_refl _, hx⟩ ?_ ?_⟩
        · rintro i2 σ H2 hi2 ⟨v4, v9, v10, v11, v12, v13, v14, H0, c2, es, ks, rfl, S2, hco, hle, hcl⟩
          refine ⟨_, rfl, _, rfl, b, _, _, rfl, by omega, by omega, S2.bg, by omega, fun wd H3' w0 w1 b3' o3' => ?_⟩
          have S3 := S2.take b3' o3'.n
          refine ⟨_, rfl, b, 6, _, rfl, by decide, by decide, S3.bg, by omega, fun y H4' y0 y1 b4' o4' => ?_⟩
          have S4 := S3.take b4' o4'.n
          refine ⟨_, _, _, rfl, ?_⟩
          have hw : wd < c2.length := by omega
          have hw2 : 2 * (wd / 2) + 1 < c2.length := by omega
          refine ⟨fun σ H5 => ∃ (v12 v13 v14 : Option V) (H0 : Hp) (c3 : List Int) (es ks : List Ent), σ = [some (.ref a), some (.int (0 + (i : Int))), some (.ref b), some (.int (2 * (1 + r))), some (.int (0 + (i2 : Int))), some (.ref m), some (.ref k6), some (.ref l), some (.ref p), some (.int wd), some (.int y), some .non, v12, v13, v14] ∧
            S6 C Hs H0 H5 p m v d dx b l k6 (N + 4 * (i2 + 1)) c3 es ks ∧ ks.map core = es.map core ∧ es.length ≤ i2 + 1 ∧ c3.length = 2 * many, ?_, ?_⟩
          · have hkl := core_len hco
            have hrg : ∀ {es' : List Ent}, LdR c2 es (wd / 2) es' → (∀ e ∈ es', 0 ≤ e.ln ∧ 2 * e.ln + 1 < c2.length) ∧ es'.length ≤ es.length + 1 := fun h => ldr_rg S4.rg (by omega) hw2 h
            refine ⟨_, rfl, rfl, _, rfl, ?_⟩
            refine ite2 (fun _ => ?_) (fun _ => ?_)
            · -- a value is put into the memory
              refine ⟨_, rfl, b, _, rfl, S4.bg, by omega, fun z H5 b5 o5 => ?_⟩
              have S5 := S4.take b5 o5
              refine ⟨_, rfl, _, rfl, m, _, _, wd.toNat, rfl, rfl, S5.ca.mm, ixN_at w0 (by rw [List.length_map]; omega), ?_⟩
              rw [← List.map_set]
              have a5 : atI ((c2.set wd.toNat z).map V.int) wd = some (.int z) := by
                rw [at_int w0 (by rw [List.length_set]; omega), g0_set_eq (by omega)]
              refine ⟨_, rfl, _, rfl, m, _, _, _, rfl, rfl, SqL.of upd_same, a5, _, rfl, _, rfl, l, _, _, wd.toNat, rfl, rfl, (by rw [upd_ne S5.lm]; exact S5.ml), ixN_at w0 (by rw [List.length_map]; omega), ?_⟩
              rw [← List.map_set]
              exact ⟨_, _, _, H0, _, es, ks, rfl, (S5.poke (List.length_set ..)).mono (by omega), hco, by omega, by rw [List.length_set]; exact hcl⟩
            refine ⟨_, rfl, rfl, _, rfl, ?_⟩
            refine ite2 (fun _ => ?_) (fun _ => ?_)
            · refine ⟨_, rfl, p, dx, _, rfl, S4.ca.ob, no (by decide +kernel) (by decide +kernel) (by decide +kernel), _, rfl, _, _, rfl, rfl, ⟨by decide, by decide⟩, H0, p, m, v, d, dx, c2, es, _, rfl, S4.ca, by omega, hw2, by omega, fun es5 H5 ld I5 f5 => ?_⟩
              have S5 := S4.cache I5 f5 (hrg ld).1
              refine ⟨_, rfl, _, rfl, _, rfl, _, _, rfl, rfl, ⟨by decide, by decide⟩, ?_⟩
              dsimp only [tNil]
              refine S5.kept (by omega) hw2 (by omega) fun ks6 e6 H06 H6 lk he S6 => ?_
              exact ⟨_, _, _, H06, c2, es5, ks6, rfl, S6.mono (by omega), core_ldr hco lk ld, by have q := (hrg ld).2; omega, hcl⟩
            refine ⟨_, rfl, _, _, rfl, rfl, _, rfl, ?_⟩
            refine ite2 (fun _ => ?_) (fun _ => ?_)
            · refine ⟨_, rfl, b, _, rfl, S4.bg, by omega, fun z H5 b5 o5 => ?_⟩
              have S5 := S4.take b5 o5
              refine ⟨_, rfl, p, dx, _, rfl, S5.ca.ob, no (by decide +kernel) (by decide +kernel) (by decide +kernel), _, rfl, _, rfl, H0, p, m, v, d, dx, c2, es, _, _, rfl, S5.ca, w0, hw2, by omega, fun es6 H6 ld I6 f6 => ?_⟩
              have S6 := S5.cache I6 f6 (set_rg (fun _ => rfl) (hrg ld).1)
              refine ⟨_, rfl, _, rfl, _, rfl, _, _, rfl, rfl, ⟨by decide, by decide⟩, ?_⟩
              dsimp only [tNil]
              refine S6.kept (by omega) hw2 (by omega) fun ks7 e7 H07 H7 lk he S7 => ?_
              refine ⟨_, _, rfl, ?_⟩
              obtain ⟨j, hj, hset⟩ := set3 (x := e7.x) (y := e7.y) (w := wd) (z := z) (t := e7.dt)
              refine ⟨_, rfl, _, rfl, _, rfl, _, _, rfl, rfl, (by show (0 : Int) < 2; decide), e7.ad, _, _, j, rfl, rfl, S7.ke e7 (fnd_mem he).1, hj, ?_⟩
              rw [hset]
              refine ⟨_, rfl, e7.ad, _, _, 2, rfl, rfl, upd_same, rfl, ?_⟩
              rw [upd_upd]
              have S8 := S7.put he (f := fun e => { e with x := if wd % 2 = 0 then z else e.x, y := if wd % 2 = 0 then e.y else z, dt := true }) fun _ => ⟨rfl, rfl⟩
              exact ⟨_, _, _, H07, c2, _, _, rfl, S8.mono (by omega), core_put (core_ldr hco lk ld) wd z, by unfold putE; rw [setE_len]; have q := (hrg ld).2; omega, hcl⟩
            · refine ⟨_, rfl, _, rfl, _, rfl, _, _, rfl, rfl, ⟨by decide, by decide⟩, ?_⟩
              dsimp only [tNil]
              refine S4.kept (by omega) hw2 (by omega) fun ks5 e5 H05 H5 lk he S5 => ?_
              refine ⟨_, rfl, p, dx, _, rfl, S5.ca.ob, no (by decide +kernel) (by decide +kernel) (by decide +kernel), _, rfl, H05, p, m, v, d, dx, c2, es, _, rfl, S5.ca, w0, hw2, by omega, fun es6 e6 H6 ld he6 I6 f6 => ?_⟩
              have S6 := S5.cache I6 f6 (hrg ld).1
              have hc6 := core_ldr hco lk ld
              have ec6 : core e5 = core e6 := by
                have q := core_find hc6 (wd / 2)
                rw [he, he6] at q
                exact Option.some.inj q
              have e1 : e6.x = e5.x := (congrArg (fun c => c.2.1) ec6).symm
              have e2 : e6.y = e5.y := (congrArg (fun c => c.2.2.1) ec6).symm
              refine ⟨_, rfl, _, rfl, _, _, rfl, rfl, (by show (0 : Int) < 2; decide), e5.ad, _, _, _, rfl, rfl, SqL.of (S6.ke e5 (fnd_mem he).1), at3, rfl, _, rfl, ?_⟩
              refine iteNS (by rw [e1, e2]) ?_
              exact ⟨_, _, _, H05, c2, es6, ks5, rfl, S6.mono (by omega), hc6, by have q := (hrg ld).2; omega, hcl⟩
          · rintro σ H5 ⟨v12, v13, v14, H0, c3, es, ks, rfl, S5, hco, hle, hcl⟩
            refine ⟨_, rfl, rfl, _, rfl, iteNS rfl ?_⟩
            refine ⟨_, rfl, _, rfl, dInts c3, dInts c3, dp_ints (SqL.of S5.ca.mm), dp_ints (SqL.of S5.ml), shaped_ints _, shaped_ints _, false, by rw [eqv_ints]; rfl, iteF ?_⟩
            refine ⟨_, rfl, p, dx, _, rfl, S5.ca.ob, H0, p, m, v, d, dx, c3, es, rfl, S5.ca, fun ps ts q H6 h1 h2 s6 q0 hq hP => ?_⟩
            have S6 := S5.same s6
            have hkk : (vK ks).map (·.1) = (ks.map (·.ln)).map Sum.inl := by unfold vK; rw [List.map_map, List.map_map]; rfl
            refine ⟨_, rfl, k6, vK ks, ks.map (·.ln), rfl, .inl S6.kv, hkk, by rw [List.length_map]; have q := core_len hco; omega, fun ys yl yp ysrt hyl => ?_⟩
            have S7 := S6.same (put_same (o := .lst (ys.map V.int)) hyl)
            have s7 : Same H6 (upd H6 yl (.lst (ys.map V.int))) := put_same hyl
            have y7 : (upd H6 yl (.lst (ys.map V.int))) yl = some (.lst (ys.map V.int)) := upd_same
            generalize upd H6 yl (.lst (ys.map V.int)) = H7 at S7 s7 y7
            refine ⟨yl, rfl, ⟨_, SqL.of y7⟩, fun D hD => ?_⟩
            have eqp := held_same S5.ca.nd hco h1 h2 yp ysrt
            refine lc_list (K := K) (a := yl) (xs := ys.map V.int) (fun i H8 => ∃ tt : List Addr, H8 D = some (.lst (tt.map V.ref)) ∧ Paired (fun (t : Addr) (q : Int × Bool) => H8 t = some (.tup [.int q.1, .bl q.2])) tt ((ys.take i).map fun y => (y, dtOf ks y)) ∧ Same H7 H8) ⟨[], upd_same, .nil, put_same hD⟩ (fun i H8 _ ⟨_, _, _, s8⟩ => s8.seq (SqL.of y7)) ?_ ?_
            · rintro i8 x H8 hx8 ⟨tt, d8, p8, s8⟩
              have hil : i8 < ys.length := by
                have q := (List.getElem?_eq_some_iff.mp hx8).1
                rw [List.length_map] at q
                exact q
              have ex : x = V.int ys[i8] := by
                rw [List.getElem?_map, List.getElem?_eq_getElem hil] at hx8
                exact (Option.some.inj hx8).symm
              subst ex
              have hmem : ys[i8] ∈ ks.map (·.ln) := yp.mem_iff.mp (List.getElem_mem hil)
              obtain ⟨e, he, en⟩ := List.mem_map.mp hmem
              have S8 := S7.same s8
              have hf : fnd ks ys[i8] = some e := by rw [← en]; exact fnd_some S8.kn he
              have hdt : dtOf ks ys[i8] = e.dt := by unfold dtOf; rw [hf]
              refine ⟨rfl, iteT (B := ∃ tt : List Addr, H8 D = some (.lst (tt.map V.ref)) ∧ Paired (fun (t : Addr) (q : Int × Bool) => H8 t = some (.tup [.int q.1, .bl q.2])) tt ((ys.take (i8 + 1)).map fun y => (y, dtOf ks y)) ∧ Same H7 H8) ?_⟩
              refine ⟨_, rfl, _, rfl, _, rfl, k6, _, rfl, get_v S8.kv hf, e.ad, _, _, V.bl e.dt, rfl, rfl, SqL.of (S8.ke e he), rfl, (by show 2 ≤ sizeLine; decide), fun t ht => ?_⟩
              have Dt : D ≠ t := ne_of_none d8 ht
              have hlt : tt.length = (ys.take i8).length := by
                have q := Paired.length p8
                rw [List.length_map] at q
                exact q
              have hyl' : ys.length < 64 := by
                have q1 := yp.length_eq
                rw [List.length_map] at q1
                have q2 := core_len hco
                omega
              refine ⟨tt.map V.ref, by rw [upd_ne Dt]; exact d8, ?_, tt ++ [t], ?_, ?_, fun c o ec => ?_⟩
              · rw [List.length_map, hlt, List.length_take]
                exact small1000 (by omega)
              · rw [upd_same, List.map_append]; rfl
              · rw [List.take_succ_eq_append_getElem hil, List.map_append]
                have nD : ∀ {x o}, H8 x = some o → x ≠ D → (upd (upd H8 t (.tup [.int ys[i8], .bl e.dt])) D (.lst (tt.map V.ref ++ [V.ref t]))) x = some o := fun hx hD => by rw [upd_ne hD, upd_ne (ne_of_none hx ht)]; exact hx
                refine paired_snoc ?_ (L2.Paired.mapP p8 fun x q hx => nD hx (ne_of hx d8 (by intro z; cases z)))
                show (upd (upd H8 t _) D _) t = some (.tup [.int ys[i8], .bl (dtOf ks ys[i8])])
                rw [upd_ne Dt.symm, upd_same, hdt]
              · have cD : c ≠ D := fun z => by rw [z, hD] at ec; cases ec
                rw [upd_ne cD, upd_ne (ne_of_none (s8 c o ec) ht)]
                exact s8 c o ec
            · rintro H8 ⟨tt, d8, p8, s8⟩
              have ey : ys.take (ys.map V.int).length = ys := by rw [List.length_map, List.take_length]
              rw [ey, ← eqp] at p8
              refine ⟨D, _, rfl, .inl ⟨SqL.of d8, fun tl htl => ?_⟩⟩
              have S9 := (S7.same s8).same (put_same (o := .tup (tt.map V.ref)) htl)
              have kp : ∀ {x o}, H6 x = some o → (upd H8 tl (.tup (tt.map V.ref))) x = some o := fun hx => put_same htl _ _ (s8 _ _ (s7 _ _ hx))
              refine ⟨.tuple (ps.map dPair), .tuple (ps.map dPair), .tup (SqT.of (kp hq)) (dp_pairs (L2.Paired.mapP hP fun x q hx => kp hx)), .tup (SqT.of upd_same) (dp_pairs (L2.Paired.mapP p8 fun x q hx => put_same htl _ _ hx)), shaped_pairs _, shaped_pairs _, false, by rw [eqv_self (shaped_pairs _)]; rfl, iteF ?_⟩
              exact ⟨_, _, _, _, _, _, _, H0, c3, es, ks, rfl, S9, hco, hle, hcl⟩
        · rintro σ H2 ⟨v4, v9, v10, v11, v12, v13, v14, H0, c2, es, ks, rfl, S2, _⟩
          exact ⟨_, _, _, _, _, _, _, _, _, _, _, _, _, _, rfl, S2.hs⟩
    · rintro σ H2 ⟨v1, v2, v3, v4, v5, v6, v7, v8, v9, v10, v11, v12, v13, v14, rfl, s2⟩
      exact k H2
end
end Ln
namespace Ln
open PySem L2
/-! ### what the top has written, the head -/
theorem all_mk {lw : PySem.W.OpenLaw} {w : World} {K : PySem.W.Frag} {h : Heap} {mg : Str → Option Value} {fa C CR pp f1 f3 f4 f5 f2 f9 f10 f11 f12 f13 : Addr} {rest : List Value} {tL : Tok} (X : K.In h) (G : h.Ns mainGlobals mg) (hfa : mg "law" = some (.ref fa))
    {od1 an1 od3 an3 od4 an4 od5 an5 od2 an2 od9 an9 od10 an10 od11 an11 od12 an12 od13 an13 : Option Addr} {sl1 sl3 sl4 sl5 sl2 sl9 sl10 sl11 sl12 sl13 : Array (Option Value)} {oc1 kV1 dc1 pm1 cd1 ct1 oc3 kV3 dc3 pm3 cd3 ct3 oc4 kV4 dc4 pm4 cd4 ct4 oc5 kV5 dc5 pm5 cd5 ct5 oc2 kV2 dc2 pm2 cd2 ct2 oc9 kV9 dc9 pm9 cd9 ct9 oc10 kV10 dc10 pm10 cd10 ct10 oc11 kV11 dc11 pm11 cd11 ct11 oc12 kV12 dc12 pm12 cd12 ct12 oc13 kV13 dc13 pm13 cd13 ct13 : Value}
    (aC : PySem.W.nsIn K mainGlobals "Lines" = some (some (.ref C)))
    (aR : PySem.W.nsIn K mainGlobals "Run" = some (some (.ref CR)))
    (a1 : PySem.W.findIn K (.ref C) "__init__" = some (some (.ref f1)))
    (i1 : PySem.W.isFn K (.ref f1) = true)
    (a3 : PySem.W.findIn K (.ref C) "read" = some (some (.ref f3)))
    (i3 : PySem.W.isFn K (.ref f3) = true)
    (a4 : PySem.W.findIn K (.ref C) "write" = some (some (.ref f4)))
    (i4 : PySem.W.isFn K (.ref f4) = true)
    (a5 : PySem.W.findIn K (.ref C) "load" = some (some (.ref f5)))
    (i5 : PySem.W.isFn K (.ref f5) = true)
    (p1 : PySem.W.findIn K (.ref C) "held" = some (some (.ref pp)))
    (p2 : PySem.W.specialIn K (.ref pp) "__get__" = some (some (.builtin "property.__get__")))
    (p3 : PySem.W.takesIn K (.ref pp) = some true)
    (p4 : PySem.W.recIn K pp "property" = some (.ref f2 :: rest))
    (a9 : PySem.W.nsIn K mainGlobals "_law_bag" = some (some (.ref f9)))
    (a10 : PySem.W.nsIn K mainGlobals "_law_take" = some (some (.ref f10)))
    (a11 : PySem.W.nsIn K mainGlobals "_law_value" = some (some (.ref f11)))
    (a12 : PySem.W.nsIn K mainGlobals "_law_kept" = some (some (.ref f12)))
    (a13 : PySem.W.nsIn K mainGlobals "law" = some (some (.ref f13)))
    (l1 : K.lookup f1 = some ⟨oc1, od1, .func (PySem.W.fnOf "__init__" "Lines.__init__" (defArgs sInit) (defBody sInit) (defScope sInit) .none kV1 dc1 pm1 an1 cd1 ct1), sl1⟩)
    (c1 : PySem.W.codeIn K cd1 "Lines.__init__" = true)
    (k1 : PySem.W.keepIn K (.ref f1) = true)
    (l3 : K.lookup f3 = some ⟨oc3, od3, .func (PySem.W.fnOf "read" "Lines.read" (defArgs sRead) (defBody sRead) (defScope sRead) .none kV3 dc3 pm3 an3 cd3 ct3), sl3⟩)
    (c3 : PySem.W.codeIn K cd3 "Lines.read" = true)
    (k3 : PySem.W.keepIn K (.ref f3) = true)
    (l4 : K.lookup f4 = some ⟨oc4, od4, .func (PySem.W.fnOf "write" "Lines.write" (defArgs sWrite) (defBody sWrite) (defScope sWrite) .none kV4 dc4 pm4 an4 cd4 ct4), sl4⟩)
    (c4 : PySem.W.codeIn K cd4 "Lines.write" = true)
    (k4 : PySem.W.keepIn K (.ref f4) = true)
    (l5 : K.lookup f5 = some ⟨oc5, od5, .func (PySem.W.fnOf "load" "Lines.load" (defArgs sLoad) (defBody sLoad) (defScope sLoad) .none kV5 dc5 pm5 an5 cd5 ct5), sl5⟩)
    (c5 : PySem.W.codeIn K cd5 "Lines.load" = true)
    (k5 : PySem.W.keepIn K (.ref f5) = true)
    (l2 : K.lookup f2 = some ⟨oc2, od2, .func (PySem.W.fnOf "held" "Lines.held" (defArgs sHeld) (defBody sHeld) (defScope sHeld) .none kV2 dc2 pm2 an2 cd2 ct2), sl2⟩)
    (c2 : PySem.W.codeIn K cd2 "Lines.held" = true)
    (k2 : PySem.W.keepIn K (.ref f2) = true)
    (l9 : K.lookup f9 = some ⟨oc9, od9, .func (PySem.W.fnOf "_law_bag" "_law_bag" (defArgs sBag) (defBody sBag) (defScope sBag) .none kV9 dc9 pm9 an9 cd9 ct9), sl9⟩)
    (c9 : PySem.W.codeIn K cd9 "_law_bag" = true)
    (k9 : PySem.W.keepIn K (.ref f9) = true)
    (l10 : K.lookup f10 = some ⟨oc10, od10, .func (PySem.W.fnOf "_law_take" "_law_take" (defArgs sTake) (defBody sTake) (defScope sTake) .none kV10 dc10 pm10 an10 cd10 ct10), sl10⟩)
    (c10 : PySem.W.codeIn K cd10 "_law_take" = true)
    (k10 : PySem.W.keepIn K (.ref f10) = true)
    (l11 : K.lookup f11 = some ⟨oc11, od11, .func (PySem.W.fnOf "_law_value" "_law_value" (defArgs sValue) (defBody sValue) (defScope sValue) .none kV11 dc11 pm11 an11 cd11 ct11), sl11⟩)
    (c11 : PySem.W.codeIn K cd11 "_law_value" = true)
    (k11 : PySem.W.keepIn K (.ref f11) = true)
    (l12 : K.lookup f12 = some ⟨oc12, od12, .func (PySem.W.fnOf "_law_kept" "_law_kept" (defArgs sKept) (defBody sKept) (defScope sKept) .none kV12 dc12 pm12 an12 cd12 ct12), sl12⟩)
    (c12 : PySem.W.codeIn K cd12 "_law_kept" = true)
    (k12 : PySem.W.keepIn K (.ref f12) = true)
    (l13 : K.lookup f13 = some ⟨oc13, od13, .func (PySem.W.fnOf "law" "law" (defArgs sLaw) (defBody sLaw) (defScope sLaw) .none kV13 dc13 pm13 an13 cd13 ct13), sl13⟩)
    (c13 : PySem.W.codeIn K cd13 "law" = true)
    (k13 : PySem.W.keepIn K (.ref f13) = true)
    (pg : PySem.W.plainGet K C Str.empty = true)
    (hd : PySem.W.hasDictIn K C = true)
    (po : PySem.W.plainOver K C = true)
    (sa : PySem.W.findIn K (.ref C) "__setattr__" = some (some (.builtin "object.__setattr__")))
    (mk : PySem.W.makesIn K C = true)
    (kc : PySem.W.keepIn K (.ref C) = true)
    (nM : PySem.W.findIn K (.ref C) "_memory" = some none)
    (nV : PySem.W.findIn K (.ref C) "_values" = some none)
    (nD : PySem.W.findIn K (.ref C) "_dirty" = some none)
    (r1 : PySem.W.readsIn K CR (.type "type") = true)
    (r2 : PySem.W.specialIn K (.ref CR) "__getattribute__" = some (some (.builtin "type.__getattribute__")))
    (r3 : PySem.W.findCls K (.ref CR) (.type "type") "LINE" = some (.val (.int 2 tL)))
    (z_len : PySem.W.nsIn K mainGlobals "len" = some none)
    (z_abs : PySem.W.nsIn K mainGlobals "abs" = some none)
    (z_range : PySem.W.nsIn K mainGlobals "range" = some none)
    (z_min : PySem.W.nsIn K mainGlobals "min" = some none)
    (z_max : PySem.W.nsIn K mainGlobals "max" = some none)
    (z_list : PySem.W.nsIn K mainGlobals "list" = some none)
    (z_dict : PySem.W.nsIn K mainGlobals "dict" = some none)
    (z_tuple : PySem.W.nsIn K mainGlobals "tuple" = some none)
    (z_sorted : PySem.W.nsIn K mainGlobals "sorted" = some none) :
    ∃ fd : FuncData, (∀ (s : Shared) (v : Value), BindsTo s fd ⟨[v], []⟩ [("_law_script", v)]) ∧ ∀ base : Heap, K.In base → base.Ns mainGlobals mg → FnOk lw.prog w K mg base CX0 3 fa fd ["_law_script"] (spLaw K) := by
  have e := hfa.symm.trans (PySem.W.mg_of X G a13)
  cases e
  have T : TL K mg C CR (.type "type") (.int 2 tL) := ⟨⟨pg, hd, po, sa⟩, nM, nV, nD, PySem.W.mg_of X G aC, PySem.W.mg_of X G aR, ⟨r1, r2⟩, PySem.W.mg_none_of X G z_tuple, PySem.W.mg_none_of X G z_sorted, ⟨r3, ⟨_, rfl⟩⟩⟩
  have B : TB mg := ⟨PySem.W.mg_none_of X G z_len, PySem.W.mg_none_of X G z_abs, PySem.W.mg_none_of X G z_range, PySem.W.mg_none_of X G z_min, PySem.W.mg_none_of X G z_max, PySem.W.mg_none_of X G z_list, PySem.W.mg_none_of X G z_dict, PySem.W.mg_none_of X G z_tuple, PySem.W.mg_none_of X G z_sorted⟩
  have F1 := fun_mk (st := sInit) l1 c1 k1
  have b1 := F1.binds (ps := ["self", "words"]) fun _ _ _ _ _ _ us hl => match us, hl with | [_, _], _ => rfl
  have F3 := fun_mk (st := sRead) l3 c3 k3
  have b3 := F3.binds (ps := ["self", "word"]) fun _ _ _ _ _ _ us hl => match us, hl with | [_, _], _ => rfl
  have F4 := fun_mk (st := sWrite) l4 c4 k4
  have b4 := F4.binds (ps := ["self", "word", "value"]) fun _ _ _ _ _ _ us hl => match us, hl with | [_, _, _], _ => rfl
  have F5 := fun_mk (st := sLoad) l5 c5 k5
  have b5 := F5.binds (ps := ["self", "line"]) fun _ _ _ _ _ _ us hl => match us, hl with | [_, _], _ => rfl
  have F2 := fun_mk (st := sHeld) l2 c2 k2
  have b2 := F2.binds (ps := ["self"]) fun _ _ _ _ _ _ us hl => match us, hl with | [_], _ => rfl
  have F9 := fun_mk (st := sBag) l9 c9 k9
  have b9 := F9.binds (ps := ["_law_script", "_law_at"]) fun _ _ _ _ _ _ us hl => match us, hl with | [_, _], _ => rfl
  have F10 := fun_mk (st := sTake) l10 c10 k10
  have b10 := F10.binds (ps := ["_law_bag_here", "_law_many"]) fun _ _ _ _ _ _ us hl => match us, hl with | [_, _], _ => rfl
  have F11 := fun_mk (st := sValue) l11 c11 k11
  have b11 := F11.binds (ps := ["_law_bag_here"]) fun _ _ _ _ _ _ us hl => match us, hl with | [_], _ => rfl
  have F12 := fun_mk (st := sKept) l12 c12 k12
  have b12 := F12.binds (ps := ["_law_kept_here", "_law_cells", "_law_line"]) fun _ _ _ _ _ _ us hl => match us, hl with | [_, _, _], _ => rfl
  have F13 := fun_mk (st := sLaw) l13 c13 k13
  have D9 : Def K mg "_law_bag" f9 _ ["_law_script", "_law_at"] := ⟨PySem.W.mg_of X G a9, k9, b9⟩
  have D10 : Def K mg "_law_take" f10 _ ["_law_bag_here", "_law_many"] := ⟨PySem.W.mg_of X G a10, k10, b10⟩
  have D11 : Def K mg "_law_value" f11 _ ["_law_bag_here"] := ⟨PySem.W.mg_of X G a11, k11, b11⟩
  have D12 : Def K mg "_law_kept" f12 _ ["_law_kept_here", "_law_cells", "_law_line"] := ⟨PySem.W.mg_of X G a12, k12, b12⟩
  refine ⟨PySem.W.fnOf "law" "law" (defArgs sLaw) (defBody sLaw) (defScope sLaw) .none kV13 dc13 pm13 an13 cd13 ct13, fun s v => .of_eq rfl, fun base _ _ => ?_⟩
  have GL : FnOk lw.prog w K mg base CX0 1 f5 _ ["self", "line"] (spLoad C) := ok_load F5 T
  have ML : Mth lw.prog w K mg base C 1 "load" ["self", "line"] (spLoad C) f5 _ := ⟨GL, b5, ⟨a5, i5, k5⟩⟩
  have MR : Mth lw.prog w K mg base C 2 "read" ["self", "word"] (spRead C) f3 _ := ⟨ok_read F3 T GL b5 ML.at_, b3, ⟨a3, i3, k3⟩⟩
  have MW : Mth lw.prog w K mg base C 2 "write" ["self", "word", "value"] (spWrite C) f4 _ := ⟨ok_write F4 T GL b5 ML.at_, b4, ⟨a4, i4, k4⟩⟩
  have HD : Hd lw.prog w K mg base C pp f2 _ := ⟨ok_held F2 T, b2, ⟨p1, p2, p3, ⟨_, p4⟩⟩⟩
  exact ok_law F13 T B (ok_bag F9 B) D9 (ok_take F10) D10 (ok_value F11 F10 D10.at_ D10.kp D10.bd) D11 (ok_kept F12) D12 ⟨mk, a1, i1, kc⟩ (ok_init F1 T) b1 MR MW ML HD
theorem walk {l : PySem.W.OpenLaw} {q : Program} {loose : List Str} {XP : (Str → Option Value) → Heap → Prop} {YP : World → Heap → Prop} {d : DefRec} {K : Params → PySem.W.Frag} (hn : l.most = some 63) (hdf : d.params.defaults = [])
    (hY : ∀ (w : World) (h : Heap), YP w h → (K w.params).In h)
    (F : ∀ (w : World) (mg : Str → Option Value) (fa : Addr) (h : Heap), (K w.params).In h → h.Ns mainGlobals mg → mg d.name = some (.ref fa) →
      ∃ fd : FuncData, (∀ (s : Shared) (u : Value), BindsTo s fd ⟨[u], []⟩ [("_law_script", u)]) ∧ ∀ base : Heap, (K w.params).In base → base.Ns mainGlobals mg → FnOk l.prog w (K w.params) mg base CX0 3 fa fd ["_law_script"] (spLaw (K w.params))) :
    PySem.W.WalkO q loose XP YP l.row.toRowW d [] (fun f vs => PySem.call f vs) :=
  L2.walk_of (n := 63) (k := 3) (x := "_law_script") (CX := fun _ => CX0) (sp := fun w => spLaw (K w.params)) hn (by decide) hdf ⟨rfl, by decide, by decide⟩ hY F (fun _ _ a ns hl _ hS => ⟨a, ns, rfl, hS, hl, fun _ => rfl⟩) fun _ _ _ _ _ z => z
end Ln

open PySem PySem.W PyProof.Rows
set_option maxRecDepth 100000 in
set_option maxHeartbeats 0 in
theorem PySem.Challenge.cw_devicewindows_k06_lines_read_and_written_holds : PySem.Challenge.rw_devicewindows_k06_lines_read_and_written.Holds := by
  w_on; o_law; k_head; (case hw => w_witness2)
  k_fill
  refine Ln.walk (l := PySem.Challenge.rw_devicewindows_k06_lines_read_and_written) rfl rfl (fun w h Y => PySem.W.kIn_of Y) ?F
  case F =>
    intro w mg fa h KX G hmg
    refine' Ln.all_mk KX G hmg ?aC ?aR ?a1 ?i1 ?a3 ?i3 ?a4 ?i4 ?a5 ?i5 ?p1 ?p2 ?p3 ?p4 ?a9 ?a10 ?a11 ?a12 ?a13 ?l1 ?c1 ?k1 ?l3 ?c3 ?k3 ?l4 ?c4 ?k4 ?l5 ?c5 ?k5 ?l2 ?c2 ?k2 ?l9 ?c9 ?k9 ?l10 ?c10 ?k10 ?l11 ?c11 ?k11 ?l12 ?c12 ?k12 ?l13 ?c13 ?k13 ?pg ?hd ?po ?sa ?mk ?kc ?nM ?nV ?nD ?r1 ?r2 ?r3 ?z_len ?z_abs ?z_range ?z_min ?z_max ?z_list ?z_dict ?z_tuple ?z_sorted
    (case aC => k_is)
    (case aR => k_is)
    (case a1 => k_is)
    (case i1 => k_is)
    (case a3 => k_is)
    (case i3 => k_is)
    (case a4 => k_is)
    (case i4 => k_is)
    (case a5 => k_is)
    (case i5 => k_is)
    (case p1 => k_is)
    (case p2 => k_is)
    (case p3 => k_is)
    (case p4 => k_is)
    (case a9 => k_is)
    (case a10 => k_is)
    (case a11 => k_is)
    (case a12 => k_is)
    (case a13 => k_is)
    (case l1 => k_is)
    (case c1 => k_is)
    (case k1 => k_is)
    (case l3 => k_is)
    (case c3 => k_is)
    (case k3 => k_is)
    (case l4 => k_is)
    (case c4 => k_is)
    (case k4 => k_is)
    (case l5 => k_is)
    (case c5 => k_is)
    (case k5 => k_is)
    (case l2 => k_is)
    (case c2 => k_is)
    (case k2 => k_is)
    (case l9 => k_is)
    (case c9 => k_is)
    (case k9 => k_is)
    (case l10 => k_is)
    (case c10 => k_is)
    (case k10 => k_is)
    (case l11 => k_is)
    (case c11 => k_is)
    (case k11 => k_is)
    (case l12 => k_is)
    (case c12 => k_is)
    (case k12 => k_is)
    (case l13 => k_is)
    (case c13 => k_is)
    (case k13 => k_is)
    (case pg => k_is)
    (case hd => k_is)
    (case po => k_is)
    (case sa => k_is)
    (case mk => k_is)
    (case kc => k_is)
    (case nM => k_is)
    (case nV => k_is)
    (case nD => k_is)
    (case r1 => k_is)
    (case r2 => k_is)
    (case r3 => k_is)
    (case z_len => k_is)
    (case z_abs => k_is)
    (case z_range => k_is)
    (case z_min => k_is)
    (case z_max => k_is)
    (case z_list => k_is)
    (case z_dict => k_is)
    (case z_tuple => k_is)
    (case z_sorted => k_is)
