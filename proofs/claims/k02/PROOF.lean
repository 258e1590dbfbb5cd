import PyProof.Rows.All
import Wide.All
import OpenK.AllK
import Wide.FinOn
import HandS.ForMost
import HandS.Wide
import HandS.ClsMeth
import HandS.Property
import HandS.ListItems
import HandS.SortOrd
import HandS.SortRule
import HandS.More
import HandS.Conv
import HandS.Codes
import HandS.Style
import HandS.IsInst
import HandS.OwnEq
import HandS.GenBody
import HandS.GenYield
import HandS.GenCall
import HandS.GenList
import PyProof.GenComp
import PyProof.ReprNest
import PyProof.ReprHeadsEmpty
import PyProof.StrHeap
import HandS.Ends
import HandS.Lambda
import PyProof.ListRange
import HandS.FStr
import HandS.Defaults
import PySem.Challenge.RW_devicewindows_k02_runs_compared
set_option Elab.async false
set_option linter.all false
set_option maxRecDepth 100000
set_option maxHeartbeats 4000000
/-! Two rules of one's own: storing to a slice of a list; sorting the items of a dict with int keys and bool values. -/
namespace Ln
open PySem PySem.Spec PyProof.Rows L2
/-! ### xs[a:c] = ys -/
/-- the target's reading: the list at l, its bounds, the other list at b -/
def gSlice (to tl th : TE) : TG := fun v σ H Q => to σ H fun x H1 => tl σ H1 fun y H2 => th σ H2 fun z H3 =>
  ∃ (l b : Addr) (xs ys : List V) (a c : Int), x = .ref l ∧ v = .ref b ∧ y = .int a ∧ z = .int c ∧ H3 l = some (.lst xs) ∧ H3 b = some (.lst ys) ∧ l ≠ b ∧ 0 ≤ a ∧ a ≤ c ∧ c ≤ xs.length ∧ xs.length + ys.length ≤ sizeLine ∧
    Q σ (upd H3 l (.lst (xs.take a.toNat ++ ys ++ xs.drop c.toNat)))
section
variable {X : Cx} {pos : Pos}
theorem pg_slice {o lo hi : Expr} {p2 : Pos} {to tl th : TE} (ho : PE X o to) (hl : PE X lo tl) (hh : PE X hi th)
    (ha : ∀ v, assign (.Subscript o (.Slice (some lo) (some hi) none p2) pos) X.env v = (do
      let ov ← holding [v] (eval o X.env)
      let iv ← holding [v, ov] (eval (.Slice (some lo) (some hi) none p2) X.env)
      standAt pos
      holding [v, ov, iv] (setItem ov iv v)
      release [iv, v, ov] []) := by intro _; rfl) : PG X (.Subscript o (.Slice (some lo) (some hi) none p2) pos) (gSlice to tl th) := by
  refine ⟨fun pins s σ H v u Q I r h => ?_⟩
  rw [ha]
  refine wpAny_bind (wpAny_holding (thn (ho.run pins s σ H _ I h) fun ov s1 ⟨x, H1, I1, r1, q1⟩ => ?_))
  refine wpAny_bind (wpAny_holding (wpAny_Slice ?_))
  rw [evalPart_some, evalPart_some]
  refine thn (hl.run pins s1 σ H1 _ I1 q1) fun vl s2 ⟨y, H2, I2, r2, q2⟩ => ?_
  refine thn (hh.run pins s2 σ H2 _ I2 q2) fun vu s3 ⟨z, H3, I3, r3, q3⟩ => ?_
  rw [evalPart_none]
  refine wpAny_pure ?_
  obtain ⟨l, b, xs, ys, a, c, rfl, rfl, rfl, rfl, e1, e2, ne, h0, hac, hc, hz, q⟩ := q3
  obtain rfl : ov = Value.ref l := r1
  obtain rfl : u = Value.ref b := r
  have I4 : Inv X pins σ H3 { s3 with heap := s3.heap.push { cls := .type "slice", data := .fields #[vl, vu, .none] } } := I3.kept (t' := s3.toks) fun b ob q => Heap.get?_push_of_some _ q
  refine wpAny_bind (wpAny_standAt (wpAny_bind (wpAny_holding (set_slice I4 e1 e2 ne (Heap.IsSliceOf.new ..) r2 r3 h0 hac hc hz fun s' I' => ?_))))
  exact wpAny_release ⟨σ, _, I', q⟩
end
/-! ### sorted(d.items()): int keys, bool values -/
abbrev ltK (k : Value → Int) (v u : Value) : Bool := decide (k v < k u)
theorem swo_K (k : Value → Int) : SrtO.Swo (ltK k) := by
  refine ⟨fun x y h => ?_, fun x y z h1 h2 => ?_⟩
  · have a : k x < k y := of_decide_eq_true h
    exact decide_eq_false (by omega)
  · have a : ¬ k y < k x := of_decide_eq_false h1
    have b : ¬ k z < k y := of_decide_eq_false h2
    exact decide_eq_false (by omega)
end Ln
namespace Ln
open PySem PySem.Spec PyProof.Rows L2
/-- a view of the items of the dict at d -/
def ViewO (v d : Addr) : HO := .ext fun h => h.get? v = some { cls := .type "dict_items", data := .fields #[.ref d] }
def rItems : V → List V → Hp → VK → Prop := fun x xs H Q => ∃ (d : Addr) (kvs : List (Key × V)), x = .ref d ∧ xs = [] ∧ H d = some (.dK kvs) ∧ ∀ v, H v = none → Q (.ref v) (upd H v (ViewO v d))
section
variable {X : Cx}
theorem mt_items : MtR X "dict.items" rItems := by
  intro pins s σ H x vs v us Q I rx rv h
  obtain ⟨d, kvs, rfl, rfl, hd, q⟩ := h
  cases rx
  have hus := rv.zero
  subst hus
  obtain ⟨hz, hs0, vs, kv, hdo⟩ := I.hok d _ hd
  refine call_meetsIn F.slot_dict_items hdo.typeIs F.entry_dict_items (F.args_dict_items_1 _) (meets_dict_items (mixKind X.prog X.w) d hs0) ⟨⟨vs, hdo⟩, ?_⟩
  refine ⟨.ref s.heap.objs.size, _, I.laid (a := s.heap.objs.size) (t' := s.toks) (fun b ob q => Heap.get?_push_of_some _ q) (Nat.le_refl _) ?_, rfl, q _ (I.hok.fresh (Nat.le_refl _))⟩
  exact ⟨Heap.get?_push_size _ rfl, ⟨_, Heap.get?_push_size _ rfl⟩, fun h1 h2 e k => k _ e⟩
end
/-! pairs of an int and a bool -/
def IsPB (h : Heap) (v : Value) (x : Int) (b : Bool) : Prop := ∃ a o t n, v = .ref a ∧ h.get? a = some o ∧ o.cls = .type "tuple" ∧ o.data = .seq #[.int x t, .bool b] n
theorem IsPB.keeps {h h' : Heap} {v : Value} {x : Int} {b : Bool} (p : IsPB h v x b) (k : ∀ b o, h.get? b = some o → o.cls = .type "tuple" → h'.get? b = some o) : IsPB h' v x b := by
  obtain ⟨a, o, t, n, e, ho, hc, hd⟩ := p
  exact ⟨a, o, t, n, e, k _ _ ho hc, hc, hd⟩
theorem firsts_pb {h : Heap} : ∀ {vs : List Value}, (∀ v ∈ vs, ∃ x y, IsPB h v x y) → ∃ fs : List Value, PySem.W.KatTups h vs fs ∧ fs.length = vs.length ∧ ∀ f ∈ fs, ∃ x t, f = Value.int x t
  | [], _ => ⟨[], PySem.W.KatTups.nil, rfl, fun _ hm => by simp at hm⟩
  | v :: vs, hp => by
    obtain ⟨fs, h1, h2, h3⟩ := firsts_pb (vs := vs) fun v' hm => hp v' (List.mem_cons_of_mem _ hm)
    obtain ⟨x, y, a, o, t, n, e, ho, hc, hd⟩ := hp v (List.mem_cons_self ..)
    subst e
    refine ⟨.int x t :: fs, PySem.W.KatTups.cons ho hc hd rfl h1, by rw [List.length_cons, List.length_cons, h2], fun f hm => ?_⟩
    rcases List.mem_cons.mp hm with rfl | hm
    · exact ⟨x, t, rfl⟩
    · exact h3 f hm
section
variable {prog : Program} {w : World} {A : Around} {s : Shared}
open SrtO in
theorem pb_cmp {vs : List Value} {k : Value → Int} {g : Value → Bool} (hp : ∀ v ∈ vs, IsPB s.heap v (k v) (g v)) (hu : ∀ v ∈ vs, ∀ u ∈ vs, k v = k u → g v = g u) : Cmp prog w A s (tuples' true) (fun p => p.1 ∈ vs) (lt2 (ltK k)) := by
  intro p q hm hm'
  have h1 := hp _ hm
  have h2 := hp _ hm'
  have hg := hu _ hm _ hm'
  show wpAny (model prog w) A (keyLt' (tuples' true) p.1 q.1) (fun r s' => s' = s ∧ r = decide (k p.1 < k q.1)) (fun _ _ => False) s
  generalize k p.1 = x at h1 hg ⊢
  generalize g p.1 = y at h1 hg ⊢
  generalize k q.1 = x' at h2 hg ⊢
  generalize g q.1 = y' at h2 hg ⊢
  obtain ⟨a, o, t, n, e, ho, hc, hd⟩ := h1
  obtain ⟨a', o', t', n', e', ho', hc', hd'⟩ := h2
  rw [e, e']
  refine PySem.W.kat_lt ho hd ho' hd' ?_
  show PySem.W.KatLex prog w A true (decide (2 < 2)) _ [(.int x t, .int x' t'), (.bool y, .bool y')] 0 s
  refine PySem.W.kat_cons (SeqAt.EqAt.int_int x t x' t' prog w _ _ ?_)
  refine PySem.W.kat_go (fun e1 => ?_) (fun e1 => ?_)
  · have ex : x = x' := by simpa using e1
    have ey : y = y' := hg ex
    refine PySem.W.kat_yes (PySem.W.kat_cons (SeqAt.EqAt.bool_bool y y' prog w _ _ ?_))
    refine PySem.W.kat_go (fun e2 => ?_) (fun e2 => ?_)
    · have e3 : decide (x < x') = false := decide_eq_false (by omega)
      exact PySem.W.kat_yes (PySem.W.kat_nil ⟨rfl, e3.symm⟩)
    · rw [ey] at e2
      simp at e2
  · exact PySem.W.kat_no (oneLt_int ⟨rfl, rfl⟩)
open SrtO in
theorem pb_sortable {a : Addr} {vs : List Value} {k : Value → Int} {g : Value → Bool} (h0 : 0 < vs.length) (hp : ∀ v ∈ vs, IsPB s.heap v (k v) (g v)) (hu : ∀ v ∈ vs, ∀ u ∈ vs, k v = k u → g v = g u)
    (ha : ∀ o, s.heap.get? a = some o → o.cls ≠ .type "tuple") : SortableO prog w A s a vs (ltK k) := by
  intro h' keep
  have hp' : ∀ v ∈ vs, IsPB h' v (k v) (g v) := fun v hm => (hp v hm).keeps fun b o e c => keep b o (fun z => by subst z; exact ha o e c) e
  obtain ⟨fs, h1, h2, h3⟩ := firsts_pb fun v hm => ⟨_, _, hp' v hm⟩
  refine ⟨tuples' true, fun Q E hq => ?_, pb_cmp hp' hu⟩
  refine PySem.W.kat_kind (T := .type "int") h1 (by omega) (fun f hm => ?_) (by rfl) ?_
  · obtain ⟨x, t, rfl⟩ := h3 f hm
    exact PySem.W.Looks.now
  · have e : (Value.type "int" != Value.type "tuple") = true := by first | decide +kernel | rfl | decide
    rw [e]
    exact hq
end
/-! the list of the pairs, laid with the tuples -/
section
variable {X : Cx}
theorem pairs_laid {pins : List (Addr × Obj)} {σ : L2.St} {H : Hp} {s : Shared} {h' : Heap} {tk : Nat} {kvs : List (Key × V)} {vs : List (Key × Value)} {as : List Addr} {L : Addr} {ys : List V} {out : List Value} {c : Nat} (I : Inv X pins σ H s) (kv : KV kvs vs)
    (hk : ∀ b o, s.heap.get? b = some o → h'.get? b = some o) (newS : H L = none) (hLb : ∀ b o, s.heap.get? b = some o → b ≠ L) (hLa : L ∉ as) (hS : h'.get? L = some { cls := .type "list", dict := none, data := .seq out.toArray c, slots := #[] }) (hy : Vals ys out) (hyz : ys.length ≤ sizeLine)
    (hl : as.length = vs.length) (hG : PySem.W.KdxG (mixKind X.prog X.w) vs s.heap.objs.size h' as) :
    ∃ H' : Hp, (∀ b o, H b = some o → H' b = some o) ∧ H L = none ∧ (∀ t ∈ as, H t = none) ∧ H' L = some (.lst ys) ∧ Paired (fun (t : Addr) (q : Key × V) => H' t = some (.tup [kV q.1, q.2])) as kvs ∧ Inv X pins σ H' { s with heap := h', toks := tk } := by
  have lk : kvs.length = vs.length := Paired.length kv
  have nd : as.Nodup := List.Pairwise.imp (fun {a b} (h : a < b) => Nat.ne_of_lt h) hG.rise
  have new : ∀ t ∈ as, H t = none := fun t ht => I.hok.fresh (Nat.le_of_lt (hG.above t ht))
  have atP := LiI.putT_at as kvs (upd H L (.lst ys)) (by omega) nd
  have off : ∀ b, b ∉ as → b ≠ L → LiI.putT (upd H L (.lst ys)) as kvs b = H b := fun b h1 h2 => by rw [LiI.putT_off as kvs _ h1, upd_ne h2]
  have low : ∀ b o, s.heap.get? b = some o → b ∉ as ∧ b ≠ L := fun b o e => ⟨fun z => absurd (Heap.lt_size e) (Nat.not_lt.mpr (Nat.le_of_lt (hG.above b z))), hLb b o e⟩
  have kp : ∀ b u, H b = some u → (LiI.putT (upd H L (.lst ys)) as kvs) b = some u := fun b u e => by
    rw [off b (fun z => by rw [new b z] at e; cases e) (fun z => by rw [z, newS] at e; cases e)]
    exact e
  have eS : LiI.putT (upd H L (.lst ys)) as kvs L = some (.lst ys) := by rw [LiI.putT_off as kvs _ hLa, upd_same]
  refine ⟨LiI.putT (upd H L (.lst ys)) as kvs, kp, newS, new, eS, atP, ?_⟩
  refine I.call' (ch := []) rfl ⟨fun b o q _ _ _ => hk b o q, fun b o q _ _ _ => ⟨o.slots, hk b o q⟩, fun b o q n _ => ?_, fun b o q _ => ⟨o, hk b o q⟩, fun b xs q => kp b _ q, fun b o u q => kp b _ q, fun b ps q => ⟨#[], by rw [kp b _ q]; simp⟩⟩ (fun b u q => ?_) I.bare fun b z => by simp at z
  · obtain ⟨z1, z2⟩ := low b o q
    rw [off b z1 z2]
    exact n
  · by_cases hb : b ∈ as
    · obtain ⟨j, pk, e1, e2, e3⟩ := LiI.paired_ix atP hb
      rw [e3] at q
      cases q
      obtain ⟨key, k, x, f1, f2, f3⟩ := hG.pairs j b e1
      obtain ⟨qv, g1, g2, g3⟩ := LiI.paired_get kv e2
      rw [f1] at g1
      cases g1
      have rk : RelV (kV pk.1) key := by
        rw [g2]
        exact relV_key (show keyIs k key = true from f2)
      exact ⟨by show 2 ≤ sizeLine; decide, [key, x], .cons rk (.cons g3 .nil), ⟨_, f3, rfl, _, rfl⟩⟩
    · by_cases hb2 : b = L
      · rw [hb2] at q ⊢
        rw [eS] at q
        cases q
        exact ⟨hyz, out, c, hy, hS⟩
      · rw [off b hb hb2] at q
        exact (I.hok b u q).stay (fun d v _ y => hk d v y) (fun d y => kp d _ y) fun d xs y => kp d _ y
end
/-- the int and the bool of a pair, read off the heap -/
def kOf (h : Heap) : Value → Int
  | .ref a => match h.get? a with
    | some o => match o.data with
      | .seq its _ => match (its[0]? : Option Value) with
        | some (Value.int x _) => x
        | _ => 0
      | _ => 0
    | none => 0
  | _ => 0
def gOf (h : Heap) : Value → Bool
  | .ref a => match h.get? a with
    | some o => match o.data with
      | .seq its _ => match (its[1]? : Option Value) with
        | some (Value.bool x) => x
        | _ => false
      | _ => false
    | none => false
  | _ => false
theorem pb_reads {h : Heap} {v : Value} {x : Int} {b : Bool} (p : IsPB h v x b) : kOf h v = x ∧ gOf h v = b := by
  obtain ⟨a, o, t, n, rfl, ho, hc, hd⟩ := p
  unfold kOf gOf
  simp only [ho, hd]
  exact ⟨rfl, rfl⟩

def kvB (ks : List (Int × Bool)) : List (Key × V) := ks.map fun p => (Sum.inl p.1, V.bl p.2)
def rSortedI : List V → Hp → VK → Prop := fun vs H Q => ∃ (v d : Addr) (ks : List (Int × Bool)), vs = [V.ref v] ∧ H v = some (ViewO v d) ∧ H d = some (.dK (kvB ks)) ∧ (ks.map (·.1)).Nodup ∧
  ∀ (H' : Hp) (p : Addr) (ts : List Addr) (ks' : List (Int × Bool)), (∀ b o, H b = some o → H' b = some o) → H p = none → (∀ t ∈ ts, H t = none) → H' p = some (.lst (ts.map V.ref)) → ks'.Perm ks → ks'.Pairwise (fun a b => a.1 < b.1) →
    Paired (fun (t : Addr) (q : Int × Bool) => H' t = some (.tup [.int q.1, .bl q.2])) ts ks' → Q (.ref p) H'
theorem paired_map {α β γ : Type} {F : α → β → Prop} (f : γ → α) (g : γ → β) : ∀ {l : List γ}, (∀ x ∈ l, F (f x) (g x)) → Paired F (l.map f) (l.map g)
  | [], _ => .nil
  | x :: l, h => .cons (h x List.mem_cons_self) (paired_map f g fun y hy => h y (List.mem_cons_of_mem _ hy))
def unRef : Value → Addr
  | .ref a => a
  | _ => 0
section
variable {X : Cx}
theorem cr_sortedItems (hcalm : X.calm = true) : CallR X (.builtin "sorted") rSortedI := by
  intro pins s σ H xs us Q I r q
  obtain ⟨v, d, ks, rfl, hv, hd, hnd, q⟩ := q
  obtain ⟨u, rfl, ru⟩ := vals1 r
  obtain rfl : u = Value.ref v := ru
  have hview := (I.hok v _ hv).1
  obtain ⟨hz, hs0, vs, kv, hdo⟩ := I.hok d _ hd
  obtain ⟨ep, hat⟩ := hdo.dictAt
  have lk : (kvB ks).length = vs.length := Paired.length kv
  have lks : (kvB ks).length = ks.length := by unfold kvB; rw [List.length_map]
  refine Calls.call_function_entry PyProof.Rows.kind_sorted PyProof.Rows.plain_sorted PyProof.Rows.entry_sorted (PyProof.Rows.args_sorted1 _) ?_
  unfold Builtin.«sorted»
  refine wpAny_bind (m := checkCount "sorted" 1 1 _) (wpAny_pure ?_)
  refine wpAny_bind (PySem.W.kdx_collect (A := X.A.in1) (knd := mixKind X.prog X.w) (kvs := vs) (ep := ep) (I.ok.hd hcalm) ⟨_, hview, rfl, rfl⟩ hat (by omega) fun h' tk as hk hl hG => ?_)
  have hlen : (as.map Value.ref).length ≤ sizeLine := by rw [List.length_map]; omega
  refine wpAny_bind (wpAny_newList ?_ hlen)
  -- the pairs
  have hp : ∀ (j : Nat) (a : Addr), as[j]? = some a → ∃ p, ks[j]? = some p ∧ IsPB h' (.ref a) p.1 p.2 := fun j a hj => by
    obtain ⟨key, kk, x, e1, e2, e3⟩ := hG.pairs j a hj
    have hjl : j < as.length := (List.getElem?_eq_some_iff.mp hj).1
    have hjk : j < ks.length := by omega
    have e4 : (kvB ks)[j]? = some (Sum.inl (ks[j]).1, V.bl (ks[j]).2) := by
      unfold kvB
      rw [List.getElem?_map, List.getElem?_eq_getElem hjk] <;> rfl
    obtain ⟨qv, g1, g2, g3⟩ := LiI.paired_get kv e4
    rw [e1] at g1
    cases g1
    have rk : RelV (kV (Sum.inl (ks[j]).1)) key := by
      have z : kk = Sum.inl (ks[j]).1 := g2.symm
      rw [← z]
      exact relV_key (show keyIs kk key = true from e2)
    obtain ⟨t, rfl⟩ := rk
    obtain rfl : x = Value.bool (ks[j]).2 := g3
    exact ⟨ks[j], List.getElem?_eq_getElem hjk, a, _, t, _, rfl, e3, rfl, rfl⟩
  have hIs : ∀ v ∈ as.map Value.ref, IsPB h' v (kOf h' v) (gOf h' v) := fun v hm => by
    obtain ⟨a, ha, rfl⟩ := List.mem_map.mp hm
    obtain ⟨j, hj⟩ := List.mem_iff_getElem?.mp ha
    obtain ⟨p, _, hpb⟩ := hp j a hj
    obtain ⟨e1, e2⟩ := pb_reads hpb
    rw [e1, e2]
    exact hpb
  have hmap : (as.map Value.ref).map (fun v => (kOf h' v, gOf h' v)) = ks := by
    apply List.ext_getElem?
    intro j
    rw [List.map_map, List.getElem?_map]
    cases e : as[j]? with
    | none =>
      have : as.length ≤ j := List.getElem?_eq_none_iff.mp e
      rw [List.getElem?_eq_none (by omega)]
      rfl
    | some a =>
      obtain ⟨p, e1, hpb⟩ := hp j a e
      obtain ⟨e2, e3⟩ := pb_reads hpb
      rw [e1]
      show some (kOf h' (.ref a), gOf h' (.ref a)) = some p
      rw [e2, e3]
  have hu : ∀ v ∈ as.map Value.ref, ∀ u ∈ as.map Value.ref, kOf h' v = kOf h' u → gOf h' v = gOf h' u := fun v hm u hn e => by
    obtain ⟨i, hi⟩ := List.mem_iff_getElem?.mp hm
    obtain ⟨j, hj⟩ := List.mem_iff_getElem?.mp hn
    have e1 : ks[i]? = some (kOf h' v, gOf h' v) := by rw [← hmap, List.getElem?_map, hi]; rfl
    have e2 : ks[j]? = some (kOf h' u, gOf h' u) := by rw [← hmap, List.getElem?_map, hj]; rfl
    have f1 : (ks.map (·.1))[i]? = some (kOf h' v) := by rw [List.getElem?_map, e1]; rfl
    have f2 : (ks.map (·.1))[j]? = some (kOf h' v) := by rw [List.getElem?_map, e2, e]; rfl
    have ij : i = j := nd_ix hnd f1 f2
    subst ij
    rw [e1] at e2
    exact (Prod.mk.inj (Option.some.inj e2)).2
  have I1 : Inv X pins σ H { s with heap := h', toks := tk } := I.kept hk
  have hoL : (h'.push (seqObj "list" (as.map Value.ref).toArray 0)).get? h'.objs.size = some (seqObj "list" (as.map Value.ref).toArray 0) := Heap.get?_push_size _ rfl
  show wpAny _ _ _ _ _ { s with heap := h'.push (seqObj "list" (as.map Value.ref).toArray 0), toks := tk }
  refine wpAny_bind (wpAny_holding (wpAny_call_entry PyProof.Rows.slot_list_sort ⟨_, hoL, rfl⟩ PyProof.Rows.entry_list_sort
    (SrtO.list_sort_ord (swo_K (kOf h')) hoL hlen (fun h2 => ?_) fun out hs hb => ⟨_, rfl, ?_⟩) (PyProof.Rows.args_list_sort _)))
  · refine pb_sortable (g := gOf h') (by omega) (fun v hm => (hIs v hm).keeps fun b o e _ => Heap.get?_push_of_some _ e) hu fun o e => ?_
    rw [hoL] at e
    cases e
    intro c
    exact absurd (Value.type.inj c) (by decide)
  · have hout : ∀ x ∈ out, ∃ a ∈ as, x = Value.ref a := fun x hx => by
      obtain ⟨a, ha, e⟩ := List.mem_map.mp (hb.perm.mem_iff.mp hx)
      exact ⟨a, ha, e.symm⟩
    have eout : out = (out.map unRef).map Value.ref := by
      rw [List.map_map]
      conv => lhs; rw [← List.map_id out]
      refine List.map_congr_left fun x hx => ?_
      obtain ⟨a, _, rfl⟩ := hout x hx
      rfl
    obtain ⟨e', he'⟩ := PyProof.Rows.sortedHeap_at (vs := as.map Value.ref) (out := out.toArray) hoL
    have hkk : ∀ b o, h'.get? b = some o → (sortedHeap (h'.push (seqObj "list" (as.map Value.ref).toArray 0)) h'.objs.size (as.map Value.ref) out.toArray).get? b = some o := fun b u e => by
      have hb : b < h'.objs.size := Heap.lt_size e
      rw [PyProof.Rows.sortedHeap_old (Nat.ne_of_lt hb) (by rw [size_push']; exact Nat.lt_succ_of_lt hb)]
      exact Heap.get?_push_of_some _ e
    have hLa : h'.objs.size ∉ as := fun z => Nat.lt_irrefl _ (hG.there z)
    have hG3 : PySem.W.KdxG (mixKind X.prog X.w) vs s.heap.objs.size (sortedHeap (h'.push (seqObj "list" (as.map Value.ref).toArray 0)) h'.objs.size (as.map Value.ref) out.toArray) as := ⟨hG.rise, hG.above, fun j a hj => by
      obtain ⟨key, kk, x, e1, e2, e3⟩ := hG.pairs j a hj
      exact ⟨key, kk, x, e1, e2, hkk _ _ e3⟩⟩
    have hyv : Vals ((out.map unRef).map V.ref) out := by
      have z : Vals ((out.map unRef).map V.ref) ((out.map unRef).map Value.ref) := LiI.vals_refs _
      rw [← eout] at z
      exact z
    have hyz : ((out.map unRef).map V.ref).length ≤ sizeLine := by
      rw [List.length_map, List.length_map, hb.perm.length_eq]
      exact hlen
    obtain ⟨H', k1, k2, k3, k4, k5, J⟩ := pairs_laid (tk := tk) I kv (fun b o e => hkk b o (hk b o e)) (I1.hok.fresh (Nat.le_refl _)) (fun b o e => Nat.ne_of_lt (Heap.lt_size (hk b o e))) hLa he' hyv hyz hl hG3
    have kper : (out.map fun v => (kOf h' v, gOf h' v)).Perm ks := by
      have z := hb.perm.map fun v => (kOf h' v, gOf h' v)
      rw [hmap] at z
      exact z
    refine wpAny_pure ⟨_, rfl, .ref h'.objs.size, H', J, rfl, q H' _ (out.map unRef) (out.map fun v => (kOf h' v, gOf h' v)) k1 k2 (fun t ht => ?_) k4 kper ?_ ?_⟩
    · obtain ⟨x, hx, rfl⟩ := List.mem_map.mp ht
      obtain ⟨a, ha, rfl⟩ := hout x hx
      exact k3 a ha
    · have nd2 : ((out.map fun v => (kOf h' v, gOf h' v)).map (·.1)).Nodup := (kper.map (·.1)).nodup_iff.mpr hnd
      have nd3 : out.Pairwise fun v u => kOf h' v ≠ kOf h' u := by
        rw [List.map_map] at nd2
        exact List.pairwise_map.mp nd2
      refine List.pairwise_map.mpr ?_
      have hs' : out.Pairwise fun x y => ltK (kOf h') y x = false := hs
      refine List.Pairwise.imp (fun {a b} (h : ltK (kOf h') b a = false ∧ kOf h' a ≠ kOf h' b) => ?_) (List.pairwise_and_iff.mpr ⟨hs', nd3⟩)
      have h1 : ¬ kOf h' b < kOf h' a := of_decide_eq_false h.1
      have h2 := h.2
      show kOf h' a < kOf h' b
      omega
    · refine paired_map unRef (fun v => (kOf h' v, gOf h' v)) fun x hx => ?_
      obtain ⟨a, ha, rfl⟩ := hout x hx
      obtain ⟨j, hj⟩ := List.mem_iff_getElem?.mp ha
      obtain ⟨qv, g1, g2⟩ := LiI.paired_get k5 hj
      obtain ⟨p, e1, hpb⟩ := hp j a hj
      obtain ⟨e2, e3⟩ := pb_reads hpb
      have g3 : (kvB ks)[j]? = some (Sum.inl p.1, V.bl p.2) := by
        unfold kvB
        rw [List.getElem?_map, e1] <;> rfl
      rw [g3] at g1
      cases g1
      show H' a = some (.tup [.int (kOf h' (.ref a)), .bl (gOf h' (.ref a))])
      rw [e2, e3]
      exact g2
end
end Ln
/-! Rules of one's own: a class called by a local name, static methods, operators of own classes. -/
namespace Ow
open PySem PySem.Spec PyProof.Rows L2
/-- an own def called at some around -/
theorem run_own {X : Cx} {CX : CXT} {k : Nat} {f : Addr} {fd : FuncData} {ps : List Str} {sp : Sp} {E : XK} {A : Around} {pins : List (Addr × Obj)} {σ : L2.St} {H : Hp} {s : Shared} {Q : VK} {us : List Value} {vs : List V}
    (F : FnOk X.prog X.w X.K X.mg X.base CX k f fd ps sp) (hr : Room k A) (e0 : Env0 X.prog X.w X.K X.mg X.base A X.stack s H) (hb : Binds X.K fd ps []) (hx : Passes CX X E) (I : Inv X pins σ H s) (r : Vals vs us) (h : sp vs H Q E) :
    wpAny (model X.prog X.w) A (call (.ref f) us) (EP X pins σ Q) X.xe s := by
  have hl : us.length = ps.length := by rw [← r.length]; exact F.len _ _ _ _ h
  refine wpAny_call (codeAny_mono (F.run A X.stack s H ⟨us, []⟩ us vs Q E hr e0 (by
    have z := hb s us I.kIn (by simpa using hl)
    simpa using z) r h) fun q s' hq => ?_)
  cases q with
  | error e => exact hx pins σ H s e s' I hq
  | ok fl =>
    cases fl with
    | ret w => exact I.after hq
    | next => exact False.elim hq
    | brk => exact False.elim hq
    | cont => exact False.elim hq
section
variable {X : Cx} {CX : CXT} {k i : Nat} {f C p g : Addr} {mc : Value} {fd : FuncData} {ps : List Str} {sp : Sp} {dvs : List V} {ds : List Value} {E : XK} {x m : Str} {px pos apos : Pos} {o e : Expr} {es : List Expr} {ta : TE} {t : TA} {pl : Sem Bool}
/-- x(e, ..), the i-th slot holds the class at C -/
def tMakeL (i : Nat) (C : Addr) (sp : Sp) (dvs : List V) (E : XK) (t : TA) : TE := fun σ H Q => σ[i]? = some (some (.ref C)) ∧ tMake C sp dvs E t σ H Q
theorem pe_makeL (M : Mk X.K C f) (F : FnOk X.prog X.w X.K X.mg X.base CX k f fd ps sp) (hr : Room (k + 1) X.A) (hN : X.N[i]? = some x) (hv : Vis X.env.scope x) (hb : Binds X.K fd ps ds) (hd : Vals dvs ds) (hx : Passes CX X E)
    (ha : PA X (e :: es) t) (hdb : (x == ("__debug__" : Str)) = false := by decide) (hcd : (x == ("__classdict__" : Str)) = false := by decide) (he : starEach (e :: es) X.env = (false, eval e X.env) :: starEach es X.env := by rfl) (hpl : (backTo pos (starEach es X.env)).any (·.1) = false := by rfl) :
    PE X (.Call (.Name x px) (e :: es) [] pos) (tMakeL i C sp dvs E t) := by
  refine ⟨fun pins s σ H Q I h => ?_⟩
  obtain ⟨hs, ht⟩ := h
  refine wpAny_Call_Name_kw (thn ((pe_var (pos := px) hN hv hdb hcd).run pins s σ H (fun v H1 => v = .ref C ∧ H1 = H) I ⟨.ref C, hs, rfl, rfl⟩) fun u s1 ⟨v, H1, I1, r1, q1⟩ => ?_)
  obtain ⟨rfl, rfl⟩ := q1
  cases r1
  refine PySem.W.callWith_K (h₀ := X.base) I1.ok.mod.kin M.kp (thn (ha.run pos pins s1 σ _ _ I1 ht) fun us s2 ⟨vs, H2, I2, r, q⟩ => ⟨I2.kIn, ?_⟩) he hpl
  exact run_make M F hr hb hd hx I2 r q
/-- C.m is a static method: its record at p, its def at g -/
structure SMet (K : PySem.W.Frag) (C : Addr) (mc : Value) (m : Str) (p g : Addr) : Prop where
  at_ : PySem.W.findCls K (.ref C) mc m = some (.get (.builtin "staticmethod.__get__") (.ref p) .none (.ref C))
  rc : ∃ rest, PySem.W.recIn K p "staticmethod" = some (.ref g :: rest)
  kp : PySem.W.keepIn K (.ref g) = true
def tSMeth (C : Addr) (sp : Sp) (dvs : List V) (E : XK) (ta : TE) (t : TA) : TE := fun σ H Q => ta σ H fun x H1 => x = .ref C ∧ t σ H1 fun vs H2 => sp (vs ++ dvs) H2 Q E
theorem pe_smeth (he : PE X o ta) (r : ClX.CRead X.K C mc) (c : SMet X.K C mc m p g) (F : FnOk X.prog X.w X.K X.mg X.base CX k g fd ps sp) (hr : Room k X.A) (hb : Binds X.K fd ps ds) (hd : Vals dvs ds) (hx : Passes CX X E) (ha : PA X (e :: es) t)
    (hst : starEach (e :: es) X.env = (false, eval e X.env) :: starEach es X.env := by rfl) (hpl : (backTo pos (starEach es X.env)).any (·.1) = false := by rfl)
    (ht : eval (.Call (.Attribute o m apos) (e :: es) [] pos) X.env = (do
      let ov ← eval o X.env
      standAt apos.atName
      let (f, first) ← holding [ov] (getMethod ov m pl)
      callWith pos f first (backTo pos (starEach (e :: es) X.env)) (backToKw pos (keywordEach [] X.env))) := by rfl) :
    PE X (.Call (.Attribute o m apos) (e :: es) [] pos) (tSMeth C sp dvs E ta t) := by
  refine ⟨fun pins s σ H Q I h => ?_⟩
  refine PySem.W.methodCall_KW (pl := pl) (thn (he.run pins s σ H _ I h) fun u s1 ⟨x, H1, I1, rx, ex, q⟩ => ?_) ht
  subst ex
  obtain rfl : u = Value.ref C := rx
  obtain ⟨rest, hp⟩ := c.rc
  refine PySem.W.method_cls I1.kIn r.ga (PySem.W.cls_bind I1.kIn r.rd c.at_ (wpAny_call (PySem.W.sm_get (s := { s1 with toks := s1.toks + 1 }) I1.kIn hp (PySem.W.handed_on rfl ?_))))
  have I2 := I1.tok (s1.toks + 1)
  refine PySem.W.callWith_K (h₀ := X.base) I2.ok.mod.kin c.kp (thn (ha.run pos pins _ σ H1 _ I2 q) fun us s2 ⟨vs, H2, I3, r, q2⟩ => ⟨I3.kIn, ?_⟩) hst hpl
  exact run_fn F hr hb hd hx I3 r q2
end
/-! ### operators of an own class -/
section
variable {X : Cx} {CX : CXT} {k : Nat} {C f : Addr} {fd : FuncData} {ps : List Str} {sp : Sp} {E : XK}
/-- a op b, both instances of C, C has the method -/
def rBin (C : Addr) (sp : Sp) (E : XK) : R2 := fun x y H Q => ∃ a b dx dy fs gs, x = .ref a ∧ y = .ref b ∧ H a = some (.ins C dx fs) ∧ H b = some (.ins C dy gs) ∧ sp [.ref a, .ref b] H (fun v H' => (∀ c, v ≠ .ty c) ∧ Q v H') E
/-- len(o) -/
def rLenO (C : Addr) (sp : Sp) (E : XK) : List V → Hp → VK → Prop := fun xs H Q => ∃ a dx fs, xs = [.ref a] ∧ H a = some (.ins C dx fs) ∧ sp [.ref a] H (fun v H' => ∃ n : Int, v = .int n ∧ 0 ≤ n ∧ n < 2 ^ 63 ∧ Q (.int n) H') E
theorem call_lenO (F : FnOk X.prog X.w X.K X.mg X.base CX k f fd ps sp) (hr : Room (k + 1) X.A) (hs : PySem.W.findIn X.K (.ref C) "__len__" = some (some (.ref f))) (hf : PySem.W.isFn X.K (.ref f) = true) (hb : Binds X.K fd ps []) (hx : Passes CX X E) :
    CallR X (.builtin "len") (rLenO C sp E) := by
  intro pins s σ H xs us Q I r h
  obtain ⟨a, dx, fs, rfl, ha, q⟩ := h
  obtain ⟨u, rfl, ru⟩ := vals1 r
  obtain rfl : u = Value.ref a := ru
  obtain ⟨mA, J, _⟩ := ins_get I.hok ha
  obtain ⟨od, J, _⟩ := J.look
  obtain ⟨m, hF⟩ := I.fr
  refine PySem.W.len_K hF I.ok.mod.kin J hs hf (wpAny_mono (run_own F hr.in1 I.env0.in1 hb hx I (vs := [.ref a]) (.cons (show RelV (.ref a) (.ref a) from rfl) .nil) q) (fun v s' hq => ?_) fun _ _ z => z)
  obtain ⟨w, H', I', rw', n, rfl, n0, n1, q'⟩ := hq
  obtain ⟨t, rfl⟩ := rw'
  exact ⟨⟨n0, n1⟩, .int n, H', I'.tok _, ⟨_, rfl⟩, q'⟩
/-- x in o -/
def rInO (C : Addr) (sp : Sp) (E : XK) : R2 := fun x y H Q => ∃ a dx fs, y = .ref a ∧ H a = some (.ins C dx fs) ∧ sp [.ref a, x] H (fun v H' => ∃ b, v = .bl b ∧ Q (.bl b) H') E
theorem op_inO (F : FnOk X.prog X.w X.K X.mg X.base CX k f fd ps sp) (hr : Room k X.A) (hs : PySem.W.findIn X.K (.ref C) "__contains__" = some (some (.ref f))) (hf : PySem.W.isFn X.K (.ref f) = true) (hb : Binds X.K fd ps []) (hx : Passes CX X E) :
    OpR X (compareOp .In) (rInO C sp E) := by
  intro pins s σ H x y v u Q I rx ry h
  obtain ⟨a, dx, fs, rfl, ha, q⟩ := h
  obtain rfl : u = Value.ref a := ry
  obtain ⟨mA, J, _⟩ := ins_get I.hok ha
  obtain ⟨od, J, _⟩ := J.look
  obtain ⟨m, hF⟩ := I.fr
  refine PySem.W.in_K hF I.ok.mod.kin J hs hf (wpAny_mono (run_own F hr I.env0 hb hx I (vs := [.ref a, x]) (.cons (show RelV (.ref a) (.ref a) from rfl) (.cons rx .nil)) q) (fun v s' hq => ?_) fun _ _ z => z)
  obtain ⟨w, H', I', rw', b, rfl, q'⟩ := hq
  cases rw'
  exact wpAny_truthy_bool ⟨.bl b, H', I', rfl, q'⟩
/-- a op b of two instances of C by C's own method -/
theorem op_bin {op : Operator} (F : FnOk X.prog X.w X.K X.mg X.base CX k f fd ps sp) (hr : Room k X.A) (hc : PySem.W.selfFirst X.K C = true) (hs : PySem.W.findIn X.K (.ref C) (PySem.dunder op.info.2) = some (some (.ref f))) (hf : PySem.W.isFn X.K (.ref f) = true) (hb : Binds X.K fd ps []) (hx : Passes CX X E) :
    OpR X (binaryOp op) (rBin C sp E) := by
  intro pins s σ H x y v u Q I rx ry h
  obtain ⟨a, b, dx, dy, fs, gs, rfl, rfl, ha, hb', q⟩ := h
  obtain rfl : v = Value.ref a := rx
  obtain rfl : u = Value.ref b := ry
  obtain ⟨mA, J, _⟩ := ins_get I.hok ha
  obtain ⟨mB, J', _⟩ := ins_get I.hok hb'
  obtain ⟨od, J, _⟩ := J.look
  obtain ⟨od', J', _⟩ := J'.look
  obtain ⟨m, hF⟩ := I.fr
  refine PySem.W.binop_K hF I.ok.mod.kin J J'.type hc hs hf (wpAny_mono (run_own F hr I.env0 hb hx I (vs := [.ref a, .ref b]) (.cons (show RelV (.ref a) (.ref a) from rfl) (.cons (show RelV (.ref b) (.ref b) from rfl) .nil)) q) (fun w s' hq => ?_) fun _ _ z => z)
  obtain ⟨z, H', I', rw', nt, q'⟩ := hq
  cases z with
  | ty c => exact absurd rfl (nt c)
  | non => cases rw'; exact ⟨.non, H', I', rfl, q'⟩
  | bl c => cases rw'; exact ⟨.bl c, H', I', rfl, q'⟩
  | int n => obtain ⟨t, rfl⟩ := rw'; exact ⟨.int n, H', I', ⟨t, rfl⟩, q'⟩
  | str n => obtain ⟨t, rfl⟩ := rw'; exact ⟨.str n, H', I', ⟨t, rfl⟩, q'⟩
  | byt n => obtain ⟨t, rfl⟩ := rw'; exact ⟨.byt n, H', I', ⟨t, rfl⟩, q'⟩
  | flt n => obtain ⟨t, rfl⟩ := rw'; exact ⟨.flt n, H', I', ⟨t, rfl⟩, q'⟩
  | ref c => cases rw'; exact ⟨.ref c, H', I', rfl, q'⟩
/-- a == y, a an instance of C with its own __eq__, y of a type that does not go first -/
def rEqO (K : PySem.W.Frag) (C : Addr) (sp : Sp) (E : XK) : R2 := fun x y H Q => ∃ a dx fs t, x = .ref a ∧ H a = some (.ins C dx fs) ∧ TyX K H y t ∧ PySem.W.notFirst K C t = true ∧ sp [.ref a, y] H (fun v H' => ∃ b, v = .bl b ∧ Q (.bl b) H') E
theorem op_eqO (F : FnOk X.prog X.w X.K X.mg X.base CX k f fd ps sp) (hr : Room k X.A) (hs : PySem.W.findIn X.K (.ref C) "__eq__" = some (some (.ref f))) (hf : PySem.W.isFn X.K (.ref f) = true) (hb : Binds X.K fd ps []) (hx : Passes CX X E) :
    OpR X (compareOp .Eq) (rEqO X.K C sp E) := by
  intro pins s σ H x y v u Q I rx ry h
  obtain ⟨a, dx, fs, t, rfl, ha, ty, hn, q⟩ := h
  obtain rfl : v = Value.ref a := rx
  obtain ⟨mA, J, _⟩ := ins_get I.hok ha
  obtain ⟨od, J, _⟩ := J.look
  obtain ⟨m, hF⟩ := I.fr
  obtain ⟨P, kx, hP, _⟩ := kit_of I ry ty
  show wpAny _ _ (richCompare .Eq (.ref a) u) _ _ _
  refine PySem.W.cmp_K (op := .Eq) (tb := t) hr.units0 hF I.ok.mod.kin J (kx.ty _ _ I.kIn hP) hn hs hf (wpAny_mono (run_own F hr I.env0 hb hx I (vs := [.ref a, y]) (.cons (show RelV (.ref a) (.ref a) from rfl) (.cons ry .nil)) q) (fun w s' hq => ?_) fun _ _ z => z)
  obtain ⟨z, H', I', rw', b, rfl, q'⟩ := hq
  cases rw'
  exact ⟨.bl b, H', I', rfl, q'⟩
end
end Ow
/-! A for in a generator's body. -/
namespace Gf
open PySem PySem.Spec PyProof.Rows L2
section
variable {M : Model} {A : Around} {R : GenEnd} {Y : Protocol} {n : Nat} {s₀ : Shared} {c : Code} {fs : List Frame} {s : Shared} {env : Env} {K : Flow → Sem PySem.Fin} {H : Value → Sem PySem.Fin} {gd : Bool → Bool} {lv : List Value → List Value}
theorem seg_For {tg iter : Expr} {body : List Stmt} {pos : Pos} (hs : ∀ x, foldedSetIterable iter env x = pure x)
    (h : wpAny M (A.over c fs) (eval iter env) (fun v s1 => wpAny M (A.over c fs) (pyIter v) (fun itv s2 => ∀ p, Seg M A R Y n s₀ (.forLoop tg itv body [] env) (M.den (.forLoop tg itv body [] env))
      (.ret (fun r => ((match r with | .ok f => (.pure f : Sem Flow) | .error e => .raise e).onRaise (cameBack env)).wrap K H gd lv) none (gd false) (lv []) c p [] :: fs) s2) (fun x s' => Seg M A R Y n s₀ c (H x) fs s') s1) (fun x s' => Seg M A R Y n s₀ c (H x) fs s') s) :
    Seg M A R Y n s₀ c ((exec (.For tg iter body [] pos) env).wrap K H gd lv) fs s := by
  show Seg M A R Y n s₀ c ((standAt pos >>= fun _ => eval iter env >>= fun a => foldedSetIterable iter env a >>= fun x => standAt iter.pos >>= fun _ => holding [x] (pyIter x) >>= fun it => runOwn (.forLoop tg it body [] env) env).wrap K H gd lv) fs s
  refine seg_bind_wrap (wpAny_standAt (seg_bind_wrap (wpAny_mono h (fun v s1 h1 => ?_) fun _ _ z => z)))
  rw [hs]
  refine seg_bind_wrap (wpAny_pure (seg_bind_wrap (wpAny_standAt (seg_bind_wrap (wpAny_holding (wpAny_mono h1 (fun it s2 h2 => ?_) fun _ _ z => z))))))
  exact seg_call h2
end
section
variable {prog : Program} {w : World} {A : Around} {R : GenEnd} {Y : Protocol} {n : Nat} {s₀ : Shared} {fs : List Frame} {s : Shared} {env : Env}
abbrev noted (env : Env) (x : Value) : Sem PySem.Fin := (do noteFrame x env; theTreesLotGoes x : Sem Unit).wrap (fun _ => .raise x) .raise id id
theorem seg_forLoop {tg : Expr} {it : Value} {body : List Stmt}
    (h : wpAny (model prog w) (A.over (.forLoop tg it body [] env) fs) (pyNext it) (fun r s1 => match r with
        | none => Seg (model prog w) A R Y n s₀ (.forLoop tg it body [] env) (.pure (.again (.block [] env))) fs s1
        | some v => wpAny (model prog w) (A.over (.forLoop tg it body [] env) fs) (letOwnedTupleGo tg it v) (fun _ s2 => wpAny (model prog w) (A.over (.forLoop tg it body [] env) fs) (assign tg env v) (fun _ s3 =>
            Seg (model prog w) A R Y n s₀ (.forLoop tg it body [] env) ((execs body env).wrap (fun f => match f with
              | .next | .cont => .pure (.again (.forLoop tg it body [] env))
              | .brk => .pure (.done .next)
              | .ret v => .pure (.done (.ret v))) (noted env) id id) fs s3)
          (fun x s' => Seg (model prog w) A R Y n s₀ (.forLoop tg it body [] env) (noted env x) fs s') s2) (fun x s' => Seg (model prog w) A R Y n s₀ (.forLoop tg it body [] env) (noted env x) fs s') s1)
      (fun x s' => Seg (model prog w) A R Y n s₀ (.forLoop tg it body [] env) (noted env x) fs s') s) :
    Seg (model prog w) A R Y n s₀ (.forLoop tg it body [] env) ((model prog w).den (.forLoop tg it body [] env)) fs s := by
  have hx : ∀ (x : Value) (s' : Shared), Seg (model prog w) A R Y n s₀ (.forLoop tg it body [] env) (noted env x) fs s' → Seg (model prog w) A R Y n s₀ (.forLoop tg it body [] env) ((do noteFrame x env; theTreesLotGoes x : Sem Unit).bind fun _ => .raise x) fs s' := fun x s' z => by
    rw [Sem.bind_eq_wrap]
    exact z
  show Seg _ A R Y n s₀ _ ((forTurn tg it body [] env).onRaise (fun x => do noteFrame x env; theTreesLotGoes x)) fs s
  unfold forTurn
  rw [Sem.onRaise_eq_wrap]
  refine seg_bind_wrap (wpAny_standAt (seg_bind_wrap (wpAny_onRaise (wpAny_mono h (fun r s1 h1 => ?_) fun x s' z => wpAny_standAt (hx x s' z)))))
  cases r with
  | none => exact h1
  | some v =>
    refine seg_bind_wrap (wpAny_mono h1 (fun _ s2 h2 => ?_) fun x s' z => hx x s' z)
    refine seg_bind_wrap (wpAny_mono h2 (fun _ s3 h3 => ?_) fun x s' z => hx x s' z)
    rw [Sem.bind_eq_wrap', Sem.wrap_wrap]
    rw [Sem.wrap_congr (execs body env) _ _ (K' := fun f => match f with
            | .next | .cont => .pure (.again (.forLoop tg it body [] env))
            | .brk => .pure (.done .next)
            | .ret v => .pure (.done (.ret v))) (H' := noted env)
        (fun f => by cases f <;> rfl)
        (fun e => by first | exact Sem.bind_eq_wrap _ _ | (show (do noteFrame e env; theTreesLotGoes e : Sem Unit).bind (fun _ => .raise e) = _; rw [Sem.bind_eq_wrap]))]
    exact h3
/-- the end: no else -/
theorem seg_blockNil {k : Result → Sem PySem.Fin} {h : Option Value} {g : Bool} {l kp : List Value} {c₁ : Code} {p : Pos} {fs : List Frame} (hk : Seg (model prog w) A R Y n s₀ c₁ (k (.ok .next)) fs s) :
    Seg (model prog w) A R Y n s₀ (.block [] env) ((model prog w).den (.block [] env)) (.ret k h g l c₁ p kp :: fs) s := by
  exact seg_leaf (.ok .next) hk
end
end Gf
namespace Gf
open PySem PySem.Spec PyProof.Rows L2
section
variable {X : Cx}
def tGFor (wi : TI) (g : TG) (tb : TGn) : TGn := fun D ys σ H => wi σ H fun J H1 => ∃ W : Nat → Nat → List V → L2.St → Hp → Prop, (∃ m, W 0 m ys σ H1) ∧ ∀ i m ys σ H, W i m ys σ H →
  (J.stop i H ∧ D.nx ys σ H) ∨ (J.go i H ∧ ∃ N : List V → L2.St → Hp → Prop, (∀ ys' σ' H', N ys' σ' H' → ∃ m', m' < m ∧ W (i + 1) m' ys' σ' H') ∧ ∀ x H', J.yld i H x H' → g x σ H' fun σ2 H2 => tb { D with nx := N, ct := N, bk := D.nx } ys σ2 H2)
theorem gs_for {tg iter : Expr} {body : List Stmt} {wi : TI} {g : TG} {tb : TGn} {pos : Pos} (hp : PassesOwn (model X.prog X.w) X.A X.env X.xe) (hc : X.calm = true) (hi : PI X tg iter wi) (hg : PG X tg g) (hb : GSs X body tb)
    (hs : ∀ x, foldedSetIterable iter X.env x = pure x := by intro _; rfl) : GS X (.For tg iter body [] pos) (tGFor wi g tb) := by
  refine ⟨fun A S ip R n ys s₀ c fs K J gd lv s σ H D gc hn k hI ht => ?_⟩
  obtain ⟨acc0, c0, r0, I0⟩ := hI
  refine seg_For hs ?_
  rw [gc.over]
  refine wpAny_mono (hi.run _ s σ H _ I0 ht) (fun v s1 h1 => wpAny_mono h1 (fun itv s2 h2 => ?_) fun x s' hx => k.exc n s₀ x s' hx) fun x s' hx => k.exc n s₀ x s' hx
  obtain ⟨it, fp, tn, Jt, H2, e, I2, T, st2, f2, W, ⟨m0, w0⟩, turn⟩ := h2
  subst e
  intro p
  have gl := fun (ip' : List (Addr × Obj)) (h : ∀ q ∈ ip', q.1 ≠ S) (kk : Result → Sem PySem.Fin) => gc_loop (k := kk) (c' := .forLoop tg (.ref it) body [] X.env) (l := lv []) (kp := []) (p := p) (⟨gc.pn, h, gc.apart, gc.over, gc.split, gc.guard, gc.gd⟩ : GC X S ip' A c fs gd) rfl rfl
  have fS : ∀ b ∈ fp, b ≠ S := fun b hb z => (f2 b hb).2.2.2.2.2 (S, lstObj acc0 c0) (List.mem_append_right _ List.mem_cons_self) z.symm
  have stat : ∀ {H' : Hp} {acc : Array Value} {cc : Nat}, (∀ b ∈ fp, H' b = none) → ∀ b ∈ fp, FpOk X ((S, lstObj acc cc) :: ip) H' b := fun {H' acc cc} hn' b hb => by
    obtain ⟨_, q1, q2, q3, q4, q5⟩ := f2 b hb
    refine ⟨hn' b hb, q1, q2, q3, q4, fun q hq => ?_⟩
    rcases List.mem_append.mp hq with z | z
    · exact q5 q (List.mem_append_left _ z)
    · rcases List.mem_cons.mp z with z | z
      · rw [z]; exact (fS b hb).symm
      · exact q5 q (List.mem_append_right _ (List.mem_cons_of_mem _ z))
  have ee : ∀ (n : Nat) (s₀ : Shared) (x : Value) (s' : Shared), X.xe x s' → Seg (model X.prog X.w) A R (GY X S) n s₀ (.forLoop tg (.ref it) body [] X.env) (noted X.env x)
      (.ret (fun r => ((match r with | .ok f => (.pure f : Sem Flow) | .error e => .raise e).onRaise (cameBack X.env)).wrap K J gd lv) none (gd false) (lv []) c p [] :: fs) s' := fun n s₀ x s' hx => by
    refine seg_wrap ?_
    rw [(gl ip gc.ip _).over]
    refine wpAny_bind (wpAny_mono (hp x s' hx) (fun _ s'' hcb => wpAny_theTreesLotGoes ?_) fun y s'' hcb => ?_)
    · exact seg_leaf (.error x) (seg_cameBack gc k hcb)
    · exact seg_leaf (.error y) (seg_cameBack gc k hcb)
  have loop : ∀ (m i n : Nat) (ys : List V) (s₀ s : Shared) (σ : L2.St) (H : Hp), n + ys.length = sizeLine → W i m ys σ H → GI X S ip ys σ H s → tn i s.heap → (∀ b ∈ fp, H b = none) →
      Seg (model X.prog X.w) A R (GY X S) n s₀ (.forLoop tg (.ref it) body [] X.env) ((model X.prog X.w).den (.forLoop tg (.ref it) body [] X.env))
        (.ret (fun r => ((match r with | .ok f => (.pure f : Sem Flow) | .error e => .raise e).onRaise (cameBack X.env)).wrap K J gd lv) none (gd false) (lv []) c p [] :: fs) s := by
    intro m
    induction m using Nat.strongRecOn with
    | ind m ih =>
      intro i n ys s₀ s σ H hn w hI st3 fr3
      obtain ⟨acc, cc, r, I3⟩ := hI
      refine seg_forLoop ?_
      rw [(gl ip gc.ip _).over]
      rcases turn i m ys σ H w with ⟨stop, qn⟩ | ⟨go, N, hN, step⟩
      · refine wpAny_mono (T.done X rfl rfl rfl hc i _ s σ H X.xe I3 (stat fr3) st3 stop) (fun r' s4 ⟨hr, I4⟩ => ?_) fun x s' hx => ee n s₀ x s' hx
        subst hr
        exact seg_again rfl (seg_blockNil (k.ok n ys s₀ s4 .next hn ⟨σ, H, ⟨acc, cc, r, I4⟩, qn⟩))
      · refine wpAny_mono (T.item X rfl rfl rfl hc i _ s σ H X.xe I3 (stat fr3) st3 go) (fun r' s4 ⟨u, hr, h4⟩ => ?_) fun x s' hx => ee n s₀ x s' hx
        subst hr
        refine wpAny_mono h4 (fun _ s5 ⟨x, H5, I5, r5, y5, st5, fr5⟩ => ?_) fun x s' hx => ee n s₀ x s' hx
        have I5' := I5.pinned (stat fr5) (T.obj _ _ st5)
        refine wpAny_mono (hg.run _ s5 σ H5 x u _ I5' r5 (step x H5 y5)) (fun _ s6 ⟨σ6, H6, I6, q6⟩ => ?_) fun x s' hx => ee n s₀ x s' hx
        have hip : ∀ q ∈ ip ++ pinsAt fp s5.heap, q.1 ≠ S := fun q hq => by
          rcases List.mem_append.mp hq with z | z
          · exact gc.ip q z
          · exact fS _ (of_pinsAt z).1
        have after : ∀ {σ7 : L2.St} {H7 : Hp} {ys' : List V} {s7 : Shared}, GI X S (ip ++ pinsAt fp s5.heap) ys' σ7 H7 s7 → GI X S ip ys' σ7 H7 s7 ∧ tn (i + 1) s7.heap ∧ ∀ b ∈ fp, H7 b = none := fun {σ7 H7 ys' s7} z => by
          obtain ⟨acc7, c7, r7, I7⟩ := z
          refine ⟨⟨acc7, c7, r7, Inv.unpinned (pins := (S, lstObj acc7 c7) :: ip) (pl := pinsAt fp s5.heap) I7⟩, T.keep _ _ _ st5 fun b hb o e => ?_, fun b hb => ?_⟩
          · exact (I7.pin (b, o) (List.mem_append_right _ (List.mem_cons_of_mem _ (List.mem_append_right _ (mem_pinsAt hb e))))).1
          · obtain ⟨o, e, d⟩ := T.obj _ _ st5 b hb
            exact (I7.pin (b, o) (List.mem_append_right _ (List.mem_cons_of_mem _ (List.mem_append_right _ (mem_pinsAt hb e))))).2.1
        refine hb.run A S (ip ++ pinsAt fp s5.heap) R n ys s₀ _ _ _ _ id id s6 σ6 H6 { D with nx := N, ct := N, bk := D.nx } (gl _ hip _) hn ⟨fun n' ys' s₀' s7 f hn' hs' => ?_, fun n' s₀' x s7 hx => ee n' s₀' x s7 hx⟩ ⟨acc, cc, r, I6⟩ q6
        cases f with
        | next =>
          obtain ⟨σ7, H7, z, n7⟩ := hs'
          obtain ⟨z1, z2, z3⟩ := after z
          obtain ⟨m', hm, w7⟩ := hN ys' σ7 H7 n7
          exact seg_again rfl (ih m' hm (i + 1) n' ys' s₀' s7 σ7 H7 hn' w7 z1 z2 z3)
        | cont =>
          obtain ⟨σ7, H7, z, n7⟩ := hs'
          obtain ⟨z1, z2, z3⟩ := after z
          obtain ⟨m', hm, w7⟩ := hN ys' σ7 H7 n7
          exact seg_again rfl (ih m' hm (i + 1) n' ys' s₀' s7 σ7 H7 hn' w7 z1 z2 z3)
        | brk =>
          obtain ⟨σ7, H7, z, n7⟩ := hs'
          exact seg_leaf (.ok .next) (k.ok n' ys' s₀' s7 .next hn' ⟨σ7, H7, (after z).1, n7⟩)
        | ret v =>
          obtain ⟨x7, σ7, H7, z, r7, q7⟩ := hs'
          exact seg_leaf (.ok (.ret v)) (k.ok n' ys' s₀' s7 (.ret v) hn' ⟨x7, σ7, H7, (after z).1, r7, q7⟩)
  exact loop m0 0 n ys s₀ s2 σ H2 hn w0 ⟨acc0, c0, r0, I2⟩ st2 fun b hb => (f2 b hb).1
end
end Gf
/-! repr of a list of instances with their own __repr__, where no repr is under way. -/
namespace Rp
open PySem PySem.Spec PyProof.Rows L2
section
variable {prog : Program} {w : World} {A : Around} {E : Value → Shared → Prop} {s : Shared} {K : PySem.W.Frag} {x C f : Addr} {ox : Obj} {od : Option Obj}
theorem by_own {M : Model} {name : Str} {last : Value → List Value → Sem Value} {Q : Option Value → Shared → Prop} (X : K.In s.heap) (I : PySem.W.InstAt s.heap x ox C od) (hs : PySem.W.findIn K (.ref C) name = some (some (.ref f))) (hf : PySem.W.isFn K (.ref f) = true)
    (h : wpAny M A (last (.ref f) [.ref x]) (fun v => Q (some v)) E s) : wpAny M A (callSpecialIfBoundBy? last (.ref x) name) Q E s := by
  have lk := PySem.W.looks_findIn (M := M) X hs
  have fin : wpAny M A (last (.ref f) [.ref x] >>= fun v => pure (some v)) Q E s := by
    refine wpAny_bind (wpAny_mono h (fun v s' q => ?_) fun _ _ q => q)
    exact wpAny_pure q
  have bd := (PySem.W.bind_fn (M := M) X (.ref x) (beq_iff_eq.mp hf))
  simp only [callSpecialIfBoundBy?, bindSpecialIfBound?]
  refine wpAny_holding (wpAny_bind (wpAny_bind (wpAny_bind (I.type.here (lk.here ?_)))))
  refine wpAny_bind (wpAny_askSetting (wpAny_ite ?_))
  split
  · exact wpAny_bind (bd.here (wpAny_pure (by exact fin)))
  · exact wpAny_tryCatch (wpAny_bind (bd.here (wpAny_pure (by exact fin))))
theorem under_own {b : Nat} {Q : Str → Shared → Prop} (hb : b ≤ sizeLine) (hu : A.units < cLine) (X : K.In s.heap) (I : PySem.W.InstAt s.heap x ox C od) (hs : PySem.W.findIn K (.ref C) "__repr__" = some (some (.ref f))) (hf : PySem.W.isFn K (.ref f) = true)
    (h : wpAny (model prog w) A (call (.ref f) [.ref x]) (fun v s' => ∃ m u, v = .str m u ∧ Q m s') E s) : wpAny (model prog w) A (pyReprUnder b (.ref x)) Q E s := by
  refine wpAny_pyReprUnder_ref hb ?_
  unfold pyReprObjUnder pyReprObjBy
  refine wpAny_bind (wpAny_cRoomFor hu ?_)
  refine wpAny_bind (wpAny_bind (I.type.here ((PySem.W.looks_findIn X hs).here ?_)))
  show wpAny _ _ (if (some (Value.ref f)).isNone = true then _ else _) _ _ _
  rw [if_neg (by simp)]
  refine wpAny_bind (by_own X I hs hf ?_)
  show wpAny _ _ (call (.ref f) ([.ref x] ++ [])) _ _ _
  refine wpAny_mono h (fun v s' hv => ?_) fun _ _ z => z
  obtain ⟨m, u, rfl, hq⟩ := hv
  refine wpAny_bind (wpAny_isInstance (T := "str") (b := true) rfl isSubtype_str_str ?_)
  first
    | exact wpAny_pure ⟨m, u, rfl, hq⟩
    | (rw [if_pos rfl]; exact wpAny_pure ⟨m, u, rfl, hq⟩)
end
section
variable {X : Cx} {n : Nat} {pins : List (Addr × Obj)} {σ : L2.St} {H : Hp} {s : Shared}
/-- what the own __repr__ promises: the text t for the instance a -/
def spRepr (R : Addr → Str → Hp → Prop) : Sp := fun vs H Q _ => ∃ a t, vs = [.ref a] ∧ R a t H ∧ ∀ H', Ext H H' → Q (.str t) H'
theorem run_repr {CX : CXT} {C f a dx : Addr} {fd : FuncData} {ps : List Str} {R : Addr → Str → Hp → Prop} {E : XK} {A : Around} {t : Str} {fs : List (Str × V)} (F : FnOk X.prog X.w X.K X.mg X.base CX n f fd ps (spRepr R)) (hb : Binds X.K fd ps []) (hx : Passes CX X E)
    (sb : Sub X n A) (I : Inv X pins σ H s) (hr : R a t H) : wpAny (model X.prog X.w) A (call (.ref f) [.ref a]) (fun v s' => ∃ m u, v = .str m u ∧ m = t ∧ ∃ H', Inv X pins σ H' s' ∧ Ext H H') X.xe s := by
  have hsp : spRepr R [.ref a] H (fun v H' => v = .str t ∧ Ext H H') E := ⟨a, t, rfl, hr, fun H' e => ⟨rfl, e⟩⟩
  have e0 : Env0 X.prog X.w X.K X.mg X.base A X.stack s H := by
    have e := I.env0
    exact ⟨by rw [sb.fr]; exact e.frames, e.mod, e.bs, e.bsz, e.funs, e.frf, e.hok, e.bare⟩
  have hl := F.len _ _ _ _ hsp
  have r2 : Vals [V.ref a] [Value.ref a] := .cons rfl .nil
  refine wpAny_call (codeAny_mono (F.run A X.stack s H ⟨[.ref a], []⟩ [.ref a] [.ref a] _ E sb.room e0 (by
    have := hb s [.ref a] I.kIn (by simpa using hl)
    simpa using this) r2 hsp) fun r s' hq => ?_)
  cases r with
  | error e => exact hx pins σ H s e s' I hq
  | ok fl =>
    cases fl with
    | ret w =>
      obtain ⟨z, H', I', rz, ez, ex⟩ := I.after hq
      subst ez
      obtain ⟨u, rfl⟩ := rz
      exact ⟨t, u, rfl, rfl, H', I', ex⟩
    | next => exact False.elim hq
    | brk => exact False.elim hq
    | cont => exact False.elim hq
theorem under_run {CX : CXT} {C f a dx : Addr} {fd : FuncData} {ps : List Str} {R : Addr → Str → Hp → Prop} {E : XK} {A : Around} {t : Str} {fs : List (Str × V)} {b : Nat} (F : FnOk X.prog X.w X.K X.mg X.base CX n f fd ps (spRepr R)) (hb : Binds X.K fd ps []) (hx : Passes CX X E)
    (hs : PySem.W.findIn X.K (.ref C) "__repr__" = some (some (.ref f))) (hf : PySem.W.isFn X.K (.ref f) = true) (sb : Sub X n A) (I : Inv X pins σ H s) (ha : H a = some (.ins C dx fs)) (hr : R a t H) (hz : b ≤ sizeLine) :
    wpAny (model X.prog X.w) A (pyReprUnder b (.ref a)) (fun m s' => m = t ∧ ∃ H', Inv X pins σ H' s' ∧ Ext H H') X.xe s := by
  obtain ⟨mA, J, _⟩ := ins_get I.hok ha
  obtain ⟨od, J, _⟩ := J.look
  exact under_own hz sb.room.units0 I.kIn J hs hf (run_repr (dx := dx) (fs := fs) (C := C) F hb hx sb I hr)
/-- the pinned list of parts grows -/
theorem bump {P : Addr} {acc : Array Value} {c : Nat} {v : Value} (I : Inv X ((P, lstObj acc c) :: pins) σ H s) (hP : X.s_0.heap.objs.size ≤ P) (hp : ∀ p ∈ X.pn ++ pins, p.1 ≠ P) :
    ∃ c', Inv X ((P, lstObj (acc.push v) c') :: pins) σ H { s with heap := s.heap.update P (Obj.mapSeq (·.push v)) } := by
  obtain ⟨h1, h2, h3, h4, h5⟩ := I.pin (P, lstObj acc c) (List.mem_append_right _ List.mem_cons_self)
  have I0 : Inv X pins σ H s := I.pins_of fun p hp => I.pin p (List.mem_append_right _ (List.mem_cons_of_mem _ hp))
  have hc : ∀ x c', X.env.cells.lookup x = some c' → c' ≠ P := fun x c' e z => by
    obtain ⟨w, o, ho, hd⟩ := I.cell x c' e
    rw [z, h1] at ho
    cases ho
    exact h5 _ hd
  have J := I0.turned (t' := s.toks) (it := P) (h' := s.heap.update P (Obj.mapSeq (·.push v))) (fun b o hb e => (Heap.get?_update_other _ _ (Ne.symm hb)).trans e) h2 h3 (.inr hP) hc hp
  obtain ⟨c', e⟩ : ∃ c', (s.heap.update P (Obj.mapSeq (·.push v))).get? P = some (lstObj (acc.push v) c') := ⟨_, Heap.get?_update_self _ h1 rfl⟩
  refine ⟨c', J.pins_of fun p hp' => ?_⟩
  rcases List.mem_cons.mp hp' with z | z
  · rw [z]
    exact ⟨e, h2, h3, h4, fun v q => by cases q⟩
  · exact J.pin p (List.mem_append_right _ z)
theorem room_loop {k : Nat} {A : Around} {args : Args} (r : Room (k + 1) A) : Room k (A.under (.builtin "list.__repr__.loop" args)) ∧ (A.under (.builtin "list.__repr__.loop" args)).frames = A.frames := by
  have hu : (A.under (.builtin "list.__repr__.loop" args)).units = A.units + 1 := units_under_list_loop A args
  have hh : (A.under (.builtin "list.__repr__.loop" args)).handled = A.handled := rfl
  have hd : (A.under (.builtin "list.__repr__.loop" args)).depth ≤ A.depth + 1 := by
    show A.depth + (Code.builtin "list.__repr__.loop" args).weight ≤ A.depth + 1
    have hw : (Code.builtin "list.__repr__.loop" args).weight ≤ 1 := by
      simp [Code.weight, Code.isCreation, Code.isCaller, Code.frames, Code.isFrame]
      try (split <;> omega)
    omega
  have hf : (A.under (.builtin "list.__repr__.loop" args)).frames = A.frames := by
    first | rfl | (show pushEnvs _ A.frames = _; cases A.frames <;> rfl) | simp [Around.under, Code.envs, pushEnvs]
  refine ⟨⟨hh.trans r.hd, ?_, ?_⟩, hf⟩
  · have := r.dp; omega
  · have := r.un; omega
theorem loop_own {CX : CXT} {C f : Addr} {fd : FuncData} {ps : List Str} {R : Addr → Str → Hp → Prop} {E : XK} {A : Around} {l P : Addr} {as : List Addr} {ts : List Str} {Q : VK} (Fr : FnOk X.prog X.w X.K X.mg X.base CX n f fd ps (spRepr R)) (hb : Binds X.K fd ps []) (hx : Passes CX X E)
    (hs : PySem.W.findIn X.K (.ref C) "__repr__" = some (some (.ref f))) (hf : PySem.W.isFn X.K (.ref f) = true) (sb : Sub X (n + 1) A) (hR : ∀ a t H H', Ext H H' → R a t H → R a t H') (hP : X.s_0.heap.objs.size ≤ P) (hp : ∀ p ∈ X.pn ++ pins, p.1 ≠ P)
    (hl : H l = some (.lst (as.map V.ref))) (hT : ∀ (i : Nat) (a : Addr), as[i]? = some a → ∃ t dx fs, ts[i]? = some t ∧ H a = some (.ins C dx fs) ∧ R a t H) (hlen : ts.length = as.length) (hsz : (listText ts).length ≤ sizeLine) (hQ : ∀ H', Ext H H' → Q (.str (listText ts)) H') :
    ∀ (k i : Nat) (s : Shared) (H' : Hp) (acc : Array Value) (c : Nat) (done : List (Str × Tok)), as.length - i = k → i ≤ as.length → Ext H H' → Inv X ((P, lstObj acc c) :: pins) σ H' s → acc.toList = strValues done → done.map (·.1) = ts.take i →
      codeAny (model X.prog X.w) A (.builtin "list.__repr__.loop" ⟨[.ref l, rawInt i, .ref P, rawInt ((piled (ts.take i) : Nat) : Int)], []⟩) (wants (fun v s' => ∃ x u, v = .str x u ∧ EP X pins σ Q v s') X.xe) s := by
  have hp3 := piled_le_listText ts
  have hL := textFrom_len ts 0 "["
  have hX : (listText ts).length = (textFrom 0 "[" ts).length + 1 := by
    show (textFrom 0 "[" ts ++ "]").length = _
    rw [strLen_append]
    rfl
  have hz2 : ∀ t ∈ ts, t.length ≤ sizeLine := fun t ht => by
    have := hL.2.1 t ht
    omega
  have hz1 : as.length ≤ sizeLine := by
    have h1 := hL.1
    rw [if_neg (Nat.lt_irrefl 0)] at h1
    omega
  intro k
  induction k with
  | zero =>
    intro i s H' acc c done hk hi he I hacc hdone
    have hin : i = as.length := by omega
    obtain ⟨_, its, z, r, e⟩ := I.hok l _ (he _ _ hl)
    have hlenI : its.length = as.length := by rw [← r.length, List.length_map]
    have pP := (I.pin (P, lstObj acc c) (List.mem_append_right _ List.mem_cons_self)).1
    refine codeAny_builtin PySem.F.entry_list_repr_loop ?_
    show wpAny _ _ (Builtin.«list.__repr__.loop» ⟨[.ref l, .int i 0, .ref P, .int ((piled (ts.take i) : Nat) : Int) 0], []⟩) _ _ s
    rw [repr_loop_tree]
    refine wpAny_bind (wpAny_listItems e rfl ?_)
    have hno : its.toArray[(i : Int).toNat]? = none := by
      rw [Int.toNat_natCast]
      simp [hin, hlenI]
    simp only [hno]
    unfold reprEnd
    refine wpAny_bind (wpAny_listItems pP rfl ?_)
    rw [hacc, repr_fold]
    refine wpAny_bind (wpAny_pure ?_)
    have hall : done.map (·.1) = ts := by rw [hdone, hin, ← hlen, List.take_length]
    rw [hall]
    refine wpAny_bind (wpAny_mkStr (wpAny_pure ?_) hsz)
    have I1 : Inv X pins σ H' s := I.pins_of fun p hp => I.pin p (List.mem_append_right _ (List.mem_cons_of_mem _ hp))
    exact ⟨_, _, rfl, .str (listText ts), H', I1.tok _, ⟨_, rfl⟩, hQ H' he⟩
  | succ k ih =>
    intro i s H' acc c done hk hi he I hacc hdone
    have hlt : i < as.length := by omega
    obtain ⟨t, dx, fs, ht, ha, hrt⟩ := hT i as[i] (List.getElem?_eq_getElem hlt)
    obtain ⟨_, its, z, r, e⟩ := I.hok l _ (he _ _ hl)
    obtain ⟨u, hu, ru⟩ := r.get (i := i) (x := V.ref as[i]) (by rw [List.getElem?_map, List.getElem?_eq_getElem hlt]; rfl)
    cases ru
    have hp1 := piled_take_succ ht
    have hp2 := piled_take_le ts (i + 1)
    refine codeAny_builtin PySem.F.entry_list_repr_loop ?_
    show wpAny _ _ (Builtin.«list.__repr__.loop» ⟨[.ref l, .int i 0, .ref P, .int ((piled (ts.take i) : Nat) : Int) 0], []⟩) _ _ s
    rw [repr_loop_tree]
    refine wpAny_bind (wpAny_listItems e rfl ?_)
    have hso : its.toArray[(i : Int).toNat]? = some (.ref as[i]) := by
      rw [Int.toNat_natCast]
      simpa using hu
    simp only [hso]
    rw [Int.toNat_natCast]
    obtain ⟨rm, fr⟩ := room_loop (args := ⟨[.ref l, rawInt i, .ref P, rawInt ((piled (ts.take i) : Nat) : Int)], []⟩) sb.room
    refine wpAny_bind (wpAny_holding (wpAny_mono (under_run Fr hb hx hs hf ⟨rm, fr.trans sb.fr⟩ I (he _ _ ha) (hR _ _ _ _ he hrt) (by omega)) (fun m s2 hm => ?_) fun _ _ q => q))
    obtain ⟨rfl, H2, I2, e2⟩ := hm
    refine wpAny_bind (wpAny_mkStr ?_ (hz2 m (List.mem_of_getElem? ht)))
    have I3 := I2.tok (s2.toks + 1)
    have pP := (I3.pin (P, lstObj acc c) (List.mem_append_right _ List.mem_cons_self)).1
    refine wpAny_bind ?_
    show wpAny _ _ (updateSeq P _) _ _ _
    have hasz : acc.size ≤ sizeLine := by
      have n1 : acc.toList.length = acc.size := by simp
      have n2 : (strValues done).length = done.length := by simp [strValues]
      have n3 : done.length = (ts.take i).length := by rw [← hdone, List.length_map]
      have n4 : (ts.take i).length ≤ i := by rw [List.length_take]; omega
      rw [hacc] at n1
      omega
    refine wpAny_updateSeq pP rfl (wpAny_pure ⟨PySem.F.quiet_list_repr_loop _, ?_⟩) hasz
    obtain ⟨c', I4⟩ := bump (v := .str m s2.toks) I3 hP hp
    have n1 : ((i : Int) + 1) = ((i + 1 : Nat) : Int) := by omega
    have n2 : piled (ts.take i) + (m.length + 2) = piled (ts.take (i + 1)) := by omega
    rw [n1, n2]
    exact ih (i + 1) _ H2 (acc.push (.str m s2.toks)) c' (done ++ [(m, s2.toks)]) (by omega) hlt (he.trans e2) I4 (by simp [hacc, strValues]) (by simp [List.take_add_one, ht, hdone])
/-- repr of a list of instances -/
def rReprL (C : Addr) (R : Addr → Str → Hp → Prop) : List V → Hp → VK → Prop := fun xs H Q => ∃ (l : Addr) (as : List Addr) (ts : List Str), xs = [.ref l] ∧ H l = some (.lst (as.map V.ref)) ∧ (∀ (i : Nat) (a : Addr), as[i]? = some a → ∃ t dx fs, ts[i]? = some t ∧ H a = some (.ins C dx fs) ∧ R a t H) ∧
  ts.length = as.length ∧ (listText ts).length ≤ sizeLine ∧ ∀ H', Ext H H' → Q (.str (listText ts)) H'
theorem call_reprL {CX : CXT} {C f : Addr} {fd : FuncData} {ps : List Str} {R : Addr → Str → Hp → Prop} {E : XK} (Fr : FnOk X.prog X.w X.K X.mg X.base CX n f fd ps (spRepr R)) (hb : Binds X.K fd ps []) (hx : Passes CX X E)
    (hs : PySem.W.findIn X.K (.ref C) "__repr__" = some (some (.ref f))) (hf : PySem.W.isFn X.K (.ref f) = true) (hr : Room (n + 2) X.A) (hg : X.A.guards = some []) (hR : ∀ a t H H', Ext H H' → R a t H → R a t H') : CallR X (.builtin "repr") (rReprL C R) := by
  intro pins s σ H xs us Q I r h
  obtain ⟨l, as, ts, rfl, hl, hT, hlen, hsz, hQ⟩ := h
  cases r with
  | cons rx rr =>
    cases rr
    cases rx
    obtain ⟨_, its, z, rv, e⟩ := I.hok l _ hl
    have hlI : its.length = as.length := by rw [← rv.length, List.length_map]
    have ty : s.TypeIs (.ref l) "list" := ⟨_, e, rfl⟩
    refine call_repr_slot (T := "list") (idr := "list.__repr__") (by have := hr.un; omega) ty PySem.F.slot_list_repr.toG ?_
    cases its with
    | nil =>
      have ha : as = [] := List.length_eq_zero_iff.mp hlI.symm
      have htn : ts = [] := List.length_eq_zero_iff.mp (by rw [hlen, ha]; rfl)
      subst ha htn
      refine call_list_repr_empty ty e rfl ?_
      refine ⟨_, _, rfl, .str (listText []), H, I.tok _, ⟨_, by rw [listText_nil]⟩, hQ H Ext.rfl'⟩
    | cons y ys =>
      refine GQ.call_here PySem.F.slot_list_repr ty PySem.F.entry_list_repr (PySem.F.args_list_repr_1 _) ?_
      show wpAny _ _ (Builtin.listReprAt 0 ⟨[.ref l], []⟩) _ _ s
      refine wpAny_list_repr_head (g := []) hg (fun v rest kw hm => by cases hm) e rfl ?_
      refine wpAny_bind (m := newList []) (wpAny_newObj_type ?_)
      have hP : (s.heap.push { cls := .type "list", data := .seq #[] }).get? s.heap.objs.size = some { cls := .type "list", data := .seq #[] } := Heap.get?_push_size _ rfl
      have I1 := ClX.pin_new (t' := s.toks) I (fun b u q => Heap.get?_push_of_some _ q) (Nat.le_refl _) hP (fun v q => by cases q)
      refine wpAny_pure ⟨PySem.F.quiet_list_repr_loop _, ?_⟩
      have hr1 : Room (n + 1) X.A.in1 := hr.in1
      exact loop_own (A := X.A.in1) Fr hb hx hs hf ⟨hr1, rfl⟩ hR I.sz (fun p hp => Nat.ne_of_lt (Heap.lt_size (I.pin p hp).1)) hl hT hlen hsz hQ _ 0 _ H #[] _ [] rfl (Nat.zero_le _) Ext.rfl' I1 rfl (by simp)
end
end Rp
/-! A law's end where the run at the very top is wanted: nothing is under way above the law. -/
namespace Tp
open PySem PySem.Spec PyProof.Rows L2
section
variable {P : Program} {w : World} {K : PySem.W.Frag} {mg mb : Str → Option Value} {fa a : Addr} {s₁ : Shared} {vs : List Value} {ns : List Int} {H : Hp}
/-- where no entry of a dict is tracked -/
theorem env_top (KX : K.In s₁.heap) (hns : s₁.heap.Ns mainGlobals mg) (hb : s₁.heap.Ns builtinsNs mb) (hbb : ∀ x : Str, x ≠ "__name__" → mb x = bootBuiltins x) (hlim : s₁.heap.NoLimit) (hg : s₁.gens = #[])
    (ha : s₁.heap.get? a = some { cls := .type "list", data := .seq vs.toArray }) (hok : HOk P w H s₁.heap) (only : ∀ b, H b ≠ none → b = a) (hK : H a ≠ none → K.lookup a = none) :
    K.In (hidT s₁.heap H) ∧ (hidT s₁.heap H).Ns mainGlobals mg ∧ Env0 P w K mg (hidT s₁.heap H) callerA [] s₁ H := by
  have notA : ∀ {b : Addr}, b ≠ a → H b = none := fun {b} ne => by
    cases q : H b with
    | none => rfl
    | some u => exact absurd (only b (by rw [q]; exact fun z => nomatch z)) ne
  have dct : ∀ {b : Addr} {m : Str → Option Value}, s₁.heap.Ns b m → (hidT s₁.heap H).Ns b m := fun {b m} n => by
    obtain ⟨o, es, ep, e, d, r⟩ := n
    refine ⟨o, es, ep, hidT_get e (notA fun z => ?_), d, r⟩
    subst z
    rw [ha] at e
    cases e
    cases d
  have inK : K.In (hidT s₁.heap H) := fun b o e => hidT_get (KX b o e) (by
    by_cases z : b = a
    · subst z
      cases q : H b with
      | none => rfl
      | some u =>
        have := hK (by rw [q]; exact fun z => nomatch z)
        rw [this] at e
        cases e
    · exact notA z)
  obtain ⟨mc, l1, l2⟩ := hlim
  exact ⟨inK, dct hns, ⟨rfl, ⟨inK, dct hns, ⟨mb, dct hb, hbb⟩, ⟨mc, dct l1, l2⟩⟩, fun b o e => of_hidT e, Nat.le_of_eq (hidT_size _ _), trivial, fun b z => (by cases z), hok, .of_eq hg⟩⟩
/-- the answer True -/
theorem end_top (only : Only H) (hok : HOk P w H s₁.heap) {r : Result} {s' : Shared} (h : CR C8.CX0 [] P w H s₁ (fun v _ => v = .bl true) (fun _ _ _ => False) r s') :
    r = .ok (.ret (.bool true)) ∧ OldK s₁.heap s'.heap ∧ s'.os = s₁.os ∧ AllBare s'.gens := by
  cases r with
  | error e => exact (show False from h).elim
  | ok fl =>
    cases fl with
    | ret u =>
      obtain ⟨v, H', h1, h2, un, hok', rv, hv⟩ := h
      have hv : v = .bl true := hv
      subst hv
      cases rv
      refine ⟨rfl, OldK.of_keep fun b o e => ?_, h1, h2⟩
      rcases only b with q | ⟨ob, xs, q⟩
      · exact un.keep b o e q (fun z => by cases z) (fun z => by cases z)
      · obtain ⟨g1, _⟩ := hok b _ q
        obtain ⟨g2, _⟩ := hok' b _ (un.frzs b ob _ q)
        rw [e] at g1
        cases g1
        exact g2
    | next => exact (show False from h).elim
    | brk => exact (show False from h).elim
    | cont => exact (show False from h).elim
/-- the run of the law's def at the top, its answer True -/
def TopOk (P : Program) (w : World) (K : PySem.W.Frag) (mg : Str → Option Value) (fa : Addr) (n : Nat) : Prop :=
  ∀ (base : Heap) (s : Shared) (H : Hp) (a : Addr) (ns : List Int), ns.length ≤ n → K.In base → base.Ns mainGlobals mg → Env0 P w K mg base callerA [] s H → SqL K H a (ns.map V.int) →
    codeAny (model P w) callerA (.call (.ref fa) ⟨[.ref a], []⟩) (CR C8.CX0 [] P w H s (fun v _ => v = .bl true) fun _ _ _ => False) s
theorem top_call {n : Nat} (KX : K.In s₁.heap) (hns : s₁.heap.Ns mainGlobals mg) (hb : s₁.heap.Ns builtinsNs mb) (hbb : ∀ x : Str, x ≠ "__name__" → mb x = bootBuiltins x) (hlim : s₁.heap.NoLimit) (hg : s₁.gens = #[])
    (ha : s₁.heap.get? a = some { cls := .type "list", data := .seq vs.toArray }) (hi : IntsAre vs ns) (hl : ns.length ≤ n) (hn : n ≤ sizeLine) (F : TopOk P w K mg fa n) :
    codeAny (model P w) callerA (.call (.ref fa) ⟨[.ref a], []⟩) (fun r s' => r = .ok (.ret (.bool true)) ∧ OldK s₁.heap s'.heap ∧ s'.os = s₁.os ∧ AllBare s'.gens) s₁ := by
  have rv := vals_ints hi
  have sz : vs.length ≤ sizeLine := by rw [hi.length]; omega
  cases hk : K.lookup a with
  | some o =>
    have e := KX a o hk
    rw [ha] at e
    cases e
    have ok0 : HOk P w (fun _ => none) s₁.heap := fun b u z => nomatch (show (none : Option HO) = some u from z)
    obtain ⟨e1, e2, e3⟩ := env_top KX hns hb hbb hlim hg ha ok0 (fun b z => absurd rfl z) (fun z => absurd rfl z)
    refine codeAny_mono (F _ s₁ _ a ns hl e1 e2 e3 (.inr ⟨_, vs.toArray, _, hk, rfl, rfl, rfl, by rw [List.size_toArray]; exact sz, by simpa using rv⟩)) fun r s' h => end_top (fun _ => .inl rfl) ok0 h
  | none =>
    generalize hH : (fun b : Addr => if b = a then some (HO.frz { cls := .type "list", data := .seq vs.toArray } (.lst (ns.map V.int))) else none) = Hf
    have at_ : Hf a = some (.frz { cls := .type "list", data := .seq vs.toArray } (.lst (ns.map V.int))) := by rw [← hH]; exact if_pos rfl
    have off : ∀ b, b ≠ a → Hf b = none := fun b ne => by rw [← hH]; exact if_neg ne
    have ok1 : HOk P w Hf s₁.heap := fun b u z => by
      by_cases q : b = a
      · subst q
        rw [at_] at z
        cases z
        exact ⟨ha, by rw [List.length_map]; omega, vs, _, rv, ha⟩
      · rw [off b q] at z
        cases z
    obtain ⟨e1, e2, e3⟩ := env_top KX hns hb hbb hlim hg ha ok1 (fun b z => Classical.byContradiction fun q => z (off b q)) (fun _ => hk)
    refine codeAny_mono (F _ s₁ _ a ns hl e1 e2 e3 (.inl (.inr ⟨_, at_⟩))) fun r s' h => end_top (fun b => ?_) ok1 h
    by_cases q : b = a
    · subst q
      exact .inr ⟨_, _, at_⟩
    · exact .inl (off b q)
end
theorem walk_top {l : PySem.W.OpenLaw} {n : Nat} {q : Program} {loose : List Str} {XP : (Str → Option Value) → Heap → Prop} {YP : World → Heap → Prop} {d : DefRec} {K : Params → PySem.W.Frag}
    (hn : l.most = some n) (hn2 : n ≤ sizeLine) (hdf : d.params.defaults = []) (hY : ∀ (w : World) (h : Heap), YP w h → (K w.params).In h)
    (F : ∀ (w : World) (mg : Str → Option Value) (fa : Addr) (h : Heap), (K w.params).In h → h.Ns mainGlobals mg → mg d.name = some (.ref fa) → TopOk l.prog w (K w.params) mg fa n) :
    PySem.W.WalkO q loose XP YP l.row.toRowW d [] (fun f vs => PySem.call f vs) := by
  refine Att.attach_call hn hdf fun w s₀ s₁ mg mb fa o pm cd doc a vs ns G Y ho hd hcd hmg hobj hints hlen hg => ?_
  exact top_call (hY w _ Y) G.T.g G.T.b G.T.builtins G.T.nolimit hg hobj hints hlen hn2 (F w mg fa _ (hY w _ Y) G.T.g hmg)
end Tp
/-! The first item of a generator that has not begun; `for` over it that does not come to a second turn. -/
namespace G1
open PySem PySem.Spec PyProof.Rows L2 GenW
/-- the arguments, the heap, what is wanted of the first item and the heap then -/
abbrev Sp1 := List V → Hp → (V → Hp → Prop) → Prop
def FEnd : GenEnd := fun n s₀ r s₁ => ((r = .ok (.ret .none) ∨ r = .ok .next) ∧ (fun (_ : Nat) (_ _ : Shared) => False) n s₀ s₁) ∨ ∃ e, r = .error e ∧ (fun (_ : Value) (_ : Shared) => False) e s₁
def Y1 (P : Program) (w : World) (outer : List Env) (H : Hp) (s : Shared) (Q : V → Hp → Prop) : Protocol := fun _ _ v s1 _ =>
  ∃ H' x, s1.os = s.os ∧ AllBare s1.gens ∧ Un (frs outer) [] H H' s.heap s1.heap ∧ HOk P w H' s1.heap ∧ RelV x v ∧ Q x H'
def GOne (P : Program) (w : World) (k : Nat) (outer : List Env) (H : Hp) (s : Shared) (Q : V → Hp → Prop) (u : Value) (s' : Shared) : Prop :=
  ∃ (a : Addr) (g : Nat) (c : Code), u = .ref a ∧ s'.heap.IsGen a g ∧ s'.gens[g]? = some (.fresh c) ∧ s'.os = s.os ∧ AllBare s'.gens ∧ s'.heap.NoLimit ∧
    ∀ (A : Around) (s2 : Shared), Room k A → A.frames = some outer → (∀ b o, s'.heap.get? b = some o → s2.heap.get? b = some o) → s2.os = s.os → AllBare s2.gens →
      Seg (model P w) A FEnd (Y1 P w outer H s Q) 1 s2 c ((model P w).den c) [] s2
structure GF1 (P : Program) (w : World) (K : PySem.W.Frag) (mg : Str → Option Value) (base : Heap) (k : Nat) (f : Addr) (fd : FuncData) (ps : List Str) (sp : Sp1) : Prop where
  len : ∀ vs H Q, sp vs H Q → vs.length = ps.length
  run : ∀ (A : Around) (outer : List Env) (s : Shared) (H : Hp) (args : Args) (us : List Value) (vs : List V) (Q : V → Hp → Prop), Room k A → Env0 P w K mg base A outer s H → BindsTo s fd args (ps.zip us) → Vals vs us → sp vs H Q →
    codeAny (model P w) A (.call (.ref f) args) (fun r s' => match r with | .ok (.ret u) => GOne P w k outer H s Q u s' | _ => False) s
/-- the context of the generator's body; nothing is raised in it -/
def gx (P : Program) (w : World) (K : PySem.W.Frag) (mg : Str → Option Value) (base : Heap) (N : List Str) (qual : Str) (scope : Scope) (f : Addr) (cd : Value) (A : Around) (outer : List Env) (s : Shared) (H : Hp) : Cx :=
  { gcxOf P w K mg base N qual scope f cd A outer s H (fun _ _ _ => False) [] with xe := fun _ _ => False }
theorem inv_gx {P : Program} {w : World} {K : PySem.W.Frag} {mg : Str → Option Value} {base : Heap} {N : List Str} {qual : Str} {scope : Scope} {f : Addr} {cd : Value} {A : Around} {outer : List Env} {s s1 : Shared} {H H' : Hp} {σ : L2.St}
    (I : Inv (gcxOf P w K mg base N qual scope f cd A outer s H (fun _ _ _ => False) []) [] σ H' s1) : Inv (gx P w K mg base N qual scope f cd A outer s H) [] σ H' s1 :=
  ⟨⟨I.ok.mod, I.ok.kind, I.ok.glob, I.ok.blt, I.ok.above, I.ok.inj, I.ok.has, I.ok.cab, I.ok.hd, I.ok.frames, I.ok.stk, I.ok.exf, I.ok.bs, I.ok.bsz, I.ok.noex, I.ok.exfs, I.ok.funs, I.ok.frf⟩, I.os, I.bare, I.base, I.loc, I.cell, I.free, I.freeC, I.pin, I.hok, I.len⟩

theorem gf1_of {P : Program} {w : World} {K : PySem.W.Frag} {mg : Str → Option Value} {base : Heap} {k : Nat} {f : Addr} {name qual : Str} {params : Arguments} {scope : Scope} {dV kV doc pm cdv ct oc : Value} {an od : Option Addr}
    {osl : Array (Option Value)} {N ps : List Str} {sp : Sp1} {tg iter e : Expr} {yp yq fp : Pos} {rb rest : List Stmt}
    (lk : K.lookup f = some ⟨oc, od, .func (PySem.W.fnOf name qual params (.For tg iter (.Expr (.Yield (some e) yp) yq :: rb) [] fp :: rest) scope dV kV doc pm an cdv ct), osl⟩) (hcd : PySem.W.codeIn K cdv qual = true) (S : GScope N ps scope)
    (len : ∀ vs H Q, sp vs H Q → vs.length = ps.length)
    (hbody : ∀ (A : Around) (outer : List Env) (s : Shared) (H : Hp) (vs : List V) (Q : V → Hp → Prop), Room k (A.deeper (envOfC qual scope s.heap.objs.size f cdv)) → sp vs H Q →
      ∃ wi g te, PI (gx P w K mg base N qual scope f cdv A outer s H) tg iter wi ∧ PG (gx P w K mg base N qual scope f cdv A outer s H) tg g ∧ PE (gx P w K mg base N qual scope f cdv A outer s H) e te ∧
        wi (start N vs) H fun J H1 => J.go 0 H1 ∧ ∀ x H', J.yld 0 H1 x H' → g x (start N vs) H' fun σ2 H2 => te σ2 H2 fun y H3 => Q y H3)
    (hs : ∀ env x, foldedSetIterable iter env x = pure x := by intro _ _; rfl) :
    GF1 P w K mg base (k + 1) f (PySem.W.fnOf name qual params (.For tg iter (.Expr (.Yield (some e) yp) yq :: rb) [] fp :: rest) scope dV kV doc pm an cdv ct) ps sp := by
  refine ⟨len, fun A outer s H args us vs Q hr e0 hb r hsp => ?_⟩
  have hl := len _ _ _ hsp
  have KX : K.In s.heap := e0.mod.kin.keeps fun b o e => (e0.bs b o e).1
  have lim : s.heap.NoLimit := e0.mod.nolimit.keeps fun b o e => (e0.bs b o e).1
  have hkind : ∀ y ∈ ps.zip us, scope.names.lookup y.1 = some .local ∨ (scope.names.lookup y.1 = some .cell ∧ ((cellsFrom (s.heap.objs.size + 1) scope.names []).lookup y.1).isSome = true) := fun ⟨n, v⟩ hy => by
    rcases S.par n (List.of_mem_zip hy).1 with q | q
    · exact .inl q
    · exact .inr ⟨q, PySem.W.cellsFrom_some _ _ _ (.inl q)⟩
  refine codeAny_call_generator hr.depth (KX _ _ lk) rfl S.co S.gen rfl (PySem.W.codeRec_of KX hcd) (hb _ _ _ _ ?_)
  refine wpAny_newFunctionEnv_cells S.kind hkind fun env he s1 x => ?_
  subst he
  have lim1 : s1.heap.NoLimit := lim.keeps x.toInCall.keep
  refine ⟨lim1, ?_⟩
  obtain ⟨h1, tk, es1, hk1⟩ := x.done
  have os1 : s1.os = s.os := by rw [es1]
  have gen1 : s1.gens = s.gens := by rw [es1]
  have main : ∀ (go : Obj) (nm qn : Value) (tk2 : Nat), go.cls = .type "generator" → go.data = .fields #[.int s1.gens.size 0, nm, qn] → go.slots = #[] → (∀ h : Heap, (h.push go).get? h.objs.size = some go) →
      GOne P w (k + 1) outer H s Q (.ref s1.heap.objs.size) { s1 with gens := s1.gens.push (.fresh (.func (.For tg iter (.Expr (.Yield (some e) yp) yq :: rb) [] fp :: rest) (envOfC qual scope s.heap.objs.size f cdv))), toks := tk2, heap := s1.heap.push go } := by
    intro go nm qn tk2 hgc hgd0 hgs hgp
    refine ⟨s1.heap.objs.size, s1.gens.size, _, rfl, ⟨go, nm, qn, hgp _, hgc, hgd0, hgs⟩, Array.getElem?_push_size .., os1, AllBare.push (by rw [gen1]; exact e0.bare) rfl, lim1.keeps fun b o e => Heap.get?_push_of_some _ e, ?_⟩
    intro Aw s2 hrw hfr hk2 hos hba
    have e0w : Env0 P w K mg base Aw outer s H := ⟨hfr, e0.mod, e0.bs, e0.bsz, e0.funs, e0.frf, e0.hok, e0.bare⟩
    obtain ⟨wi, g, te, hi, hg, he, hq⟩ := hbody Aw outer s H vs Q (hrw.deeper _) hsp
    have I1 := inv_startG (E := fun _ _ _ => False) S hrw.hd e0w hl r x
    have kp2 : ∀ b o, s1.heap.get? b = some o → s2.heap.get? b = some o := fun b o e => hk2 b o (Heap.get?_push_of_some _ e)
    have I2 := inv_gx (I1.call' (ch := []) (hos.trans os1.symm) (Un.kept kp2) (I1.hok.kept kp2) hba fun b z => by simp at z)
    refine seg_func ?_
    refine seg_execs_cons ?_
    refine Gf.seg_For (hs _) ?_
    rw [over_func]
    refine wpAny_mono (hi.run [] s2 _ H _ I2 hq) (fun v s3 h3 => wpAny_mono h3 (fun itv s4 h4 => ?_) fun x s' hx => False.elim hx) fun x s' hx => False.elim hx
    obtain ⟨it, fq, tn, J, H2, e, I3, T, st3, f3, go3, step⟩ := h4
    subst e
    intro p
    refine Gf.seg_forLoop ?_
    rw [over_loop rfl rfl, over_func]
    refine wpAny_mono (T.item (gx P w K mg base N qual scope f cdv Aw outer s H) rfl rfl rfl rfl 0 [] s4 _ H2 (fun _ _ => False) I3 f3 st3 go3) (fun r5 s5 ⟨u, hr5, h5⟩ => ?_) fun x s' hx => False.elim hx
    subst hr5
    refine wpAny_mono h5 (fun _ s6 ⟨y, H6, I6, r6, y6, _, _⟩ => ?_) fun x s' hx => False.elim hx
    refine wpAny_mono (hg.run [] s6 _ H6 y u _ I6 r6 (step y H6 y6)) (fun _ s7 ⟨σ7, H7, I7, q7⟩ => ?_) fun x s' hx => False.elim hx
    refine seg_execs_cons ?_
    refine seg_Expr_Yield rfl rfl rfl ?_ S.co (by simp only [interactive, S.kind, envOfC]; rfl)
    rw [over_loop rfl rfl, over_func]
    refine wpAny_mono (he.run [] s7 σ7 H7 _ I7 q7) (fun v s8 h8 => ?_) fun x s' hx => False.elim hx
    obtain ⟨z, H8, I8, r8, q8⟩ := h8
    intro kap _
    exact ⟨H8, z, I8.os, I8.bare, I8.base, I8.hok, r8, q8⟩
  exact main _ _ _ _ rfl rfl rfl fun h => Heap.get?_push_size _ rfl

section
variable {X : Cx} {k : Nat} {f C : Addr} {fd : FuncData} {ps : List Str} {sp : Sp1} {x m : Str} {p pos pos' apos : Pos} {o : Expr} {ta : TE}
abbrev TG1 := L2.St → Hp → (V → Hp → Prop) → Prop
structure P1 (X : Cx) (k : Nat) (e : Expr) (tg : TG1) : Prop where
  run : ∀ (pins : List (Addr × Obj)) (s : Shared) (σ : L2.St) (H : Hp) (cont : V → Hp → Prop), Inv X pins σ H s → tg σ H cont → wpAny (model X.prog X.w) X.A (eval e X.env)
    (fun u s' => ∃ H1 sc, Inv X pins σ H1 sc ∧ GOne X.prog X.w k X.stack H1 sc cont u s') X.xe s
def t1Meth (C : Addr) (m : Str) (sp : Sp1) (ta : TE) : TG1 := fun σ H cont => ta σ H fun x H1 => ∃ a dx fs, x = .ref a ∧ H1 a = some (.ins C dx fs) ∧ fs.lookup m = none ∧ sp [x] H1 cont
theorem p1_meth0 {pl : Sem Bool} (he : PE X o ta) (c : Cls X.K C) (hm : Meth X.K C m f) (F : GF1 X.prog X.w X.K X.mg X.base k f fd ps sp) (hr : Room k X.A) (hb : Binds X.K fd ps [])
    (ht : eval (.Call (.Attribute o m apos) [] [] pos') X.env = (do
      let ov ← eval o X.env
      standAt apos.atName
      let (f, first) ← holding [ov] (getMethod ov m pl)
      callWith pos' f first (backTo pos' (starEach [] X.env)) (backToKw pos' (keywordEach [] X.env))) := by rfl) :
    P1 X k (.Call (.Attribute o m apos) [] [] pos') (t1Meth C m sp ta) := by
  refine ⟨fun pins s σ H cont I h => ?_⟩
  refine PySem.W.methodCall_KW (pl := pl) (thn (he.run pins s σ H _ I h) fun u s1 ⟨x, H1, I1, rx, a, dx, fs, ex, ea, l, q⟩ => ?_) ht
  subst ex
  obtain rfl : u = Value.ref a := rx
  refine getmeth_ok I1 ea c hm l ?_
  refine PySem.W.callWith_K0 (first := [.ref a]) I1.kIn hm.kp ?_
  have hl2 : ([Value.ref a] ++ ([] : List Value)).length = ps.length := F.len _ _ _ q
  refine wpAny_call (codeAny_mono (F.run X.A X.stack s1 H1 ⟨[.ref a], []⟩ ([Value.ref a] ++ ([] : List Value)) [V.ref a] cont hr I1.env0 (hb s1 [Value.ref a] I1.kIn hl2) (show Vals [V.ref a] [Value.ref a] from .cons rfl .nil) q) fun r s' hq => ?_)
  cases r with
  | error e => exact False.elim hq
  | ok fl =>
    cases fl with
    | ret u => exact ⟨H1, s1, I1, hq⟩
    | next => exact False.elim hq
    | brk => exact False.elim hq
    | cont => exact False.elim hq
def tFor1 (t1 : TG1) (g : TG) (tb : TS) : TS := fun D σ H => t1 σ H fun x H1 => g x σ H1 fun σ2 H2 => tb { D with nx := fun _ _ => False, ct := fun _ _ => False, bk := D.nx } σ2 H2
/-- for v in g: .. that leaves in its first turn -/
theorem ps_for1 {v : Str} {vp : Pos} {iter : Expr} {body : List Stmt} {t1 : TG1} {g : TG} {tb : TS} (hp : PassesOwn (model X.prog X.w) X.A X.env X.xe) (h1 : P1 X k iter t1) (hr : Room (k + 1) X.A) (hg : PG X (.Name v vp) g) (hb : PSs X body tb)
    (hs : ∀ x, foldedSetIterable iter X.env x = pure x := by intro _; rfl) : PS X (.For (.Name v vp) iter body [] pos) (tFor1 t1 g tb) := by
  refine ⟨fun pins s σ H D I h => ?_⟩
  refine wpAny_For (thn (h1.run pins s σ H _ I h) fun u s1 ⟨H1, sc, I1, a, gi, c, eu, hgen, hgs, hos, hba, hl, wake⟩ => ?_) hs
  subst eu
  refine wpAny_pyIter_gen hgen ?_
  refine codeAny_forLoop_any (fun n s' => s' = s1) ?_ 0 rfl
  rintro n s3 rfl
  have hlt : gi < s3.gens.size := (Array.getElem?_eq_some_iff.mp hgs).1
  refine wpAny_passesOwn hp ?_
  refine next_genG (n := 1) hr.hd hl (by have := hr.dp; omega) hgen hgs (Y := Y1 X.prog X.w X.stack H1 sc _) ⟨rfl, wake X.A.in1 (s3.setGen gi .running) ⟨hr.hd, ?_, ?_⟩ I1.ok.frames (fun _ _ e => e) hos (allBare_setGen hba rfl)⟩ (fun u4 s4 gs' hbare hy => ?_) (fun _ z => False.elim z) (fun _ _ z => False.elim z)
  · have := hr.dp
    show X.A.depth + 3 * k + 5 < _
    omega
  · have := hr.un
    show X.A.units + 1 + 16 * k + 200 < _
    omega
  obtain ⟨H4, y, os4, ba4, un4, ok4, r4, q4⟩ := hy
  have I4 : Inv X pins σ H4 (s4.setGen gi gs') := I1.call' (ch := []) os4 un4 ok4 (allBare_setGen ba4 hbare) fun b z => by simp at z
  refine wpAny_passesOwn hp (wpAny_pure ?_)
  refine wpAny_passesOwn hp (thn (hg.run _ _ σ H4 y u4 _ I4 r4 q4) fun _ s6 ⟨σ6, H6, I6, q6⟩ => ?_)
  refine wpAny_passesOwn hp (thn (hb.run _ s6 σ6 H6 _ I6 q6) fun f s7 q7 => ?_)
  cases f with
  | next => obtain ⟨σ7, H7, I7, n7⟩ := q7; exact False.elim n7
  | cont => obtain ⟨σ7, H7, I7, n7⟩ := q7; exact False.elim n7
  | brk => exact q7
  | ret v => exact q7
end
end G1
/-! len(range(n)); repr of one instance with its own __repr__. -/
namespace Lr
open PySem PySem.Spec PyProof.Rows L2
section
variable {X : Cx} {e : Expr} {tr : L2.St → Hp → (Int → Int → Hp → Prop) → Prop} {p pos : Pos}
def tLenRg (tr : L2.St → Hp → (Int → Int → Hp → Prop) → Prop) : TE := fun σ H Q => tr σ H fun a b H1 => 0 ≤ b - a ∧ b - a < 2 ^ 63 ∧ Q (.int (b - a)) H1
theorem pe_lenRg (hg : Gl X "len") (hm : X.mg "len" = none) (he : PRg X e tr) (na : starEach [e] X.env = (false, eval e X.env) :: starEach [] X.env := by rfl) : PE X (.Call (.Name "len" p) [e] [] pos) (tLenRg tr) := by
  refine ⟨fun pins s σ H Q I h => ?_⟩
  refine Call_ (ld_blt I hg hm PySem.boot_len (PyProof.Rows.callWith_builtin1 (args_cons (thn (he pins s σ H _ I h) fun x s1 ⟨r, a, b, t, u, v, H1, ex, hr, I1, h0, h1, q⟩ => args_nil ?_) na) na))
  subst ex
  have e1 : Builtin.Range.rangeSize a b 1 = ((b - a).toNat : Nat) := by rw [rangeSize_one]; split <;> omega
  refine call_len_range hr e1 (by omega) ?_
  refine ⟨.int (b - a), H1, I1.tok _, ⟨_, by rw [Int.toNat_of_nonneg h0]⟩, q⟩
end
section
variable {X : Cx} {n : Nat}
/-- repr(o) -/
def rReprO (C : Addr) (R : Addr → Str → Hp → Prop) : List V → Hp → VK → Prop := fun xs H Q => ∃ (a : Addr) (t : Str) (dx : Addr) (fs : List (Str × V)), xs = [.ref a] ∧ H a = some (.ins C dx fs) ∧ R a t H ∧ ∀ H', Ext H H' → Q (.str t) H'
theorem call_reprO {CX : CXT} {C f : Addr} {fd : FuncData} {ps : List Str} {R : Addr → Str → Hp → Prop} {E : XK} (Fr : FnOk X.prog X.w X.K X.mg X.base CX n f fd ps (Rp.spRepr R)) (hb : Binds X.K fd ps []) (hx : Passes CX X E)
    (hs : PySem.W.findIn X.K (.ref C) "__repr__" = some (some (.ref f))) (hf : PySem.W.isFn X.K (.ref f) = true) (hr : Room (n + 1) X.A) : CallR X (.builtin "repr") (rReprO C R) := by
  intro pins s σ H xs us Q I r h
  obtain ⟨a, t, dx, fs, rfl, ha, hR, q⟩ := h
  obtain ⟨u, rfl, ru⟩ := vals1 r
  obtain rfl : u = Value.ref a := ru
  obtain ⟨mA, J, _⟩ := ins_get I.hok ha
  obtain ⟨od, J, _⟩ := J.look
  obtain ⟨m, hF⟩ := I.fr
  refine PySem.W.repr_K (C := C) (f := f) hr.in1.units0 hF I.ok.mod.kin J hs hf (wpAny_mono (Rp.run_repr (C := C) (dx := dx) (fs := fs) Fr hb hx ⟨hr.in1, rfl⟩ I hR) (fun v s' hq => ?_) fun _ _ z => z)
  obtain ⟨m, u, rfl, rfl, H', I', e⟩ := hq
  exact ⟨.str m, H', I', ⟨u, rfl⟩, q H' e⟩
end
end Lr
namespace Rt
open PySem L2
def top (i : Nat) : Stmt := PySem.Challenge.pw_devicewindows_k02_runs_compared.main.body.getD i (.Pass ⟨0, 0, 0, 0⟩)
abbrev sWhole : Stmt := top 6
abbrev sInteger : Stmt := top 5
abbrev sInit : Stmt := inClass (top 9) 2
abbrev sEnd : Stmt := inClass (top 9) 5
abbrev sEq : Stmt := inClass (top 9) 6
abbrev sContains : Stmt := inClass (top 9) 7
abbrev sAnd : Stmt := inClass (top 9) 8
abbrev sLen : Stmt := inClass (top 9) 9
abbrev sWords : Stmt := inClass (top 9) 11
abbrev sRepr : Stmt := inClass (top 9) 10
/-! ### a run -/
theorem n1 : ¬ (("first" : Str) = "many") := by decide +kernel
def rf (f m : Int) : List (Str × V) := putF "many" (.int m) (putF "first" (.int f) [])
theorem rf_f (f m : Int) : (rf f m).lookup ("first" : Str) = some (.int f) := by
  unfold rf
  rw [lookup_putF, if_neg n1, lookup_putF, if_pos rfl]
theorem rf_m (f m : Int) : (rf f m).lookup ("many" : Str) = some (.int m) := by
  unfold rf
  rw [lookup_putF, if_pos rfl]
theorem rf_no (f m : Int) {x : Str} (h1 : ¬ x = "many") (h2 : ¬ x = "first") : (rf f m).lookup x = none := by
  unfold rf
  rw [lookup_putF, if_neg h1, lookup_putF, if_neg h2]
  all_goals rfl
def RunAt (C : Addr) (H : Hp) (p : Addr) (f m : Int) : Prop := ∃ dx, H p = some (.ins C dx (rf f m))
abbrev Most : Int := 10 ^ 12
/-- what the walk asks of the class and the names -/
structure TR (K : PySem.W.Frag) (mg : Str → Option Value) (C : Addr) (mc : Value) (tM : Tok) : Prop where
  cl : Cls K C
  nF : NoAttr K C "first"
  nM : NoAttr K C "many"
  mgC : mg "Run" = some (.ref C)
  most : mg "_MOST" = some (.int (10 ^ 12) tM)
  isi : mg "isinstance" = none
  int : mg "int" = none
  bool : mg "bool" = none
  range : mg "range" = none
  rd : ClX.CRead K C mc
/-- integer(x): of an int; of a bool; of what is neither -/
def spInteger (K : PySem.W.Frag) : Sp := fun vs H Q _ => ∃ x : V, vs = [x] ∧ ((∃ v, x = .int v ∧ Q (.bl true) H) ∨ (∃ b, x = .bl b ∧ Q (.bl false) H) ∨ ∃ t, TyX K H x t ∧ PySem.W.kitOne K t (.type "int") = some false ∧ Q (.bl false) H)
/-- whole(x, least, most): of an int; of a bool; of what is neither -/
def spWhole (K : PySem.W.Frag) : Sp := fun vs H Q _ => ∃ (x : V) (lo hi : Int), vs = [x, .int lo, .int hi] ∧
  ((∃ v, x = .int v ∧ Q (.bl (decide (lo ≤ v ∧ v ≤ hi))) H) ∨ (∃ b, x = .bl b ∧ Q (.bl false) H) ∨ ∃ t, TyX K H x t ∧ PySem.W.kitOne K t (.type "int") = some false ∧ Q (.bl false) H)
/-- __init__, of numbers within the bounds -/
def spInit (C : Addr) : Sp := fun vs H Q _ => ∃ (p dx : Addr) (f m : Int), vs = [.ref p, .int f, .int m] ∧ H p = some (.ins C dx []) ∧ 0 ≤ f ∧ f ≤ Most ∧ 1 ≤ m ∧ m ≤ Most ∧ Q .non (upd H p (.ins C dx (rf f m)))
def spEnd (C : Addr) : Sp := fun vs H Q _ => ∃ (p : Addr) (f m : Int), vs = [.ref p] ∧ RunAt C H p f m ∧ Q (.int (f + m)) H
structure Def (K : PySem.W.Frag) (mg : Str → Option Value) (x : Str) (f : Addr) (fd : FuncData) (ps : List Str) : Prop where
  at_ : mg x = some (.ref f)
  kp : PySem.W.keepIn K (.ref f) = true
  bd : Binds K fd ps []
section
variable {P : Program} {w : World} {K : PySem.W.Frag} {mg : Str → Option Value} {base : Heap} {C : Addr} {mc : Value} {tM : Tok}
theorem scInteger : FnScope ["value"] ["value"] (defScope sInteger) := ⟨rfl, rfl, rfl, by decide +kernel, rfl, by decide +kernel, by decide +kernel⟩
theorem ok_integer {f : Addr} {fd : FuncData} (F : Fun K "integer" "integer" sInteger f fd) (T : TR K mg C mc tM) : FnOk P w K mg base CX0 1 f fd ["value"] (spInteger K) := by
  refine F.ok scInteger (fun vs H Q E h => ?_) (fun cdv A outer s H vs Q E hr h => ?_)
  · obtain ⟨x, rfl, _⟩ := h
    rfl
  · obtain ⟨x, rfl, h⟩ := h
    refine ⟨_, pss_one (ps_ret (pe_and (pe_callB call_isi (by rfl) T.isi (by decide +kernel) (pa_cons (pv 0) (pa_cons (pe_bltn (v := .ty "int") (by rfl) T.int (by decide +kernel) rfl) pa_nil)))
      (pe_one (pe_not (pe_callB call_isi (by rfl) T.isi (by decide +kernel) (pa_cons (pv 0) (pa_cons (pe_bltn (v := .ty "bool") (by rfl) T.bool (by decide +kernel) rfl) pa_nil))))))), ?_⟩
    rcases h with ⟨v, rfl, q⟩ | ⟨b, rfl, q⟩ | ⟨t, ty, hk, q⟩
    · refine ⟨_, rfl, _, _, .type "int", .type "int", true, rfl, .ty "int", .base (.int v), kit_ty (by decide +kernel), true, rfl, iteT ?_⟩
      exact ⟨_, rfl, _, _, .type "int", .type "bool", false, rfl, .ty "bool", .base (.int v), kit_ty (by decide +kernel), false, rfl, q⟩
    · refine ⟨_, rfl, _, _, .type "bool", .type "int", true, rfl, .ty "int", .base (.bl b), kit_ty (by decide +kernel), true, rfl, iteT ?_⟩
      exact ⟨_, rfl, _, _, .type "bool", .type "bool", true, rfl, .ty "bool", .base (.bl b), kit_ty (by decide +kernel), true, rfl, q⟩
    · exact ⟨_, rfl, _, _, t, .type "int", false, rfl, .ty "int", ty, hk, false, rfl, iteF q⟩
theorem scWhole : FnScope ["value", "least", "most"] ["value", "least", "most"] (defScope sWhole) := ⟨rfl, rfl, rfl, by decide +kernel, rfl, by decide +kernel, by decide +kernel⟩
theorem ok_whole {f fN : Addr} {fd fdN : FuncData} (F : Fun K "whole" "whole" sWhole f fd) (GN : FnOk P w K mg base CX0 1 fN fdN ["value"] (spInteger K)) (DN : Def K mg "integer" fN fdN ["value"]) : FnOk P w K mg base CX0 2 f fd ["value", "least", "most"] (spWhole K) := by
  refine F.ok scWhole (fun vs H Q E h => ?_) (fun cdv A outer s H vs Q E hr h => ?_)
  · obtain ⟨x, lo, hi, rfl, _⟩ := h
    rfl
  · obtain ⟨x, lo, hi, rfl, h⟩ := h
    refine ⟨_, pss_one (ps_ret (pe_and (pe_call GN hr (by rfl) DN.at_ DN.kp DN.bd .nil pass0 (pa_cons (pv 0) pa_nil)) (pe_one (pe_chain op_le op_le (pv 1) (pv 0) (pv 2))))), ?_⟩
    refine ⟨_, rfl, x, rfl, ?_⟩
    rcases h with ⟨v, rfl, q⟩ | ⟨b, rfl, q⟩ | ⟨t, ty, hk, q⟩
    · refine .inl ⟨v, rfl, true, rfl, iteT ?_⟩
      refine ⟨_, rfl, _, rfl, _, _, rfl, rfl, _, rfl, ite2 (fun h1 => ?_) fun h1 => ?_⟩
      · refine ⟨_, rfl, _, _, rfl, rfl, ?_⟩
        have h1' : lo ≤ v := of_decide_eq_true h1
        have e : decide (lo ≤ v ∧ v ≤ hi) = decide (v ≤ hi) := by
          by_cases z : v ≤ hi <;> simp [z, h1']
        rw [e] at q
        exact q
      · have h1' : ¬ lo ≤ v := of_decide_eq_false (by simpa using h1)
        have e : decide (lo ≤ v ∧ v ≤ hi) = false := decide_eq_false fun z => h1' z.1
        rw [e] at q
        exact q
    · exact .inr (.inl ⟨b, rfl, false, rfl, iteF q⟩)
    · exact .inr (.inr ⟨t, ty, hk, false, rfl, iteF q⟩)
theorem scInit : FnScope ["self", "first", "many"] ["self", "first", "many"] (defScope sInit) := ⟨rfl, rfl, rfl, by decide +kernel, rfl, by decide +kernel, by decide +kernel⟩
theorem ok_init {f fW : Addr} {fd fdW : FuncData} (F : Fun K "__init__" "Run.__init__" sInit f fd) (T : TR K mg C mc tM) (GW : FnOk P w K mg base CX0 2 fW fdW ["value", "least", "most"] (spWhole K)) (DW : Def K mg "whole" fW fdW ["value", "least", "most"]) :
    FnOk P w K mg base CX0 3 f fd ["self", "first", "many"] (spInit C) := by
  refine F.ok scInit (fun vs H Q E h => ?_) (fun cdv A outer s H vs Q E hr h => ?_)
  · obtain ⟨p, dx, f, m, rfl, _⟩ := h
    rfl
  · obtain ⟨p, dx, f, m, rfl, hp, f0, f1, m0, m1, k⟩ := h
    refine ⟨_, pss_cons (ps_if (PW.pt (pw_or (pt_not (pt_val (pe_call GW hr (by rfl) DW.at_ DW.kp DW.bd .nil pass0 (pa_cons (pv 1) (pa_cons pe_int (pa_cons (pe_glob (v := .int (10 ^ 12)) rfl T.most ⟨_, rfl⟩) pa_nil))))))
        (pw_or1 (pt_not (pt_val (pe_call GW hr (by rfl) DW.at_ DW.kp DW.bd .nil pass0 (pa_cons (pv 2) (pa_cons pe_int (pa_cons (pe_glob (v := .int (10 ^ 12)) rfl T.most ⟨_, rfl⟩) pa_nil))))))))) (pss_one ps_never) pss_nil)
      (pss_cons (ps_fld (pv 0) (pv 1) rfl) (pss_one (ps_fld (pv 0) (pv 2) rfl))), ?_⟩
    refine ⟨_, rfl, _, _, _, rfl, .inl ⟨_, rfl, _, rfl, ?_⟩⟩
    have e1 : decide (0 ≤ f ∧ f ≤ 10 ^ 12) = true := decide_eq_true ⟨f0, f1⟩
    have e2 : decide (1 ≤ m ∧ m ≤ 10 ^ 12) = true := decide_eq_true ⟨m0, m1⟩
    rw [e1]
    refine iteF ⟨_, rfl, _, _, _, rfl, .inl ⟨_, rfl, _, rfl, ?_⟩⟩
    rw [e2]
    refine iteF ?_
    refine ⟨_, rfl, _, rfl, p, C, dx, [], rfl, hp, T.cl, T.nF, (by show 0 < 1000; decide), _, rfl, _, rfl, p, C, dx, _, rfl, upd_same, T.cl, T.nM, (by show 1 < 1000; decide), ?_⟩
    rw [upd_upd]
    exact k
theorem scEnd : FnScope ["self"] ["self"] (defScope sEnd) := ⟨rfl, rfl, rfl, by decide +kernel, rfl, by decide +kernel, by decide +kernel⟩
theorem ok_end {f : Addr} {fd : FuncData} (F : Fun K "end" "Run.end" sEnd f fd) (T : TR K mg C mc tM) : FnOk P w K mg base CX0 2 f fd ["self"] (spEnd C) := by
  refine F.ok scEnd (fun vs H Q E h => ?_) (fun cdv A outer s H vs Q E hr h => ?_)
  · obtain ⟨p, f, m, rfl, _⟩ := h
    rfl
  · obtain ⟨p, f, m, rfl, ⟨dx, hp⟩, k⟩ := h
    refine ⟨_, pss_one (ps_ret (pe_op op_add (pe_fld (pv 0) rfl) (pe_fld (pv 0) rfl))), ?_⟩
    exact ⟨_, rfl, p, C, dx, _, _, rfl, hp, T.cl, T.nF, rf_f _ _, _, rfl, p, C, dx, _, _, rfl, hp, T.cl, T.nM, rf_m _ _, _, _, rfl, rfl, k⟩
end
end Rt
namespace Rt
open PySem L2
abbrev sBag : Stmt := top 11
abbrev sTake : Stmt := top 12
/-! ### drawn numbers -/
/-- all but b stands as before -/
def Off (b : Addr) (H H' : Hp) : Prop := ∀ c, c ≠ b → H' c = H c
/-- the bag's three numbers; at most N mixed numbers were taken so far -/
def BagAt (H : Hp) (b : Addr) (N : Nat) : Prop := ∃ l x c : Int, H b = some (.lst [.int l, .int x, .int c]) ∧ 0 ≤ l ∧ 0 ≤ x ∧ x < 6 * 10 ^ 18 ∧ 0 ≤ c ∧ c ≤ N
def spTake : Sp := fun vs H Q _ => ∃ (b : Addr) (m : Int) (N : Nat), vs = [.ref b, .int m] ∧ 1 ≤ m ∧ m < 1073741824 ∧ BagAt H b N ∧ N < 1000000 ∧
  ∀ (r : Int) (H' : Hp), 0 ≤ r → r < m → BagAt H' b (N + 1) → Off b H H' → Q (.int r) H'
theorem fmod_in {a m : Int} (h : 1 ≤ m) : 0 ≤ a.fmod m ∧ a.fmod m < m := by
  rw [Int.fmod_eq_emod_of_nonneg a (by omega)]
  exact ⟨Int.emod_nonneg _ (by omega), Int.emod_lt_of_pos _ (by omega)⟩
theorem fdiv_in {a m : Int} (h : 1 ≤ m) (ha : 0 ≤ a) : 0 ≤ a.fdiv m := by
  rw [Int.fdiv_eq_ediv_of_nonneg a (by omega)]
  exact Int.ediv_nonneg ha (by omega)
section
variable {P : Program} {w : World} {K : PySem.W.Frag} {mg : Str → Option Value} {base : Heap}
theorem scTake : FnScope ["_law_bag_here", "_law_many", "_law_digit", "_law_mixed"] ["_law_bag_here", "_law_many"] (defScope sTake) := ⟨rfl, rfl, rfl, by decide +kernel, rfl, by decide +kernel, by decide +kernel⟩
theorem sq_bd {c : Int} (h0 : 0 ≤ c) (h : c ≤ 1000001) : 0 ≤ 8081 * c * c ∧ 8081 * c * c ≤ 8081 * 1000001 * 1000001 := by
  have h1 : 0 ≤ 8081 * c := by omega
  refine ⟨Int.mul_nonneg h1 h0, ?_⟩
  exact Int.mul_le_mul (by omega) h h0 (by decide)
theorem ok_take {f : Addr} {fd : FuncData} (F : Fun K "_law_take" "_law_take" sTake f fd) : FnOk P w K mg base CX0 2 f fd ["_law_bag_here", "_law_many"] spTake := by
  refine F.ok scTake (fun vs H Q E h => ?_) (fun cdv A outer s H vs Q E hr h => ?_)
  · obtain ⟨b, m, N, rfl, _⟩ := h
    rfl
  · obtain ⟨b, m, N, rfl, m1, m2, ⟨l, x, c, hb, l0, x0, x1, c0, cN⟩, hN, k⟩ := h
    refine ⟨_, pss_cons (ps_if (pt_cmpR op_gt (pe_ix ix_list (pv 0) pe_int (fun _ _ => rfl)) pe_int (nomark _))
        (pss_cons (ps_set (i := 2) scTake.nd rfl (Or.inl rfl) (pe_op op_modN (pe_ix ix_list (pv 0) pe_int (fun _ _ => rfl)) (pv 1)))
        (pss_cons (ps_asg (pe_op op_fdivN (pe_ix ix_list (pv 0) pe_int (fun _ _ => rfl)) (pv 1)) (pg_sub (pv 0) pe_int set_list))
        (pss_one (ps_ret (pv 2))))) pss_nil)
      (pss_cons (ps_asg (pe_op op_add (pe_ix ix_list (pv 0) pe_int (fun _ _ => rfl)) pe_int) (pg_sub (pv 0) pe_int set_list))
      (pss_cons (ps_set (i := 3) scTake.nd rfl (Or.inl rfl) (pe_op op_mod (pe_op op_pow (pe_op op_add (pe_ix ix_list (pv 0) pe_int (fun _ _ => rfl))
          (pe_op op_mul (pe_op op_mul pe_int (pe_ix ix_list (pv 0) pe_int (fun _ _ => rfl))) (pe_ix ix_list (pv 0) pe_int (fun _ _ => rfl)))) pe_int) pe_int))
      (pss_one (ps_ret (pe_op op_modN (pe_op op_fdiv (pe_op op_mod (pe_op op_mul (pv 3) (pe_op op_add (pe_op op_fdiv (pv 3) pe_int) (pe_op op_mul pe_int (pe_ix ix_list (pv 0) pe_int (fun _ _ => rfl))))) pe_int) pe_int) (pv 1)))))), ?_⟩
    refine ⟨_, rfl, b, _, _, _, rfl, rfl, SqL.of hb, rfl, _, _, rfl, rfl, _, rfl, ?_⟩
    refine ite2 (fun hl => ?_) (fun hl => ?_)
    · have hl' : 0 < l := of_decide_eq_true hl
      refine ⟨_, rfl, b, _, _, _, rfl, rfl, SqL.of hb, rfl, _, rfl, _, _, rfl, rfl, by omega, ?_⟩
      refine ⟨_, rfl, b, _, _, _, rfl, rfl, SqL.of hb, rfl, _, rfl, _, _, rfl, rfl, ⟨by omega, by omega⟩, _, rfl, b, _, _, 0, rfl, rfl, hb, rfl, ?_⟩
      refine ⟨_, rfl, k _ _ (fmod_in m1).1 (fmod_in m1).2 ⟨_, x, c, upd_same, fdiv_in m1 l0, x0, x1, c0, by omega⟩ fun d hd => upd_ne hd⟩
    · obtain ⟨q0, q1⟩ := sq_bd (c := c + 1) (by omega) (by omega)
      refine ⟨_, rfl, b, _, _, _, rfl, rfl, SqL.of hb, rfl, _, _, rfl, rfl, _, rfl, b, _, _, 2, rfl, rfl, hb, rfl, ?_⟩
      have hb2 : (upd H b (.lst [.int l, .int x, .int (c + 1)])) b = some (.lst [.int l, .int x, .int (c + 1)]) := upd_same
      refine ⟨_, rfl, b, _, _, _, rfl, rfl, SqL.of hb2, rfl, _, rfl, b, _, _, _, rfl, rfl, SqL.of hb2, rfl, _, _, rfl, rfl, .inl ⟨by decide, by decide⟩, _, rfl, b, _, _, _, rfl, rfl, SqL.of hb2, rfl, _, _, rfl, rfl, .inr ⟨by omega, by omega⟩, _, _, rfl, rfl, _, _, rfl, rfl, ⟨by decide, by decide, by omega⟩, _, _, rfl, rfl, (by show (0 : Int) < 2147483563; decide), ?_⟩
      generalize hy : ((x + 8081 * (c + 1) * (c + 1)) ^ ((3 : Int)).toNat) % 2147483563 = y
      have y0 : 0 ≤ y := by rw [← hy]; exact Int.emod_nonneg _ (by decide)
      have y1 : y < 2147483563 := by rw [← hy]; exact Int.emod_lt_of_pos _ (by decide)
      refine ⟨_, rfl, _, rfl, _, _, rfl, rfl, ⟨by decide, by decide⟩, _, rfl, b, _, _, _, rfl, rfl, SqL.of hb2, rfl, _, _, rfl, rfl, .inl ⟨by decide, by decide⟩, _, _, rfl, rfl, _, _, rfl, rfl, .inl ⟨by omega, by omega⟩, _, _, rfl, rfl, (by show (0 : Int) < 2147483549; decide), _, _, rfl, rfl, ⟨by decide, by decide⟩, _, rfl, _, _, rfl, rfl, by omega, ?_⟩
      exact k _ _ (fmod_in m1).1 (fmod_in m1).2 ⟨l, x, c + 1, hb2, l0, x0, x1, by omega, by omega⟩ fun d hd => upd_ne hd
end
/-- what the walk asks of the built-ins -/
structure TB (mg : Str → Option Value) : Prop where
  len : mg "len" = none
  abs : mg "abs" = none
  range : mg "range" = none
  min : mg "min" = none
  max : mg "max" = none
  list : mg "list" = none
  any : mg "any" = none
  str : mg "str" = none
  repr : mg "repr" = none
theorem at_int {xs : List Int} {i : Int} (h0 : 0 ≤ i) (h1 : i < xs.length) : atI (xs.map V.int) i = some (.int (xs.getD i.toNat 0)) := by
  refine at_of (j := i.toNat) (by omega) ?_
  have q : i.toNat < xs.length := by omega
  rw [List.getElem?_map, List.getD_eq_getElem?_getD, List.getElem?_eq_getElem q]
  rfl
theorem eqv_self {d : PyData} (h : SeqAt.shaped d = true) : PyData.eqv d d = true := SeqAt.eqv_refl _ (SeqAt.canLay_of_shaped h)
abbrev g0 (l : List Int) (i : Nat) : Int := l.getD i 0
def dInts (xs : List Int) : PyData := .list (xs.map .int)
theorem canlay_ints : ∀ xs : List Int, PyData.canLayAll0 (xs.map .int) = true
  | [] => rfl
  | x :: xs => by
    rw [List.map_cons, PyData.canLayAll0, canlay_ints xs, PyData.canLay0]
    rfl
theorem depth_ints : ∀ xs : List Int, PyData.depthAll (xs.map .int) = 0
  | [] => rfl
  | x :: xs => by
    rw [List.map_cons, PyData.depthAll, depth_ints xs, PyData.depth]
    rfl
theorem shaped_ints (xs : List Int) : SeqAt.shaped (dInts xs) = true := by
  unfold SeqAt.shaped dInts
  rw [PyData.canLay0, canlay_ints, PyData.depth, depth_ints]
  rfl
theorem dpall_ints {K : PySem.W.Frag} {H : Hp} : ∀ xs : List Int, DpAll K H (xs.map V.int) (xs.map .int)
  | [] => .nil
  | x :: xs => .cons (.int x) (dpall_ints xs)
theorem dp_ints {K : PySem.W.Frag} {H : Hp} {a : Addr} {xs : List Int} (h : SqL K H a (xs.map V.int)) : Dp K H (.ref a) (dInts xs) := .lst h (dpall_ints xs)
theorem eqv_ints (xs : List Int) : PyData.eqv (dInts xs) (dInts xs) = true := eqv_self (shaped_ints xs)
def spBag (K : PySem.W.Frag) : Sp := fun vs H Q _ => ∃ (a : Addr) (ns : List Int) (i : Int), vs = [.ref a, .int i] ∧ SqL K H a (ns.map V.int) ∧ ns.length ≤ 63 ∧ 0 ≤ i ∧ i ≤ 63 ∧
  ∀ (p : Addr) (H' : Hp), H p = none → BagAt H' p 0 → Off p H H' → Q (.ref p) H'
section
variable {P : Program} {w : World} {K : PySem.W.Frag} {mg : Str → Option Value} {base : Heap}
theorem scBag : FnScope ["_law_script", "_law_at", "_law_number", "_law_large"] ["_law_script", "_law_at"] (defScope sBag) := ⟨rfl, rfl, rfl, by decide +kernel, rfl, by decide +kernel, by decide +kernel⟩
theorem ok_bag {f : Addr} {fd : FuncData} (F : Fun K "_law_bag" "_law_bag" sBag f fd) (T : TB mg) : FnOk P w K mg base CX0 2 f fd ["_law_script", "_law_at"] (spBag K) := by
  refine F.ok scBag (fun vs H Q E h => ?_) (fun cdv A outer s H vs Q E hr h => ?_)
  · obtain ⟨a, ns, i, rfl, _⟩ := h
    rfl
  · obtain ⟨a, ns, i, rfl, hS, hl, i0, i1, k⟩ := h
    refine ⟨_, pss_cons (ps_set (i := 2) scBag.nd rfl (Or.inl rfl) (pe_ifExp (pt_cmpR op_lt (pv 1) (pe_callB call_len_seq (by rfl) T.len PySem.boot_len (pa_cons (pv 0) pa_nil)) (nomark _)) (pe_ix ix_list (pv 0) (pv 1) (fun _ _ => rfl)) pe_int))
      (pss_cons (ps_set (i := 3) scBag.nd rfl (Or.inl rfl) (pe_ifExp (pt_cmpR op_ge (pe_callB call_abs (by rfl) T.abs (by decide +kernel) (pa_cons (pv 2) pa_nil)) (pe_op op_pow pe_int pe_int) (nomark _)) (pe_callB call_abs (by rfl) T.abs (by decide +kernel) (pa_cons (pv 2) pa_nil)) pe_int))
      (pss_one (ps_ret (pe_lst (pa_cons (pv 3) (pa_cons (pe_op op_add (pe_op op_add (pe_op op_mul (pe_op op_modN (pv 2) (pe_op op_add (pe_op op_pow pe_int pe_int) pe_int)) pe_int) (pe_op op_mul pe_int (pv 1))) pe_int) (pa_cons pe_int pa_nil))))))), ?_⟩
    refine ⟨_, rfl, _, rfl, a, _, rfl, .inl hS, _, _, rfl, rfl, _, rfl, ?_⟩
    have hw : ∀ z : Int, 0 ≤ z.fmod (10 ^ 18 + 9) * 5 + 7793 * i + 613 ∧ z.fmod (10 ^ 18 + 9) * 5 + 7793 * i + 613 < 6 * 10 ^ 18 := fun z => by
      obtain ⟨q1, q2⟩ := fmod_in (a := z) (m := 10 ^ 18 + 9) (by decide)
      omega
    have ha : ∀ z : Int, 0 ≤ (if z < 0 then -z else z) := fun z => by
      by_cases q : z < 0
      · rw [if_pos q]; omega
      · rw [if_neg q]; omega
    refine ite2 (fun h1 => ?_) (fun h1 => ?_)
    · have h2 : i < ((ns.map V.int).length : Int) := of_decide_eq_true h1
      rw [List.length_map] at h2
      have hn : i.toNat < ns.length := by omega
      refine ⟨_, rfl, _, rfl, a, _, _, .int ns[i.toNat], rfl, rfl, hS, ?_, ?_⟩
      · refine at_of (j := i.toNat) (by omega) ?_
        rw [List.getElem?_map, List.getElem?_eq_getElem hn] <;> rfl
      refine ⟨_, rfl, _, rfl, _, _, rfl, rfl, ⟨by decide, by decide, by decide⟩, _, _, rfl, rfl, _, rfl, ?_⟩
      refine ite2 (fun h3 => ?_) (fun h3 => ?_)
      · refine ⟨_, rfl, _, rfl, ?_⟩
        refine ⟨_, rfl, _, rfl, _, _, rfl, rfl, ⟨by decide, by decide, by decide⟩, _, _, rfl, rfl, _, _, rfl, rfl, (by show (10 ^ Int.toNat 18 + 9 : Int) ≠ 0; decide), _, _, rfl, rfl, .inr ⟨by decide, by decide⟩, _, rfl, _, _, rfl, rfl, .inl ⟨by decide, by decide⟩, _, _, rfl, rfl, _, _, rfl, rfl, (by show 3 ≤ sizeLine; decide), fun p hp => ?_⟩
        exact k p _ hp ⟨_, _, 0, upd_same, ha _, (hw _).1, (hw _).2, Int.le_refl _, Int.le_refl _⟩ fun c hc => upd_ne hc
      · refine ⟨_, rfl, _, rfl, _, _, rfl, rfl, ⟨by decide, by decide, by decide⟩, _, _, rfl, rfl, _, _, rfl, rfl, (by show (10 ^ Int.toNat 18 + 9 : Int) ≠ 0; decide), _, _, rfl, rfl, .inr ⟨by decide, by decide⟩, _, rfl, _, _, rfl, rfl, .inl ⟨by decide, by decide⟩, _, _, rfl, rfl, _, _, rfl, rfl, (by show 3 ≤ sizeLine; decide), fun p hp => ?_⟩
        exact k p _ hp ⟨_, _, 0, upd_same, Int.le_refl _, (hw _).1, (hw _).2, Int.le_refl _, Int.le_refl _⟩ fun c hc => upd_ne hc
    · refine ⟨_, rfl, _, rfl, _, _, rfl, rfl, ⟨by decide, by decide, by decide⟩, _, _, rfl, rfl, _, rfl, ?_⟩
      refine ite2 (fun h3 => ?_) (fun h3 => ?_)
      · refine ⟨_, rfl, _, rfl, ?_⟩
        refine ⟨_, rfl, _, rfl, _, _, rfl, rfl, ⟨by decide, by decide, by decide⟩, _, _, rfl, rfl, _, _, rfl, rfl, (by show (10 ^ Int.toNat 18 + 9 : Int) ≠ 0; decide), _, _, rfl, rfl, .inr ⟨by decide, by decide⟩, _, rfl, _, _, rfl, rfl, .inl ⟨by decide, by decide⟩, _, _, rfl, rfl, _, _, rfl, rfl, (by show 3 ≤ sizeLine; decide), fun p hp => ?_⟩
        exact k p _ hp ⟨_, _, 0, upd_same, ha _, (hw _).1, (hw _).2, Int.le_refl _, Int.le_refl _⟩ fun c hc => upd_ne hc
      · refine ⟨_, rfl, _, rfl, _, _, rfl, rfl, ⟨by decide, by decide, by decide⟩, _, _, rfl, rfl, _, _, rfl, rfl, (by show (10 ^ Int.toNat 18 + 9 : Int) ≠ 0; decide), _, _, rfl, rfl, .inr ⟨by decide, by decide⟩, _, rfl, _, _, rfl, rfl, .inl ⟨by decide, by decide⟩, _, _, rfl, rfl, _, _, rfl, rfl, (by show 3 ≤ sizeLine; decide), fun p hp => ?_⟩
        exact k p _ hp ⟨_, _, 0, upd_same, Int.le_refl _, (hw _).1, (hw _).2, Int.le_refl _, Int.le_refl _⟩ fun c hc => upd_ne hc
end
end Rt
namespace Rt
open PySem L2
theorem put_same {H : Hp} {p : Addr} {o : HO} (h : H p = none) : Same H (upd H p o) := fun b u e => by rw [upd_ne (ne_of_none e h)]; exact e
/-- what was there stands, but for b -/
def OffN (b : Addr) (H H' : Hp) : Prop := ∀ c, H c ≠ none → c ≠ b → H' c = H c
theorem OffN.refl {b : Addr} {H : Hp} : OffN b H H := fun _ _ _ => rfl
theorem OffN.put {b l : Addr} {H H' : Hp} {o : HO} (h : OffN b H H') (hl : H l = none) : OffN b H (upd H' l o) := fun c hc hb => by
  rw [upd_ne (fun z => hc (by rw [z]; exact hl))]
  exact h c hc hb
theorem OffN.step {b : Addr} {H H' H'' : Hp} (h : OffN b H H') (o : Off b H' H'') : OffN b H H'' := fun c hc hb => (o c hb).trans (h c hc hb)
theorem OffN.same {b : Addr} {H H' : Hp} (h : OffN b H H') {c : Addr} {o : HO} (e : H c = some o) (hb : c ≠ b) : H' c = some o := (h c (by rw [e]; simp) hb).trans e
theorem OffN.free {b : Addr} {H H' : Hp} (h : OffN b H H') {c : Addr} (e : H' c = none) (hb : c ≠ b) : H c = none := by
  cases z : H c with
  | none => rfl
  | some o => rw [h.same z hb] at e; cases e
def PairsAt (H : Hp) (ts : List Addr) (rs : List (Int × Int)) : Prop := Paired (fun (t : Addr) (r : Int × Int) => H t = some (.tup [.int r.1, .int r.2])) ts rs
theorem at4 {x0 x1 x2 x3 : Int} {r : Int} (h0 : 0 ≤ r) (h1 : r < 4) : ∃ z, atI [V.int x0, V.int x1, V.int x2, V.int x3] r = some (V.int z) ∧ (z = x0 ∨ z = x1 ∨ z = x2 ∨ z = x3) := by
  rcases (show r = 0 ∨ r = 1 ∨ r = 2 ∨ r = 3 by omega) with q | q | q | q <;> rw [q]
  · exact ⟨x0, rfl, .inl rfl⟩
  · exact ⟨x1, rfl, .inr (.inl rfl)⟩
  · exact ⟨x2, rfl, .inr (.inr (.inl rfl))⟩
  · exact ⟨x3, rfl, .inr (.inr (.inr rfl))⟩
theorem BagAt.le {H : Hp} {b : Addr} {N M : Nat} (h : BagAt H b N) (hn : N ≤ M) : BagAt H b M := by
  obtain ⟨l, x, c, e, a1, a2, a3, a4, a5⟩ := h
  exact ⟨l, x, c, e, a1, a2, a3, a4, by omega⟩
theorem BagAt.put {H : Hp} {b l : Addr} {N : Nat} {o : HO} (h : BagAt H b N) (hl : b ≠ l) : BagAt (upd H l o) b N := by
  obtain ⟨l', x, c, e, r⟩ := h
  exact ⟨l', x, c, by rw [upd_ne hl]; exact e, r⟩
theorem BagAt.ne {H : Hp} {b l : Addr} {N : Nat} (h : BagAt H b N) (hl : H l = none) : b ≠ l := fun z => by
  obtain ⟨_, _, _, e, _⟩ := h
  rw [z, hl] at e
  cases e
theorem BagAt.sameN {H H' : Hp} {b : Addr} {N : Nat} (h : BagAt H b N) (k : Same H H') : BagAt H' b N := by
  obtain ⟨l, x, c, e, r⟩ := h
  exact ⟨l, x, c, k _ _ e, r⟩
theorem offN_same {b : Addr} {H H' : Hp} (k : Same H H') : OffN b H H' := fun c hc _ => by
  cases h : H c with
  | none => exact absurd h hc
  | some o => exact k _ _ h
theorem offN_of {b : Addr} {H H' : Hp} (k : Off b H H') : OffN b H H' := fun c _ hb => k c hb
theorem offN_put {b l : Addr} {H : Hp} {o : HO} (h : H l = none) : OffN b H (upd H l o) := offN_same (put_same h)
theorem OffN.trans {b : Addr} {H H' H'' : Hp} (h : OffN b H H') (k : OffN b H' H'') : OffN b H H'' := fun c hc hb => (k c (by rw [h c hc hb]; exact hc) hb).trans (h c hc hb)
end Rt
namespace Rt
open PySem L2
/-- the text of a run -/
def txt (f m : Int) : Str := Str.empty ++ "Run(" ++ (toString f : String) ++ ", " ++ (toString m : String) ++ ")"
/-- a run with its text -/
def RTxt (C : Addr) (a : Addr) (t : Str) (H : Hp) : Prop := ∃ f m, RunAt C H a f m ∧ 0 ≤ f ∧ f < 10 ^ 13 ∧ 0 ≤ m ∧ m < 10 ^ 13 ∧ t = txt f m
theorem rtxt_mon {C : Addr} : ∀ a t H H', Ext H H' → RTxt C a t H → RTxt C a t H' := fun a t H H' e ⟨f, m, ⟨d, h⟩, r⟩ => ⟨f, m, ⟨d, e _ _ h⟩, r⟩
theorem log_lt {i : Int} (h0 : 0 ≤ i) (h : i < 10 ^ 13) : i.natAbs.log2 < 1920 := by
  by_cases z : i.natAbs = 0
  · rw [z]
    decide
  · have h1 : i.natAbs < 2 ^ 44 := by omega
    have := (Nat.log2_lt z).mpr h1
    omega
theorem len_int {i : Int} (h0 : 0 ≤ i) (h : i < 10 ^ 13) : (Str.ofString (toString i)).length ≤ 13 := PyProof.Rows.toString_length_le h0 (by decide) h
section
variable {P : Program} {w : World} {K : PySem.W.Frag} {mg : Str → Option Value} {base : Heap} {C : Addr} {mc : Value} {tM : Tok}
theorem scRepr : FnScope ["self"] ["self"] (defScope sRepr) := ⟨rfl, rfl, rfl, by decide +kernel, rfl, by decide +kernel, by decide +kernel⟩
theorem ok_repr {f : Addr} {fd : FuncData} (F : Fun K "__repr__" "Run.__repr__" sRepr f fd) (T : TR K mg C mc tM) : FnOk P w K mg base CX0 2 f fd ["self"] (Rp.spRepr (RTxt C)) := by
  refine F.ok scRepr (fun vs H Q E h => ?_) (fun cdv A outer s H vs Q E hr h => ?_)
  · obtain ⟨a, t, rfl, _⟩ := h
    rfl
  · obtain ⟨a, t, rfl, ⟨f, m, ⟨dx, ha⟩, f0, f1, m0, m1, rfl⟩, k⟩ := h
    refine ⟨_, pss_one (ps_ret (pe_joined (.cons pe_str (.cons (pe_fmt (pe_fld (pv 0) rfl)) (.cons pe_str (.cons (pe_fmt (pe_fld (pv 0) rfl)) (.cons pe_str .nil))))))), ?_⟩
    have lf := len_int f0 f1
    have lm := len_int m0 m1
    have small : ∀ {n : Nat}, n ≤ 100 → n ≤ sizeLine := fun h => Nat.le_trans h (by decide)
    have n1 : ((Str.empty ++ "Run(" : Str)).length = 4 := by decide +kernel
    have n2 : ((", " : String) : Str).length = 2 := by decide +kernel
    have n3 : ((")" : String) : Str).length = 1 := by decide +kernel
    refine ⟨_, rfl, small (by rw [n1]; omega), ?_⟩
    refine ⟨_, rfl, a, C, dx, _, _, rfl, ha, T.cl, T.nF, rf_f _ _, .inr ⟨f, rfl, log_lt f0 f1, _, rfl, small ?_, ?_⟩⟩
    · rw [strLen_append, n1]; omega
    refine ⟨_, rfl, small ?_, ?_⟩
    · rw [strLen_append, strLen_append, n1, n2]; omega
    refine ⟨_, rfl, a, C, dx, _, _, rfl, ha, T.cl, T.nM, rf_m _ _, .inr ⟨m, rfl, log_lt m0 m1, _, rfl, small ?_, ?_⟩⟩
    · rw [strLen_append, strLen_append, strLen_append, n1, n2]; omega
    refine ⟨_, rfl, small ?_, ?_⟩
    · rw [strLen_append, strLen_append, strLen_append, strLen_append, n1, n2, n3]; omega
    exact k H Ext.rfl'
end
end Rt
namespace Rt
open PySem L2
/-- what isinstance asks of the class -/
structure IsR (K : PySem.W.Frag) (C : Addr) : Prop where
  ha : PySem.W.findIn K (.ref C) "__class__" = some (some (.builtin "object.__class__"))
  hn : PySem.W.specialIn K (.builtin "object.__class__") "__get__" = some (some (.builtin "getset_descriptor.__get__"))
  htk : PySem.W.takesIn K (.builtin "object.__class__") = some true
  hm : PySem.W.mroIn K C (.type "object") = some true
theorem kit_self {K : PySem.W.Frag} {C : Addr} : PySem.W.kitOne K (.ref C) (.ref C) = some true := by
  unfold PySem.W.kitOne
  rw [if_pos (by simp)]
/-- a run beside anything -/
def spEqA (K : PySem.W.Frag) (C : Addr) : Sp := fun vs H Q _ => ∃ (a : Addr) (f m : Int) (y : V), vs = [.ref a, y] ∧ RunAt C H a f m ∧
  ((∃ (b : Addr) (g n : Int), y = .ref b ∧ RunAt C H b g n ∧ Q (.bl (decide (f = g ∧ m = n))) H) ∨ ∃ t, TyX K H y t ∧ PySem.W.kitOne K t (.ref C) = some false ∧ Q (.bl false) H)
def spIn (K : PySem.W.Frag) (C : Addr) : Sp := fun vs H Q _ => ∃ (a : Addr) (f m : Int) (x : V), vs = [.ref a, x] ∧ RunAt C H a f m ∧
  ((∃ v, x = .int v ∧ Q (.bl (decide (f ≤ v ∧ v ≤ f + m - 1))) H) ∨ (∃ b, x = .bl b ∧ Q (.bl false) H) ∨ ∃ t, TyX K H x t ∧ PySem.W.kitOne K t (.type "int") = some false ∧ Q (.bl false) H)
def spLen (C : Addr) : Sp := fun vs H Q _ => ∃ (a : Addr) (f m : Int), vs = [.ref a] ∧ RunAt C H a f m ∧ 0 ≤ m ∧ m < 2 ^ 62 ∧ Q (.int m) H
abbrev lo (f g : Int) : Int := if g > f then g else f
abbrev hi (e h : Int) : Int := if h < e then h else e
def spAnd (C : Addr) : Sp := fun vs H Q _ => ∃ (a b : Addr) (f m g n : Int), vs = [.ref a, .ref b] ∧ RunAt C H a f m ∧ RunAt C H b g n ∧ 0 ≤ f ∧ f ≤ Most ∧ m ≤ Most ∧ 0 ≤ g ∧ g ≤ Most ∧ n ≤ Most ∧
  (lo f g < hi (f + m) (g + n) → ∀ p dx, H p = none → H dx = none → dx ≠ p → Q (.ref p) (upd (upd H dx (.own p)) p (.ins C dx (rf (lo f g) (hi (f + m) (g + n) - lo f g))))) ∧ (¬ lo f g < hi (f + m) (g + n) → Q .non H)
section
variable {P : Program} {w : World} {K : PySem.W.Frag} {mg : Str → Option Value} {base : Heap} {C : Addr} {mc : Value} {tM : Tok}
theorem scEq : FnScope ["self", "other"] ["self", "other"] (defScope sEq) := ⟨rfl, rfl, rfl, by decide +kernel, rfl, by decide +kernel, by decide +kernel⟩
theorem ok_eq {f : Addr} {fd : FuncData} (F : Fun K "__eq__" "Run.__eq__" sEq f fd) (T : TR K mg C mc tM) (Z : IsR K C) : FnOk P w K mg base CX0 2 f fd ["self", "other"] (spEqA K C) := by
  refine F.ok scEq (fun vs H Q E h => ?_) (fun cdv A outer s H vs Q E hr h => ?_)
  · obtain ⟨a, f, m, y, rfl, _⟩ := h
    rfl
  · obtain ⟨a, f, m, y, rfl, ⟨dx, ha⟩, k⟩ := h
    refine ⟨_, pss_one (ps_ret (pe_and (pe_callB call_isi (by rfl) T.isi (by decide +kernel) (pa_cons (pv 1) (pa_cons (pe_glob (v := .ref C) rfl T.mgC rfl) pa_nil)))
      (pe_and (pe_cmpR op_eq (pe_fld (pv 0) rfl) (pe_fld (pv 1) rfl) (nomark _)) (pe_one (pe_cmpR op_eq (pe_fld (pv 0) rfl) (pe_fld (pv 1) rfl) (nomark _)))))), ?_⟩
    rcases k with ⟨b, g, n, rfl, ⟨dy, hb⟩, k⟩ | ⟨t, ty, hk, k⟩
    · refine ⟨_, rfl, _, _, .ref C, .ref C, true, rfl, .own C, .base (.ins hb T.cl Z.ha Z.hn Z.htk Z.hm), kit_self, true, rfl, iteT ?_⟩
      refine ⟨_, rfl, a, C, dx, _, _, rfl, ha, T.cl, T.nF, rf_f _ _, _, rfl, b, C, dy, _, _, rfl, hb, T.cl, T.nF, rf_f _ _, rfl, _, rfl, ?_⟩
      by_cases hfg : f = g
      · subst hfg
        rw [show decide (V.int f = V.int f) = true from decide_eq_true rfl]
        refine iteT ⟨_, rfl, a, C, dx, _, _, rfl, ha, T.cl, T.nM, rf_m _ _, _, rfl, b, C, dy, _, _, rfl, hb, T.cl, T.nM, rf_m _ _, rfl, ?_⟩
        have e : decide (f = f ∧ m = n) = decide (V.int m = V.int n) := by
          by_cases z : m = n
          · rw [z]; simp
          · rw [decide_eq_false (fun q => z q.2), decide_eq_false (fun q => z (by cases q; rfl))]
        rw [e] at k
        exact k
      · rw [show decide (V.int f = V.int g) = false from decide_eq_false (fun q => hfg (by cases q; rfl))]
        refine iteF ?_
        rw [show decide (f = g ∧ m = n) = false from decide_eq_false (fun q => hfg q.1)] at k
        exact k
    · refine ⟨_, rfl, _, _, t, .ref C, false, rfl, .own C, ty, hk, false, rfl, iteF ?_⟩
      exact k
theorem scContains : FnScope ["self", "x"] ["self", "x"] (defScope sContains) := ⟨rfl, rfl, rfl, by decide +kernel, rfl, by decide +kernel, by decide +kernel⟩
theorem ok_in {f fW fE pp : Addr} {fd fdW fdE : FuncData} (F : Fun K "__contains__" "Run.__contains__" sContains f fd) (T : TR K mg C mc tM) (GW : FnOk P w K mg base CX0 2 fW fdW ["value", "least", "most"] (spWhole K)) (DW : Def K mg "whole" fW fdW ["value", "least", "most"])
    (GE : FnOk P w K mg base CX0 2 fE fdE ["self"] (spEnd C)) (bE : Binds K fdE ["self"] []) (pE : PropOf K C "end" pp fE) : FnOk P w K mg base CX0 4 f fd ["self", "x"] (spIn K C) := by
  refine F.ok scContains (fun vs H Q E h => ?_) (fun cdv A outer s H vs Q E hr h => ?_)
  · obtain ⟨a, f, m, y, rfl, _⟩ := h
    rfl
  · obtain ⟨a, f, m, x, rfl, ⟨dx, ha⟩, k⟩ := h
    refine ⟨_, pss_one (ps_ret (pe_call GW (hr.mono (by decide)) (by rfl) DW.at_ DW.kp DW.bd .nil pass0 (pa_cons (pv 1) (pa_cons (pe_fld (pv 0) rfl) (pa_cons (pe_op op_sub (pe_prop (pv 0) T.cl pE GE hr bE .nil pass0 rfl) pe_int) pa_nil))))), ?_⟩
    refine ⟨_, rfl, _, rfl, a, C, dx, _, _, rfl, ha, T.cl, T.nF, rf_f _ _, _, rfl, a, dx, _, rfl, ha, a, f, m, rfl, ⟨dx, ha⟩, _, _, rfl, rfl, x, f, f + m - 1, rfl, ?_⟩
    exact k
theorem scLen : FnScope ["self"] ["self"] (defScope sLen) := ⟨rfl, rfl, rfl, by decide +kernel, rfl, by decide +kernel, by decide +kernel⟩
theorem ok_len {f : Addr} {fd : FuncData} (F : Fun K "__len__" "Run.__len__" sLen f fd) (T : TR K mg C mc tM) (hlen : mg "len" = none) : FnOk P w K mg base CX0 2 f fd ["self"] (spLen C) := by
  refine F.ok scLen (fun vs H Q E h => ?_) (fun cdv A outer s H vs Q E hr h => ?_)
  · obtain ⟨a, f, m, rfl, _⟩ := h
    rfl
  · obtain ⟨a, f, m, rfl, ⟨dx, ha⟩, m0, m1, k⟩ := h
    refine ⟨_, pss_one (ps_ret (Lr.pe_lenRg (by rfl) hlen (prg_1 (by rfl) T.range (pe_fld (pv 0) rfl)))), ?_⟩
    refine ⟨_, rfl, a, C, dx, _, _, rfl, ha, T.cl, T.nM, rf_m _ _, m, rfl, by omega, by omega, ?_⟩
    rw [Int.sub_zero]
    exact k
theorem scAnd : FnScope ["self", "other", "first", "end"] ["self", "other"] (defScope sAnd) := ⟨rfl, rfl, rfl, by decide +kernel, rfl, by decide +kernel, by decide +kernel⟩
theorem ok_and {f fI fE pp : Addr} {fd fdI fdE : FuncData} (F : Fun K "__and__" "Run.__and__" sAnd f fd) (T : TR K mg C mc tM) (hmax : mg "max" = none) (hmin : mg "min" = none) (M : Mk K C fI) (GI : FnOk P w K mg base CX0 3 fI fdI ["self", "first", "many"] (spInit C)) (bI : Binds K fdI ["self", "first", "many"] [])
    (GE : FnOk P w K mg base CX0 2 fE fdE ["self"] (spEnd C)) (bE : Binds K fdE ["self"] []) (pE : PropOf K C "end" pp fE) : FnOk P w K mg base CX0 5 f fd ["self", "other"] (spAnd C) := by
  refine F.ok scAnd (fun vs H Q E h => ?_) (fun cdv A outer s H vs Q E hr h => ?_)
  · obtain ⟨a, b, f, m, g, n, rfl, _⟩ := h
    rfl
  · obtain ⟨a, b, f, m, g, n, rfl, ⟨dx, ha⟩, ⟨dy, hb⟩, f0, f1, m1, g0, g1, n1, k1, k2⟩ := h
    have hr1 : Room 3 _ := hr.mono (by decide)
    refine ⟨_, pss_cons (ps_set (i := 2) scAnd.nd rfl (Or.inl rfl) (pe_callB (call_max2 rfl) (by rfl) hmax (by decide +kernel) (pa_cons (pe_fld (pv 0) rfl) (pa_cons (pe_fld (pv 1) rfl) pa_nil))))
      (pss_cons (ps_set (i := 3) scAnd.nd rfl (Or.inl rfl) (pe_callB (call_min2 rfl) (by rfl) hmin (by decide +kernel) (pa_cons (pe_prop (pv 0) T.cl pE GE hr1 bE .nil pass0 rfl) (pa_cons (pe_prop (pv 1) T.cl pE GE hr1 bE .nil pass0 rfl) pa_nil))))
      (pss_cons (ps_if (pt_cmpR op_lt (pv 2) (pv 3) (nomark _)) (pss_one (ps_ret (pe_make M GI hr (by rfl) T.mgC bI .nil pass0 (pa_cons (pv 2) (pa_cons (pe_op op_sub (pv 3) (pv 2)) pa_nil))))) pss_nil)
      (pss_one (ps_ret pe_non)))), ?_⟩
    refine ⟨_, rfl, a, C, dx, _, _, rfl, ha, T.cl, T.nF, rf_f _ _, _, rfl, b, C, dy, _, _, rfl, hb, T.cl, T.nF, rf_f _ _, _, _, rfl, ?_⟩
    refine ⟨_, rfl, a, dx, _, rfl, ha, a, f, m, rfl, ⟨dx, ha⟩, _, rfl, b, dy, _, rfl, hb, b, g, n, rfl, ⟨dy, hb⟩, _, _, rfl, ?_⟩
    refine ⟨_, rfl, _, rfl, _, _, rfl, rfl, _, rfl, ?_⟩
    refine ite2 (fun h1 => ?_) (fun h1 => ?_)
    · have h2 : lo f g < hi (f + m) (g + n) := of_decide_eq_true h1
      refine ⟨_, rfl, _, rfl, _, rfl, _, _, rfl, rfl, fun p dp hp hdp ne => ?_⟩
      have bb : 0 ≤ lo f g ∧ lo f g ≤ Most ∧ 1 ≤ hi (f + m) (g + n) - lo f g ∧ hi (f + m) (g + n) - lo f g ≤ Most := by
        by_cases q1 : g > f <;> by_cases q2 : g + n < f + m <;> simp only [lo, hi, q1, q2, if_true, if_false] at h2 ⊢ <;> omega
      refine ⟨p, dp, _, _, rfl, upd_same, bb.1, bb.2.1, bb.2.2.1, bb.2.2.2, rfl, ?_⟩
      rw [upd_upd]
      exact k1 h2 p dp hp hdp ne
    · have h2 : ¬ lo f g < hi (f + m) (g + n) := of_decide_eq_false (by simpa using h1)
      exact k2 h2
/-- words(): its first -/
def spFirst (C : Addr) : G1.Sp1 := fun vs H Q => ∃ (p : Addr) (f m : Int), vs = [.ref p] ∧ RunAt C H p f m ∧ 0 ≤ f ∧ f ≤ 2 ^ 60 ∧ 1 ≤ m ∧ m ≤ 2 ^ 60 ∧ Q (.int f) H
theorem scWords : GScope ["self", "word"] ["self"] (defScope sWords) := ⟨rfl, rfl, rfl, by decide +kernel, rfl, by decide +kernel, by decide +kernel⟩
theorem ok_first {f fE pp : Addr} {fd fdE : FuncData} (F : Fun K "words" "Run.words" sWords f fd) (T : TR K mg C mc tM) (GE : FnOk P w K mg base CX0 2 fE fdE ["self"] (spEnd C)) (bE : Binds K fdE ["self"] []) (pE : PropOf K C "end" pp fE) : G1.GF1 P w K mg base 4 f fd ["self"] (spFirst C) := by
  obtain ⟨oc, od, kV, doc, pm, an, cdv, ct, osl, rfl, lk, hcd⟩ := F.ex
  refine G1.gf1_of (N := ["self", "word"]) lk hcd scWords (fun vs H Q h => ?_) (fun A outer s H vs Q hr h => ?_)
  · obtain ⟨p, f, m, rfl, _⟩ := h
    rfl
  · obtain ⟨p, f, m, rfl, ⟨dx, hp⟩, f0, f1, m0, m1, k⟩ := h
    refine ⟨_, _, _, pi_range2 (by rfl) T.range (pa_cons (pe_fld (pv 0) rfl) (pa_cons (pe_prop (pv 0) T.cl pE GE (hr.mono (by decide)) bE .nil pass0 rfl) pa_nil)), pg_name (i := 1) scWords.nd rfl (Or.inl rfl), pv 1, ?_⟩
    refine ⟨_, rfl, p, C, dx, _, _, rfl, hp, T.cl, T.nF, rf_f _ _, _, rfl, p, dx, _, rfl, hp, p, f, m, rfl, ⟨dx, hp⟩, ?_⟩
    refine ⟨f, f + m, rfl, ⟨by omega, by omega, by omega, by omega⟩, (by show 0 < (f + m - f).toNat; omega), fun x H' y => ?_⟩
    obtain ⟨rfl, rfl⟩ := y
    refine ⟨_, rfl, ?_⟩
    rw [show (f + ((0 : Nat) : Int)) = f by omega]
    exact k
end
end Rt
namespace Rt
open PySem L2
abbrev sLPair : Stmt := top 13
abbrev sLCommon : Stmt := top 14
abbrev sLShown : Stmt := top 15
abbrev sLMember : Stmt := top 16
abbrev sLBegin : Stmt := top 17
/-- the runs that the law makes -/
structure Gd (f m : Int) : Prop where
  f0 : 0 ≤ f
  f1 : f ≤ 10 ^ 12 - 20
  m0 : 1 ≤ m
  m1 : m ≤ 30
def TupAt (H : Hp) (t : Addr) (f m : Int) : Prop := H t = some (.tup [.int f, .int m])
def spLPair : Sp := fun vs H Q _ => ∃ (b : Addr) (N : Nat), vs = [.ref b] ∧ BagAt H b N ∧ N < 900000 ∧
  ∀ (l t u : Addr) (f m g n : Int) (H' : Hp), H' l = some (.lst [.ref t, .ref u]) → TupAt H' t f m → TupAt H' u g n → Gd f m → Gd g n → BagAt H' b (N + 12) → OffN b H H' → Q (.ref l) H'
def spLCommon : Sp := fun vs H Q _ => ∃ (t u : Addr) (f m g n : Int), vs = [.ref t, .ref u] ∧ TupAt H t f m ∧ TupAt H u g n ∧
  (lo f g < hi (f + m) (g + n) → ∀ q, H q = none → Q (.ref q) (upd H q (.tup [.int (lo f g), .int (hi (f + m) (g + n) - lo f g)]))) ∧ (¬ lo f g < hi (f + m) (g + n) → Q .non H)
def spLShown (C : Addr) : Sp := fun vs H Q _ => ∃ x, vs = [x] ∧ ((x = .non ∧ Q .non H) ∨ ∃ (p : Addr) (f m : Int), x = .ref p ∧ RunAt C H p f m ∧ ∀ q, H q = none → Q (.ref q) (upd H q (.tup [.int f, .int m])))
def spLMember (K : PySem.W.Frag) : Sp := fun vs H Q _ => ∃ (t : Addr) (f m : Int) (x : V), vs = [.ref t, x] ∧ TupAt H t f m ∧
  ((∃ v, x = .int v ∧ Q (.bl (decide (f ≤ v ∧ v < f + m))) H) ∨ (∃ b, x = .bl b ∧ Q (.bl false) H) ∨ ∃ t, TyX K H x t ∧ PySem.W.kitOne K t (.type "int") = some false ∧ Q (.bl false) H)
def spLBegin (C : Addr) : Sp := fun vs H Q _ => ∃ (p : Addr) (f m : Int), vs = [.ref p] ∧ RunAt C H p f m ∧ 0 ≤ f ∧ f ≤ 2 ^ 60 ∧ 1 ≤ m ∧ m ≤ 2 ^ 60 ∧ Q (.int f) H
section
variable {P : Program} {w : World} {K : PySem.W.Frag} {mg : Str → Option Value} {base : Heap} {C : Addr} {mc : Value} {tM : Tok}
theorem scLPair : FnScope ["_law_bag_here", "_law_base", "_law_many", "_law_other", "_law_size", "_law_way"] ["_law_bag_here"] (defScope sLPair) := ⟨rfl, rfl, rfl, by decide +kernel, rfl, by decide +kernel, by decide +kernel⟩
theorem ok_lpair {f fT : Addr} {fd fdT : FuncData} (F : Fun K "_law_pair" "_law_pair" sLPair f fd) (B : TB mg) (FT : Fun K "_law_take" "_law_take" sTake fT fdT) (DT : Def K mg "_law_take" fT fdT ["_law_bag_here", "_law_many"]) : FnOk P w K mg base CX0 3 f fd ["_law_bag_here"] spLPair := by
  have GT : FnOk P w K mg base CX0 2 fT fdT ["_law_bag_here", "_law_many"] spTake := ok_take FT
  refine F.ok scLPair (fun vs H Q E h => ?_) (fun cdv A outer s H vs Q E hr h => ?_)
  · obtain ⟨b, N, rfl, _⟩ := h
    rfl
  · obtain ⟨b, N, rfl, hb, hN, k⟩ := h
    refine ⟨_, pss_cons (ps_set (i := 1) scLPair.nd rfl (Or.inl rfl) (pe_op op_add (pe_ix ix_list (pe_lst (pa_cons pe_int (pa_cons pe_int (pa_cons (pe_op op_pow pe_int pe_int) (pa_cons (pe_op op_sub (pe_op op_pow pe_int pe_int) pe_int) pa_nil))))) (pe_call GT hr (by rfl) DT.at_ DT.kp DT.bd .nil pass0 (pa_cons (pv 0) (pa_cons pe_int pa_nil))) (fun _ _ => rfl)) (pe_call GT hr (by rfl) DT.at_ DT.kp DT.bd .nil pass0 (pa_cons (pv 0) (pa_cons pe_int pa_nil)))))
      (pss_cons (ps_set (i := 2) scLPair.nd rfl (Or.inl rfl) (pe_op op_add pe_int (pe_call GT hr (by rfl) DT.at_ DT.kp DT.bd .nil pass0 (pa_cons (pv 0) (pa_cons pe_int pa_nil)))))
      (pss_cons (ps_par (i := 3) (j := 4) rfl scLPair.nd rfl rfl (by decide) rfl rfl (pa_cons (pv 1) (pa_cons (pv 2) pa_nil)) rfl)
      (pss_cons (ps_set (i := 5) scLPair.nd rfl (Or.inl rfl) (pe_call GT hr (by rfl) DT.at_ DT.kp DT.bd .nil pass0 (pa_cons (pv 0) (pa_cons pe_int pa_nil))))
      (C8.pss_cut (ps_if (pt_cmpR op_eq (pv 5) pe_int (nomark _)) (pss_one (ps_set (i := 3) scLPair.nd rfl (Or.inl rfl) (pe_op op_add (pe_op op_add (pv 1) pe_int) (pe_call GT hr (by rfl) DT.at_ DT.kp DT.bd .nil pass0 (pa_cons (pv 0) (pa_cons pe_int pa_nil))))))
        (pss_one (ps_if (pt_cmpR op_eq (pv 5) pe_int (nomark _)) (pss_one (ps_set (i := 4) scLPair.nd rfl (Or.inl rfl) (pe_op op_add (pv 2) pe_int)))
        (pss_one (ps_if (pt_cmpR op_eq (pv 5) pe_int (nomark _)) (pss_one (ps_set (i := 3) scLPair.nd rfl (Or.inl rfl) (pe_op op_add (pv 1) (pv 2))))
        (pss_one (ps_if (pt_cmpR op_eq (pv 5) pe_int (nomark _)) (pss_one (ps_par (i := 3) (j := 4) rfl scLPair.nd rfl rfl (by decide) rfl rfl (pa_cons (pe_op op_add (pv 1) (pe_call GT hr (by rfl) DT.at_ DT.kp DT.bd .nil pass0 (pa_cons (pv 0) (pa_cons (pv 2) pa_nil)))) (pa_cons pe_int pa_nil)) rfl))
        (pss_one (ps_if (pt_cmpR op_eq (pv 5) pe_int (nomark _)) (pss_one (ps_par (i := 3) (j := 4) rfl scLPair.nd rfl rfl (by decide) rfl rfl (pa_cons (pe_callB (call_max2 rfl) (by rfl) B.max (by decide +kernel) (pa_cons pe_int (pa_cons (pe_op op_sub (pv 1) (pe_call GT hr (by rfl) DT.at_ DT.kp DT.bd .nil pass0 (pa_cons (pv 0) (pa_cons pe_int pa_nil)))) pa_nil))) (pa_cons (pe_op op_add (pv 2) (pe_call GT hr (by rfl) DT.at_ DT.kp DT.bd .nil pass0 (pa_cons (pv 0) (pa_cons pe_int pa_nil)))) pa_nil)) rfl))
        (pss_one (ps_if (pt_cmpR op_eq (pv 5) pe_int (nomark _)) (pss_one (ps_par (i := 3) (j := 4) rfl scLPair.nd rfl rfl (by decide) rfl rfl (pa_cons (pe_call GT hr (by rfl) DT.at_ DT.kp DT.bd .nil pass0 (pa_cons (pv 0) (pa_cons pe_int pa_nil))) (pa_cons (pe_op op_add pe_int (pe_call GT hr (by rfl) DT.at_ DT.kp DT.bd .nil pass0 (pa_cons (pv 0) (pa_cons pe_int pa_nil)))) pa_nil)) rfl)) pss_nil)))))))))))
      (pss_one (ps_ret (pe_ifExp (pt_cmpR op_eq (pe_call GT hr (by rfl) DT.at_ DT.kp DT.bd .nil pass0 (pa_cons (pv 0) (pa_cons pe_int pa_nil))) pe_int (nomark _)) (pe_lst (pa_cons (pe_tup (pa_cons (pv 1) (pa_cons (pv 2) pa_nil))) (pa_cons (pe_tup (pa_cons (pv 3) (pa_cons (pv 4) pa_nil))) pa_nil))) (pe_lst (pa_cons (pe_tup (pa_cons (pv 3) (pa_cons (pv 4) pa_nil))) (pa_cons (pe_tup (pa_cons (pv 1) (pa_cons (pv 2) pa_nil))) pa_nil)))))))))), ?_⟩
    refine ⟨_, _, rfl, rfl, ⟨by decide, by decide, by decide⟩, _, _, rfl, rfl, ⟨by decide, by decide, by decide⟩, _, _, rfl, rfl, (by show 4 ≤ sizeLine; decide), fun l hl => ?_⟩
    have bl : b ≠ l := hb.ne hl
    refine ⟨_, rfl, b, 4, N, rfl, by decide, by decide, hb.put bl, by omega, fun r0 H1 r00 r01 b1 o1 => ?_⟩
    have h1l := (o1 l bl.symm).trans upd_same
    obtain ⟨z, hz, hz2⟩ := at4 (x0 := 0) (x1 := 5) (x2 := 10 ^ Int.toNat 6) (x3 := 10 ^ Int.toNat 12 - 40) r00 r01
    have f1 : OffN b H H1 := (OffN.refl.put hl).step o1
    refine ⟨l, _, r0, _, rfl, rfl, SqL.of h1l, hz, ?_⟩
    have zb : 0 ≤ z ∧ z ≤ 10 ^ 12 - 40 := by
      rcases hz2 with q | q | q | q <;> rw [q] <;> decide
    refine ⟨_, rfl, b, 12, _, rfl, by decide, by decide, b1, by omega, fun r1 H2 r10 r11 b2 o2 => ⟨_, _, rfl, rfl, ?_⟩⟩
    refine ⟨_, rfl, b, 9, _, rfl, by decide, by decide, b2, by omega, fun r2 H3 r20 r21 b3 o3 => ⟨_, _, rfl, rfl, ?_⟩⟩
    refine ⟨_, rfl, _, rfl, _, _, rfl, ?_⟩
    refine ⟨_, rfl, b, 7, _, rfl, by decide, by decide, b3, by omega, fun wy H4 w0 w1 b4 o4 => ?_⟩
    have f4 : OffN b H H4 := ((f1.step o2).step o3).step o4
    have gd1 : Gd (z + r1) (1 + r2) := ⟨by omega, by omega, by omega, by omega⟩
    obtain ⟨c1, c2, c3, c4⟩ := gd1
    refine ⟨fun σ H' => ∃ (g n : Int) (v5 : Option V), σ = [some (.ref b), some (.int (z + r1)), some (.int (1 + r2)), some (.int g), some (.int n), v5] ∧ Gd g n ∧ BagAt H' b (N + 10) ∧ OffN b H H', ?_, ?_⟩
    · refine ⟨_, rfl, rfl, _, rfl, ite2 (fun _ => ?_) (fun _ => ?_)⟩
      · refine ⟨_, rfl, _, _, rfl, rfl, _, rfl, b, 3, _, rfl, by omega, by omega, b4, by omega, fun r5 H5 r50 r51 b5 o5 => ⟨_, _, rfl, rfl, ?_⟩⟩
        exact ⟨_, _, _, rfl, ⟨by omega, by omega, by omega, by omega⟩, b5.le (by omega), f4.step o5⟩
      refine ⟨_, rfl, rfl, _, rfl, ite2 (fun _ => ?_) (fun _ => ?_)⟩
      · refine ⟨_, rfl, _, _, rfl, rfl, ?_⟩
        exact ⟨_, _, _, rfl, ⟨by omega, by omega, by omega, by omega⟩, b4.le (by omega), f4⟩
      refine ⟨_, rfl, rfl, _, rfl, ite2 (fun _ => ?_) (fun _ => ?_)⟩
      · refine ⟨_, rfl, _, rfl, _, _, rfl, rfl, ?_⟩
        exact ⟨_, _, _, rfl, ⟨by omega, by omega, by omega, by omega⟩, b4.le (by omega), f4⟩
      refine ⟨_, rfl, rfl, _, rfl, ite2 (fun _ => ?_) (fun _ => ?_)⟩
      · refine ⟨_, rfl, _, rfl, _, rfl, b, 1 + r2, _, rfl, by omega, by omega, b4, by omega, fun r5 H5 r50 r51 b5 o5 => ⟨_, _, rfl, rfl, _, _, rfl, ?_⟩⟩
        exact ⟨_, _, _, rfl, ⟨by omega, by omega, by omega, by omega⟩, b5.le (by omega), f4.step o5⟩
      refine ⟨_, rfl, rfl, _, rfl, ite2 (fun _ => ?_) (fun _ => ?_)⟩
      · refine ⟨_, rfl, _, rfl, b, 4, _, rfl, by omega, by omega, b4, by omega, fun r5 H5 r50 r51 b5 o5 => ⟨_, _, rfl, rfl, _, _, rfl, _, rfl, _, rfl, b, 6, _, rfl, by omega, by omega, b5, by omega, fun r6 H6 r60 r61 b6 o6 => ⟨_, _, rfl, rfl, _, _, rfl, ?_⟩⟩⟩
        refine ⟨_, _, _, rfl, ⟨?_, ?_, by omega, by omega⟩, b6.le (by omega), (f4.step o5).step o6⟩
        · split <;> omega
        · split <;> omega
      refine ⟨_, rfl, rfl, _, rfl, ite2 (fun _ => ?_) (fun _ => ?_)⟩
      · refine ⟨_, rfl, b, 30, _, rfl, by omega, by omega, b4, by omega, fun r5 H5 r50 r51 b5 o5 => ⟨_, rfl, b, 30, _, rfl, by omega, by omega, b5, by omega, fun r6 H6 r60 r61 b6 o6 => ⟨_, _, rfl, rfl, _, _, rfl, ?_⟩⟩⟩
        exact ⟨_, _, _, rfl, ⟨by omega, by omega, by omega, by omega⟩, b6.le (by omega), (f4.step o5).step o6⟩
      · exact ⟨_, _, _, rfl, ⟨c1, c2, c3, c4⟩, b4.le (by omega), f4⟩
    · rintro σ H5 ⟨g, n, v5, rfl, gd2, b5, f5⟩
      refine ⟨_, rfl, b, 2, _, rfl, by omega, by omega, b5, by omega, fun r6 H6 r60 r61 b6 o6 => ⟨rfl, _, rfl, ite2 (fun _ => ?_) (fun _ => ?_)⟩⟩
      all_goals
        have f6 := f5.step o6
        refine ⟨_, rfl, _, rfl, (by show 2 ≤ sizeLine; decide), fun q hq => ⟨_, rfl, _, rfl, (by show 2 ≤ sizeLine; decide), fun q2 hq2 => ⟨(by show 2 ≤ sizeLine; decide), fun l2 hl2 => ?_⟩⟩⟩
        have qq : q ≠ q2 := fun z => by rw [z, upd_same] at hq2; cases hq2
        have ql : q ≠ l2 := fun z => by subst z; rw [upd_ne qq, upd_same] at hl2; cases hl2
        have ql2 : q2 ≠ l2 := fun z => by rw [z, upd_same] at hl2; cases hl2
        have hq2' : H6 q2 = none := by rw [upd_ne qq.symm] at hq2; exact hq2
        have hl2' : H6 l2 = none := by rw [upd_ne ql2.symm, upd_ne ql.symm] at hl2; exact hl2
        have bq : b ≠ q := b6.ne hq
        have bq2 : b ≠ q2 := b6.ne hq2'
        have bl2 : b ≠ l2 := b6.ne hl2'
        refine k l2 q q2 _ _ _ _ _ upd_same (by unfold TupAt; rw [upd_ne ql, upd_ne qq, upd_same]) (by unfold TupAt; rw [upd_ne ql2, upd_same]) ?_ ?_ ((((b6.put bq).put bq2).put bl2).le (by omega)) (((f6.put (f6.free hq bq.symm)).put (f6.free hq2' bq2.symm)).put (f6.free hl2' bl2.symm))
        · first | exact ⟨c1, c2, c3, c4⟩ | exact gd2
        · first | exact gd2 | exact ⟨c1, c2, c3, c4⟩
theorem scLCommon : FnScope ["_law_one", "_law_other", "_law_begin_here", "_law_end"] ["_law_one", "_law_other"] (defScope sLCommon) := ⟨rfl, rfl, rfl, by decide +kernel, rfl, by decide +kernel, by decide +kernel⟩
theorem ok_lcommon {f : Addr} {fd : FuncData} (F : Fun K "_law_common" "_law_common" sLCommon f fd) (B : TB mg) : FnOk P w K mg base CX0 2 f fd ["_law_one", "_law_other"] spLCommon := by
  refine F.ok scLCommon (fun vs H Q E h => ?_) (fun cdv A outer s H vs Q E hr h => ?_)
  · obtain ⟨t, u, f, m, g, n, rfl, _⟩ := h
    rfl
  · obtain ⟨t, u, f, m, g, n, rfl, ht, hu, k1, k2⟩ := h
    refine ⟨_, pss_cons (ps_par (i := 2) (j := 3) rfl scLCommon.nd rfl rfl (by decide) rfl rfl (pa_cons (pe_callB (call_max2 rfl) (by rfl) B.max (by decide +kernel) (pa_cons (pe_ix ix_tup (pv 0) pe_int (fun _ _ => rfl)) (pa_cons (pe_ix ix_tup (pv 1) pe_int (fun _ _ => rfl)) pa_nil)))
        (pa_cons (pe_callB (call_min2 rfl) (by rfl) B.min (by decide +kernel) (pa_cons (pe_op op_add (pe_ix ix_tup (pv 0) pe_int (fun _ _ => rfl)) (pe_ix ix_tup (pv 0) pe_int (fun _ _ => rfl))) (pa_cons (pe_op op_add (pe_ix ix_tup (pv 1) pe_int (fun _ _ => rfl)) (pe_ix ix_tup (pv 1) pe_int (fun _ _ => rfl))) pa_nil))) pa_nil)) rfl)
      (pss_one (ps_ret (pe_ifExp (pt_cmpR op_lt (pv 2) (pv 3) (nomark _)) (pe_tup (pa_cons (pv 2) (pa_cons (pe_op op_sub (pv 3) (pv 2)) pa_nil))) pe_non))), ?_⟩
    refine ⟨_, rfl, t, _, _, _, rfl, rfl, SqT.of ht, rfl, _, rfl, u, _, _, _, rfl, rfl, SqT.of hu, rfl, _, _, rfl, ?_⟩
    refine ⟨_, rfl, t, _, _, _, rfl, rfl, SqT.of ht, rfl, _, rfl, t, _, _, _, rfl, rfl, SqT.of ht, rfl, _, _, rfl, rfl, _, rfl, u, _, _, _, rfl, rfl, SqT.of hu, rfl, _, rfl, u, _, _, _, rfl, rfl, SqT.of hu, rfl, _, _, rfl, rfl, _, _, rfl, _, _, rfl, ?_⟩
    refine ⟨_, rfl, _, rfl, _, _, rfl, rfl, _, rfl, ?_⟩
    refine ite2 (fun h1 => ?_) (fun h1 => ?_)
    · refine ⟨_, rfl, _, rfl, _, rfl, _, _, rfl, rfl, (by show 2 ≤ sizeLine; decide), ?_⟩
      exact k1 (of_decide_eq_true h1)
    · exact k2 (of_decide_eq_false (by simpa using h1))
theorem scLShown : FnScope ["_law_run"] ["_law_run"] (defScope sLShown) := ⟨rfl, rfl, rfl, by decide +kernel, rfl, by decide +kernel, by decide +kernel⟩
theorem ok_lshown {f : Addr} {fd : FuncData} (F : Fun K "_law_shown" "_law_shown" sLShown f fd) (T : TR K mg C mc tM) : FnOk P w K mg base CX0 2 f fd ["_law_run"] (spLShown C) := by
  refine F.ok scLShown (fun vs H Q E h => ?_) (fun cdv A outer s H vs Q E hr h => ?_)
  · obtain ⟨x, rfl, _⟩ := h
    rfl
  · obtain ⟨x, rfl, k⟩ := h
    refine ⟨_, pss_one (ps_ret (pe_ifExp (pt_cmpR op_isN (pv 0) pe_non (nomark _)) pe_non (pe_tup (pa_cons (pe_fld (pv 0) rfl) (pa_cons (pe_fld (pv 0) rfl) pa_nil))))), ?_⟩
    rcases k with ⟨rfl, k⟩ | ⟨p, f, m, rfl, ⟨dx, hp⟩, k⟩
    · exact ⟨_, rfl, rfl, _, rfl, iteT k⟩
    · refine ⟨_, rfl, rfl, _, rfl, iteF ?_⟩
      exact ⟨_, rfl, p, C, dx, _, _, rfl, hp, T.cl, T.nF, rf_f _ _, _, rfl, p, C, dx, _, _, rfl, hp, T.cl, T.nM, rf_m _ _, (by show 2 ≤ sizeLine; decide), k⟩
theorem scLMember : FnScope ["_law_run", "_law_thing"] ["_law_run", "_law_thing"] (defScope sLMember) := ⟨rfl, rfl, rfl, by decide +kernel, rfl, by decide +kernel, by decide +kernel⟩
theorem ok_lmember {f : Addr} {fd : FuncData} (F : Fun K "_law_is_member" "_law_is_member" sLMember f fd) (T : TR K mg C mc tM) : FnOk P w K mg base CX0 2 f fd ["_law_run", "_law_thing"] (spLMember K) := by
  refine F.ok scLMember (fun vs H Q E h => ?_) (fun cdv A outer s H vs Q E hr h => ?_)
  · obtain ⟨t, f, m, x, rfl, _⟩ := h
    rfl
  · obtain ⟨t, f, m, x, rfl, ht, k⟩ := h
    refine ⟨_, pss_cons (ps_if (PW.pt (pw_or (pt_not (pt_val (pe_callB call_isi (by rfl) T.isi (by decide +kernel) (pa_cons (pv 1) (pa_cons (pe_bltn (v := .ty "int") (by rfl) T.int (by decide +kernel) rfl) pa_nil)))))
        (pw_or1 (pt_val (pe_callB call_isi (by rfl) T.isi (by decide +kernel) (pa_cons (pv 1) (pa_cons (pe_bltn (v := .ty "bool") (by rfl) T.bool (by decide +kernel) rfl) pa_nil))))))) (pss_one (ps_ret pe_bl)) pss_nil)
      (pss_one (ps_ret (pe_chain op_le op_lt (pe_ix ix_tup (pv 0) pe_int (fun _ _ => rfl)) (pv 1) (pe_op op_add (pe_ix ix_tup (pv 0) pe_int (fun _ _ => rfl)) (pe_ix ix_tup (pv 0) pe_int (fun _ _ => rfl)))))), ?_⟩
    rcases k with ⟨v, rfl, q⟩ | ⟨b, rfl, q⟩ | ⟨t2, ty, hk, q⟩
    · refine ⟨_, rfl, _, _, .type "int", .type "int", true, rfl, .ty "int", .base (.int v), kit_ty (by decide +kernel), true, rfl, iteF ?_⟩
      refine ⟨_, rfl, _, _, .type "int", .type "bool", false, rfl, .ty "bool", .base (.int v), kit_ty (by decide +kernel), false, rfl, iteF ?_⟩
      refine ⟨_, rfl, t, _, _, _, rfl, rfl, SqT.of ht, rfl, _, rfl, _, _, rfl, rfl, _, rfl, ite2 (fun h1 => ?_) fun h1 => ?_⟩
      · have h1' : f ≤ v := of_decide_eq_true h1
        refine ⟨_, rfl, t, _, _, _, rfl, rfl, SqT.of ht, rfl, _, rfl, t, _, _, _, rfl, rfl, SqT.of ht, rfl, _, _, rfl, rfl, _, _, rfl, rfl, ?_⟩
        have e : decide (f ≤ v ∧ v < f + m) = decide (v < f + m) := by
          by_cases z : v < f + m <;> simp [z, h1']
        rw [e] at q
        exact q
      · have h1' : ¬ f ≤ v := of_decide_eq_false (by simpa using h1)
        rw [show decide (f ≤ v ∧ v < f + m) = false from decide_eq_false fun z => h1' z.1] at q
        exact q
    · refine ⟨_, rfl, _, _, .type "bool", .type "int", true, rfl, .ty "int", .base (.bl b), kit_ty (by decide +kernel), true, rfl, iteF ?_⟩
      refine ⟨_, rfl, _, _, .type "bool", .type "bool", true, rfl, .ty "bool", .base (.bl b), kit_ty (by decide +kernel), true, rfl, iteT ?_⟩
      exact q
    · refine ⟨_, rfl, _, _, t2, .type "int", false, rfl, .ty "int", ty, hk, false, rfl, iteT ?_⟩
      exact q
theorem scLBegin : FnScope ["_law_run", "_law_word"] ["_law_run"] (defScope sLBegin) := ⟨rfl, rfl, rfl, by decide +kernel, rfl, by decide +kernel, by decide +kernel⟩
theorem ok_lbegin {f fW : Addr} {fd fdW : FuncData} (F : Fun K "_law_begin" "_law_begin" sLBegin f fd) (T : TR K mg C mc tM) (GW : G1.GF1 P w K mg base 4 fW fdW ["self"] (spFirst C)) (bW : Binds K fdW ["self"] []) (hm : Meth K C "words" fW) : FnOk P w K mg base CX0 6 f fd ["_law_run"] (spLBegin C) := by
  refine F.ok scLBegin (fun vs H Q E h => ?_) (fun cdv A outer s H vs Q E hr h => ?_)
  · obtain ⟨p, f, m, rfl, _⟩ := h
    rfl
  · obtain ⟨p, f, m, rfl, ⟨dx, hp⟩, f0, f1, m0, m1, k⟩ := h
    refine ⟨_, pss_cons (G1.ps_for1 (k := 4) PassesOwn.never (G1.p1_meth0 (pv 0) T.cl hm GW (hr.mono (by decide)) bW) (hr.mono (by decide)) (pg_name (i := 1) scLBegin.nd rfl (Or.inl rfl)) (pss_one (ps_ret (pv 1)))) (pss_one (ps_ret pe_non)), ?_⟩
    refine ⟨_, rfl, p, dx, _, rfl, hp, rf_no _ _ (by decide +kernel) (by decide +kernel), p, f, m, rfl, ⟨dx, hp⟩, f0, f1, m0, m1, ?_⟩
    exact ⟨_, rfl, k⟩
end
end Rt
namespace Rt
open PySem L2
abbrev sLaw : Stmt := top 18
abbrev NL : List Str := ["_law_script", "_law_k", "_law_bag_here", "_law_turn", "_law_one", "_law_other", "_law_first", "_law_second", "_law_things", "_law_thing"]
structure Mth (P : Program) (w : World) (K : PySem.W.Frag) (mg : Str → Option Value) (base : Heap) (k : Nat) (x : Str) (ps : List Str) (sp : Sp) (f : Addr) (fd : FuncData) : Prop where
  ok : FnOk P w K mg base CX0 k f fd ps sp
  df : Def K mg x f fd ps
structure Own (P : Program) (w : World) (K : PySem.W.Frag) (mg : Str → Option Value) (base : Heap) (C : Addr) (k : Nat) (x : Str) (ps : List Str) (sp : Sp) (f : Addr) (fd : FuncData) : Prop where
  ok : FnOk P w K mg base CX0 k f fd ps sp
  at_ : PySem.W.findIn K (.ref C) x = some (some (.ref f))
  fn : PySem.W.isFn K (.ref f) = true
  bd : Binds K fd ps []
/-- of which built-in classes a run is none -/
structure Kt (K : PySem.W.Frag) (C : Addr) : Prop where
  tup : PySem.W.kitOne K (.type "tuple") (.ref C) = some false
  list : PySem.W.kitOne K (.type "list") (.ref C) = some false
  non : PySem.W.kitOne K (.type "NoneType") (.ref C) = some false
  int : PySem.W.kitOne K (.type "int") (.ref C) = some false
  str : PySem.W.kitOne K (.type "str") (.ref C) = some false
  bool : PySem.W.kitOne K (.type "bool") (.ref C) = some false
  ns : PySem.W.notFirst K C (.ref C) = true
  nTup : PySem.W.notFirst K C (.type "tuple") = true
  nList : PySem.W.notFirst K C (.type "list") = true
  nNon : PySem.W.notFirst K C (.type "NoneType") = true
  nInt : PySem.W.notFirst K C (.type "int") = true
  nStr : PySem.W.notFirst K C (.type "str") = true
  nBool : PySem.W.notFirst K C (.type "bool") = true
  runInt : PySem.W.kitOne K (.ref C) (.type "int") = some false
theorem run_new {C p dx : Addr} {H : Hp} {f m : Int} (hp : H p = none) (hdx : H dx = none) (ne : dx ≠ p) : Same H (upd (upd H dx (.own p)) p (.ins C dx (rf f m))) ∧ RunAt C (upd (upd H dx (.own p)) p (.ins C dx (rf f m))) p f m := by
  refine ⟨fun c o e => ?_, dx, upd_same⟩
  rw [upd_ne (ne_of_none e hp), upd_ne (ne_of_none e hdx)]
  exact e
theorem RunAt.same {C p : Addr} {H H' : Hp} {f m : Int} (r : RunAt C H p f m) (s : Same H H') : RunAt C H' p f m := r.imp fun d e => s _ _ e
theorem eqv2 {f m g n : Int} : PyData.eqv (.tuple [.int f, .int m]) (.tuple [.int g, .int n]) = decide (f = g ∧ m = n) := by
  by_cases h1 : f = g <;> by_cases h2 : m = n <;> simp [h1, h2, PyData.eqv, PyData.eqvAll]
theorem lo_comm (f g : Int) : lo g f = lo f g := by unfold lo; split <;> split <;> omega
theorem hi_comm (e h : Int) : hi h e = hi e h := by unfold hi; split <;> split <;> omega
theorem dp2 {K : PySem.W.Frag} {H : Hp} {t : Addr} {f m : Int} (h : TupAt H t f m) : Dp K H (.ref t) (.tuple [.int f, .int m]) := .tup (SqT.of h) (.cons (.int f) (.cons (.int m) .nil))
theorem nty {a : Addr} : ∀ c, V.ref a ≠ .ty c := fun c z => by cases z
theorem ntn : ∀ c, V.non ≠ .ty c := fun c z => by cases z
/-- nothing of this == a run -/
def Oth (K : PySem.W.Frag) (C : Addr) (H : Hp) (x : V) : Prop := ∃ t, TyX K H x t ∧ PySem.W.notFirst K C t = true ∧ PySem.W.kitOne K t (.ref C) = some false
theorem bls_false : ∀ n : Nat, (List.replicate n false).any id = false
  | 0 => rfl
  | n + 1 => by rw [List.replicate_succ, List.any_cons, bls_false n]; rfl
theorem rep_snoc (n : Nat) : (List.replicate n false).map V.bl ++ [V.bl false] = (List.replicate (n + 1) false).map V.bl := by
  rw [List.replicate_succ', List.map_append]
  rfl
/-- a member of the run f, m -/
def memb (f m : Int) : V → Bool
  | .int v => decide (f ≤ v ∧ v < f + m)
  | _ => false
/-- an int, a bool, or of a class that is no int -/
def Thg (K : PySem.W.Frag) (H : Hp) (x : V) : Prop := (∃ v, x = .int v) ∨ (∃ b, x = .bl b) ∨ ((∃ t, TyX K H x t ∧ PySem.W.kitOne K t (.type "int") = some false) ∧ ∀ v, x ≠ .int v)
theorem memb_no {f m : Int} {x : V} (h : ∀ v, x ≠ .int v) : memb f m x = false := by
  cases x <;> first | rfl | exact absurd rfl (h _)
def dBls (xs : List Bool) : PyData := .list (xs.map .bool)
theorem canlay_bls : ∀ xs : List Bool, PyData.canLayAll0 (xs.map .bool) = true
  | [] => rfl
  | x :: xs => by
    rw [List.map_cons, PyData.canLayAll0, canlay_bls xs, PyData.canLay0]
    rfl
theorem depth_bls : ∀ xs : List Bool, PyData.depthAll (xs.map .bool) = 0
  | [] => rfl
  | x :: xs => by
    rw [List.map_cons, PyData.depthAll, depth_bls xs, PyData.depth]
    rfl
theorem shaped_bls (xs : List Bool) : SeqAt.shaped (dBls xs) = true := by
  unfold SeqAt.shaped dBls
  rw [PyData.canLay0, canlay_bls, PyData.depth, depth_bls]
  rfl
theorem dpall_bls {K : PySem.W.Frag} {H : Hp} : ∀ xs : List Bool, DpAll K H (xs.map V.bl) (xs.map .bool)
  | [] => .nil
  | x :: xs => .cons (.bl x) (dpall_bls xs)
theorem dp_bls {K : PySem.W.Frag} {H : Hp} {a : Addr} {xs : List Bool} (h : SqL K H a (xs.map V.bl)) : Dp K H (.ref a) (dBls xs) := .lst h (dpall_bls xs)
theorem take_bls {xs : List V} {i : Nat} {x : V} (F : V → Bool) (h : xs[i]? = some x) : ((xs.take i).map F).map V.bl ++ [V.bl (F x)] = ((xs.take (i + 1)).map F).map V.bl := by
  obtain ⟨hi, e⟩ := List.getElem?_eq_some_iff.mp h
  rw [List.take_succ_eq_append_getElem hi, e, List.map_append, List.map_append]
  rfl
theorem txt_eq (f m : Int) : ((((Str.ofString "Run(") ++ Str.ofString (toString f)) ++ Str.ofString ", ") ++ Str.ofString (toString m)) ++ Str.ofString ")" = txt f m := by
  unfold txt
  rfl

section
variable {P : Program} {w : World} {K : PySem.W.Frag} {mg : Str → Option Value} {base : Heap} {C : Addr} {mc : Value} {tM : Tok}
theorem scLaw : FnScope NL ["_law_script"] (defScope sLaw) := ⟨rfl, rfl, rfl, by decide +kernel, rfl, by decide +kernel, by decide +kernel⟩
theorem law_run {f fB fP fC fS fM fG fI fQ fN fA fL fR : Addr} {fdB fdP fdC fdS fdM fdG fdI fdQ fdN fdA fdL fdR : FuncData} {dV kV doc pm ct cdv oc : Value} {an od : Option Addr} {osl : Array (Option Value)}
    (lk : K.lookup f = some ⟨oc, od, .func (PySem.W.fnOf "law" "law" (defArgs sLaw) (defBody sLaw) (defScope sLaw) dV kV doc pm an cdv ct), osl⟩) (hcd : PySem.W.codeIn K cdv "law" = true) (hbd : ∀ (s : Shared) (u : Value), BindsTo s (PySem.W.fnOf "law" "law" (defArgs sLaw) (defBody sLaw) (defScope sLaw) dV kV doc pm an cdv ct) ⟨[u], []⟩ [("_law_script", u)])
    (T : TR K mg C mc tM) (B : TB mg) (Z : IsR K C) (W : Kt K C)
    (YB : Mth P w K mg base 2 "_law_bag" ["_law_script", "_law_at"] (spBag K) fB fdB) (YP : Mth P w K mg base 3 "_law_pair" ["_law_bag_here"] spLPair fP fdP) (YC : Mth P w K mg base 2 "_law_common" ["_law_one", "_law_other"] spLCommon fC fdC)
    (YS : Mth P w K mg base 2 "_law_shown" ["_law_run"] (spLShown C) fS fdS) (YM : Mth P w K mg base 2 "_law_is_member" ["_law_run", "_law_thing"] (spLMember K) fM fdM) (YG : Mth P w K mg base 6 "_law_begin" ["_law_run"] (spLBegin C) fG fdG)
    (M : Mk K C fI) (GI : FnOk P w K mg base CX0 3 fI fdI ["self", "first", "many"] (spInit C)) (bI : Binds K fdI ["self", "first", "many"] [])
    (OQ : Own P w K mg base C 2 "__eq__" ["self", "other"] (spEqA K C) fQ fdQ) (ON : Own P w K mg base C 4 "__contains__" ["self", "x"] (spIn K C) fN fdN) (OA : Own P w K mg base C 5 "__and__" ["self", "other"] (spAnd C) fA fdA) (sf : PySem.W.selfFirst K C = true)
    (OL : Own P w K mg base C 2 "__len__" ["self"] (spLen C) fL fdL) (OR : Own P w K mg base C 2 "__repr__" ["self"] (Rp.spRepr (RTxt C)) fR fdR)
    {s : Shared} {H : Hp} {a : Addr} {ns : List Int} (hl : ns.length ≤ 63) (e0 : Env0 P w K mg base callerA [] s H) (hS : SqL K H a (ns.map V.int)) :
    codeAny (model P w) callerA (.call (.ref f) ⟨[.ref a], []⟩) (CR C8.CX0 [] P w H s (fun v _ => v = .bl true) fun _ _ _ => False) s := by
  refine LamX.run_ofS (k := 7) (N := NL) (ps := ["_law_script"]) (us := [.ref a]) (vs := [.ref a]) lk hcd scLaw ⟨rfl, by decide, by decide⟩ e0 (hbd s (.ref a)) (.cons rfl .nil) rfl fun hr => ?_
  have hr6 : Room 7 _ := hr
  have hr1 : Room 2 _ := hr.mono (show 2 ≤ 7 by decide)
  have hr2 : Room 3 _ := hr.mono (show 3 ≤ 7 by decide)
  have hr3 : Room 4 _ := hr.mono (show 4 ≤ 7 by decide)
  have hr4 : Room 5 _ := hr.mono (show 5 ≤ 7 by decide)
  have hr5 : Room 6 _ := hr.mono (show 6 ≤ 7 by decide)
  suffices hh : ∃ t, PSs (cxOf C8.CX0 P w K mg base NL "law" (defScope sLaw) f cdv callerA [] s H fun _ _ _ => False).nox (defBody sLaw) t ∧ t { nx := fun x H' => (fun v (_ : Hp) => v = V.bl true) .non H', rt := fun v _ => v = V.bl true } (L2.start NL [.ref a]) H by
    obtain ⟨t, h1, h2⟩ := hh
    exact ⟨t, h1.nox, h2⟩
  refine ⟨_, pss_cons (ps_for PassesOwn.never rfl (pi_range1 (by rfl) B.range (pa_cons (pe_callB (call_max2 rfl) (by rfl) B.max (by decide +kernel) (pa_cons pe_int (pa_cons (pe_callB (call_min2 rfl) (by rfl) B.min (by decide +kernel) (pa_cons pe_int (pa_cons (pe_callB call_len_seq (by rfl) B.len (by decide +kernel) (pa_cons (pv 0) pa_nil)) pa_nil))) pa_nil))) pa_nil)) (pg_name (i := 1) scLaw.nd rfl (Or.inl rfl)) (pss_cons (ps_set (i := 2) scLaw.nd rfl (Or.inl rfl) (pe_call YB.ok hr1 (by rfl) YB.df.at_ YB.df.kp YB.df.bd .nil pass0 (pa_cons (pv 0) (pa_cons (pv 1) pa_nil)))) (pss_one (ps_for PassesOwn.never rfl (pi_range1 (by rfl) B.range (pa_cons pe_int pa_nil)) (pg_name (i := 3) scLaw.nd rfl (Or.inl rfl)) (pss_cons (ps_asg (pe_call YP.ok hr2 (by rfl) YP.df.at_ YP.df.kp YP.df.bd .nil pass0 (pa_cons (pv 2) pa_nil)) (pg_lst rfl (pgs_cons (pg_name (i := 4) scLaw.nd rfl (Or.inr rfl)) (pgs_cons (pg_name (i := 5) scLaw.nd rfl (Or.inl rfl)) pgs_nil))))
 (C8.pss_cut (ps_if (pt_cmpR op_ne (pe_call YG.ok hr5 (by rfl) YG.df.at_ YG.df.kp YG.df.bd .nil pass0 (pa_cons (pe_make M GI hr3 (by rfl) T.mgC bI .nil pass0 (pa_cons (pe_ix ix_tup (pv 4) pe_int (fun _ _ => rfl)) (pa_cons (pe_op op_sub (pe_op op_pow pe_int pe_int) (pv 3)) pa_nil))) pa_nil)) (pe_ix ix_tup (pv 4) pe_int (fun _ _ => rfl)) (nomark _)) (pss_one (ps_ret pe_bl)) pss_nil)
 (pss_cons (ps_asg (pe_tup (pa_cons (pe_make M GI hr3 (by rfl) T.mgC bI .nil pass0 (pa_cons (pe_ix ix_tup (pv 4) pe_int (fun _ _ => rfl)) (pa_cons (pe_ix ix_tup (pv 4) pe_int (fun _ _ => rfl)) pa_nil))) (pa_cons (pe_make M GI hr3 (by rfl) T.mgC bI .nil pass0 (pa_cons (pe_ix ix_tup (pv 5) pe_int (fun _ _ => rfl)) (pa_cons (pe_ix ix_tup (pv 5) pe_int (fun _ _ => rfl)) pa_nil))) pa_nil))) (pg_tup rfl (pgs_cons (pg_name (i := 6) scLaw.nd rfl (Or.inr rfl)) (pgs_cons (pg_name (i := 7) scLaw.nd rfl (Or.inl rfl)) pgs_nil))))
 (C8.pss_cut (ps_if (PW.pt (pw_or (pt_cmpR op_ne (pe_cmpR (Ow.op_eqO OQ.ok hr1 OQ.at_ OQ.fn OQ.bd pass0) (pv 6) (pv 7) (nomark _)) (pe_cmpR (op_eqD hr1.units) (pv 4) (pv 5) (nomark _)) (nomark _)) (pw_or1 (pt_not (pt_cmpR (Ow.op_eqO OQ.ok hr1 OQ.at_ OQ.fn OQ.bd pass0) (pv 6) (pe_make M GI hr3 (by rfl) T.mgC bI .nil pass0 (pa_cons (pe_ix ix_tup (pv 4) pe_int (fun _ _ => rfl)) (pa_cons (pe_ix ix_tup (pv 4) pe_int (fun _ _ => rfl)) pa_nil))) (nomark _)))))) (pss_one (ps_ret pe_bl)) pss_nil)
 (C8.pss_cut (ps_if (pt_cmpR (op_neD hr1.units) (pe_call YS.ok hr1 (by rfl) YS.df.at_ YS.df.kp YS.df.bd .nil pass0 (pa_cons (pe_op (Ow.op_bin (C := C) OA.ok hr4 sf OA.at_ OA.fn OA.bd pass0) (pv 6) (pv 7)) pa_nil)) (pe_call YC.ok hr1 (by rfl) YC.df.at_ YC.df.kp YC.df.bd .nil pass0 (pa_cons (pv 4) (pa_cons (pv 5) pa_nil))) (nomark _)) (pss_one (ps_ret pe_bl)) pss_nil)
 (C8.pss_cut (ps_if (PW.pt (pw_or (pt_cmpR (op_neD hr1.units) (pe_call YS.ok hr1 (by rfl) YS.df.at_ YS.df.kp YS.df.bd .nil pass0 (pa_cons (pe_op (Ow.op_bin (C := C) OA.ok hr4 sf OA.at_ OA.fn OA.bd pass0) (pv 7) (pv 6)) pa_nil)) (pe_call YC.ok hr1 (by rfl) YC.df.at_ YC.df.kp YC.df.bd .nil pass0 (pa_cons (pv 4) (pa_cons (pv 5) pa_nil))) (nomark _)) (pw_or1 (pt_cmpR op_ne (pe_callB (Ow.call_lenO OL.ok hr2 OL.at_ OL.fn OL.bd pass0) (by rfl) B.len (by decide +kernel) (pa_cons (pv 7) pa_nil)) (pe_ix ix_tup (pv 5) pe_int (fun _ _ => rfl)) (nomark _))))) (pss_one (ps_ret pe_bl)) pss_nil)
 (pss_cons (ps_set (i := 8) scLaw.nd rfl (Or.inl rfl) (pe_lst (pa_cons (pv 4) (pa_cons (pe_callTy call_list_of (by rfl) B.list (by decide +kernel) (pa_cons (pv 4) pa_nil)) (pa_cons pe_non (pa_cons (pe_ix ix_tup (pv 4) pe_int (fun _ _ => rfl)) (pa_cons (pe_callB (Lr.call_reprO (C := C) OR.ok OR.bd pass0 OR.at_ OR.fn hr2 ) (by rfl) B.repr (by decide +kernel) (pa_cons (pv 6) pa_nil)) (pa_cons pe_bl (pa_cons (pe_lst (pa_cons (pv 6) pa_nil)) (pa_cons (pe_tup (pa_cons (pv 6) pa_nil)) pa_nil))))))))))
 (C8.pss_cut (ps_if (pt_val (pe_callB (cr_any rfl) (by rfl) B.any (by decide +kernel) (pa_cons (pe_lc (own := [("_law_thing", 9)]) (g := gName 9) (tt := tYes) rfl scLaw.nd (pi_list (pv 8)) (blkOk_by (N := NL) (sc := defScope sLaw) (by decide +kernel))
              (fun _ _ _ _ _ => pg_name (i := 9) scLaw.nd rfl (Or.inl rfl)) (fun _ _ _ _ _ => pts_nil) (fun _ _ _ _ _ => (pe_cmpR (r := Ow.rEqO K C (spEqA K C) E0) (Ow.op_eqO OQ.ok hr1 OQ.at_ OQ.fn OQ.bd pass0) (pv 6) (pv 9) (nomark _)))) pa_nil))) (pss_one (ps_ret pe_bl)) pss_nil)
 (pss_cons (ps_set (i := 8) scLaw.nd rfl (Or.inl rfl) (pe_op op_cat (pv 8) (pe_lst (pa_cons (pe_op op_sub (pe_ix ix_tup (pv 4) pe_int (fun _ _ => rfl)) pe_int) (pa_cons (pe_op op_sub (pe_op op_add (pe_ix ix_tup (pv 4) pe_int (fun _ _ => rfl)) (pe_ix ix_tup (pv 4) pe_int (fun _ _ => rfl))) pe_int) (pa_cons (pe_op op_add (pe_ix ix_tup (pv 4) pe_int (fun _ _ => rfl)) (pe_ix ix_tup (pv 4) pe_int (fun _ _ => rfl))) (pa_cons (pe_ix ix_tup (pv 5) pe_int (fun _ _ => rfl)) (pa_cons pe_bl (pa_cons pe_str (pa_cons (pe_un un_neg pe_int) (pa_cons pe_int (pa_cons pe_int (pa_cons (pv 7) pa_nil)))))))))))))
 (C8.pss_cut (ps_if (pt_cmpR (op_neD hr1.units) (pe_lc (own := [("_law_thing", 9)]) (g := gName 9) (tt := tYes) rfl scLaw.nd (pi_list (pv 8)) (blkOk_by (N := NL) (sc := defScope sLaw) (by decide +kernel))
              (fun _ _ _ _ _ => pg_name (i := 9) scLaw.nd rfl (Or.inl rfl)) (fun _ _ _ _ _ => pts_nil) (fun _ _ _ _ _ => (pe_cmpR (r := Ow.rInO C (spIn K C) E0) (Ow.op_inO ON.ok hr3 ON.at_ ON.fn ON.bd pass0) (pv 9) (pv 6) (by rfl)))) (pe_lc (own := [("_law_thing", 9)]) (g := gName 9) (tt := tYes) rfl scLaw.nd (pi_list (pv 8)) (blkOk_by (N := NL) (sc := defScope sLaw) (by decide +kernel))
              (fun _ _ _ _ _ => pg_name (i := 9) scLaw.nd rfl (Or.inl rfl)) (fun _ _ _ _ _ => pts_nil) (fun _ _ _ _ _ => (pe_call YM.ok hr1 (by rfl) YM.df.at_ YM.df.kp YM.df.bd .nil pass0 (pa_cons (pv 4) (pa_cons (pv 9) pa_nil))))) (nomark _)) (pss_one (ps_ret pe_bl)) pss_nil)
 (pss_one (ps_if (PW.pt (pw_or (pt_cmpR op_ne (pe_callB (Lr.call_reprO (C := C) OR.ok OR.bd pass0 OR.at_ OR.fn hr2 ) (by rfl) B.repr (by decide +kernel) (pa_cons (pv 6) pa_nil)) (pe_op op_add_str (pe_op op_add_str (pe_op op_add_str (pe_op op_add_str pe_str (pe_callTy call_str_int (by rfl) B.str (by decide +kernel) (pa_cons (pe_ix ix_tup (pv 4) pe_int (fun _ _ => rfl)) pa_nil))) pe_str) (pe_callTy call_str_int (by rfl) B.str (by decide +kernel) (pa_cons (pe_ix ix_tup (pv 4) pe_int (fun _ _ => rfl)) pa_nil))) pe_str) (nomark _)) (pw_or1 (pt_cmpR op_ne (pe_callB (Ow.call_lenO OL.ok hr2 OL.at_ OL.fn OL.bd pass0) (by rfl) B.len (by decide +kernel) (pa_cons (pv 6) pa_nil)) (pe_ix ix_tup (pv 4) pe_int (fun _ _ => rfl)) (nomark _))))) (pss_one (ps_ret pe_bl)) pss_nil)))))))))))))))) (pss_one (ps_ret pe_bl)), ?_⟩
  refine ⟨_, rfl, a, _, rfl, .inl hS, _, _, rfl, _, _, rfl, _, rfl, ?_⟩
  have hJ : ∀ n : Int, 0 ≤ n → n ≤ 63 → 2 ≤ (if (if n < 6 then n else 6) > 2 then (if n < 6 then n else 6) else 2) ∧ (if (if n < 6 then n else 6) > 2 then (if n < 6 then n else 6) else 2) ≤ 63 := fun n h0 h1 => by
    by_cases q : n < 6
    · rw [if_pos q]
      by_cases z : n > 2
      · rw [if_pos z]; omega
      · rw [if_neg z]; omega
    · rw [if_neg q]
      decide
  have hJ2 := hJ ((ns.map V.int).length : Int) (by omega) (by rw [List.length_map]; omega)
  generalize (if (if ((ns.map V.int).length : Int) < 6 then ((ns.map V.int).length : Int) else 6) > 2 then (if ((ns.map V.int).length : Int) < 6 then ((ns.map V.int).length : Int) else 6) else 2) = J at hJ2 ⊢
  obtain ⟨J0, J1⟩ := hJ2
  refine ⟨by omega, by omega, for_range (lo := 0) (n := J.toNat) (fun i σ H2 => ∃ (v1 v2 v3 v4 v5 v6 v7 v8 v9 : Option V), σ = [some (.ref a), v1, v2, v3, v4, v5, v6, v7, v8, v9] ∧ Same H H2) ⟨none, none, none, none, none, none, none, none, none, rfl, Same.refl H⟩ ?_ ?_⟩
  · rintro i σ H2 hij ⟨v1, v2, v3, v4, v5, v6, v7, v8, v9, rfl, s2⟩
    refine ⟨_, rfl, _, rfl, a, ns, _, rfl, s2.seq hS, hl, by omega, by omega, fun b H3 nb b3 o3 => ?_⟩
    have b0 : H b = none := s2.free nb
    have s3 : Same H H3 := fun c u e => (o3 c (ne_of_none e b0)).trans (s2 c u e)
    refine ⟨8, rfl, by decide, by decide, for_range (lo := 0) (n := 8) (fun j σ H5 => ∃ (v3 v4 v5 v6 v7 v8 v9 : Option V), σ = [some (.ref a), some (.int (0 + (i : Int))), some (.ref b), v3, v4, v5, v6, v7, v8, v9] ∧ Same H H5 ∧ BagAt H5 b (12 * j)) ⟨v3, v4, v5, v6, v7, v8, v9, rfl, s3, b3⟩ ?_ ?_⟩
    · rintro j σ H5 hj ⟨v3, v4, v5, v6, v7, v8, v9, rfl, s5, b5⟩
      have fin : ∀ H', OffN b H5 H' → Same H H' := fun H' f c u e => (f c (by rw [s5 c u e]; simp) (ne_of_none e b0)).trans (s5 c u e)
      refine ⟨_, rfl, b, _, rfl, b5, by omega, fun l t u f m g n H6 h6l h6t h6u gd1 gd2 b6 f6 => ?_⟩
      refine ⟨l, _, rfl, SqL.of h6l, rfl, _, _, rfl, _, _, rfl, rfl, ?_⟩
      have s6 : Same H H6 := fin _ f6
      have t6 : ∀ {H'}, Same H6 H' → TupAt H' t f m := fun s' => s' _ _ h6t
      have u6 : ∀ {H'}, Same H6 H' → TupAt H' u g n := fun s' => s' _ _ h6u
      obtain ⟨f0, f1, m0, m1⟩ := gd1
      obtain ⟨g0, g1, n0, n1⟩ := gd2
      refine ⟨fun σ H' => σ = [some (.ref a), some (.int (0 + (i : Int))), some (.ref b), some (.int (0 + (j : Int))), some (.ref t), some (.ref u), v6, v7, v8, v9] ∧ Same H6 H', ?_, ?_⟩
      · refine ⟨_, rfl, t, _, _, _, rfl, rfl, SqT.of h6t, rfl, _, _, rfl, rfl, ⟨by decide, by decide, by decide⟩, _, rfl, _, _, rfl, rfl, fun p dx hp hdx ne => ?_⟩
        have e12 : (10 ^ Int.toNat 12 : Int) = 1000000000000 := by decide
        refine ⟨p, dx, _, _, rfl, upd_same, f0, by unfold Most; omega, by rw [e12]; omega, by rw [e12]; unfold Most; omega, rfl, ?_⟩
        rw [upd_upd]
        obtain ⟨s7, r7⟩ := run_new (C := C) (f := f) (m := 10 ^ Int.toNat 12 - (0 + (j : Int))) hp hdx ne
        generalize (upd (upd H6 dx (.own p)) p (.ins C dx (rf f (10 ^ Int.toNat 12 - (0 + (j : Int)))))) = H7 at s7 r7 ⊢
        refine ⟨p, _, _, rfl, r7, f0, by omega, by rw [e12]; omega, by rw [e12]; omega, ?_⟩
        refine ⟨_, rfl, t, _, _, _, rfl, rfl, SqT.of (t6 s7), rfl, rfl, false, by simp, iteF ?_⟩
        exact ⟨rfl, s7⟩
      rintro σ H7 ⟨rfl, s7⟩
      refine ⟨_, rfl, t, _, _, _, rfl, rfl, SqT.of (t6 s7), rfl, _, rfl, t, _, _, _, rfl, rfl, SqT.of (t6 s7), rfl, fun p dx hp hdx ne => ?_⟩
      refine ⟨p, dx, _, _, rfl, upd_same, f0, by unfold Most; omega, by omega, by unfold Most; omega, rfl, ?_⟩
      rw [upd_upd]
      obtain ⟨s8, p8⟩ := run_new (C := C) (f := f) (m := m) hp hdx ne
      generalize (upd (upd H7 dx (.own p)) p (.ins C dx (rf f m))) = H8 at s8 p8 ⊢
      have s68 := s7.trans s8
      refine ⟨_, rfl, u, _, _, _, rfl, rfl, SqT.of (u6 s68), rfl, _, rfl, u, _, _, _, rfl, rfl, SqT.of (u6 s68), rfl, fun q dy hq hdy ne2 => ?_⟩
      refine ⟨q, dy, _, _, rfl, upd_same, g0, by unfold Most; omega, by omega, by unfold Most; omega, rfl, ?_⟩
      rw [upd_upd]
      obtain ⟨s9, q9⟩ := run_new (C := C) (f := g) (m := n) hq hdy ne2
      have p9 := p8.same s9
      generalize (upd (upd H8 dy (.own q)) q (.ins C dy (rf g n))) = H9 at s9 q9 p9 ⊢
      have s69 := s68.trans s9
      refine ⟨(by show 2 ≤ sizeLine; decide), fun c hc => ?_⟩
      have s10 : Same H9 (upd H9 c (.tup [.ref p, .ref q])) := put_same hc
      refine ⟨c, _, rfl, SqT.of upd_same, rfl, _, _, rfl, _, _, rfl, rfl, ?_⟩
      have p10 := p9.same s10
      have q10 := q9.same s10
      have s610 := s69.trans s10
      generalize (upd H9 c (.tup [.ref p, .ref q])) = H10 at s10 p10 q10 s610 ⊢
      have t10 : ∀ {H'}, Same H10 H' → TupAt H' t f m := fun s' => t6 (s610.trans s')
      have u10 : ∀ {H'}, Same H10 H' → TupAt H' u g n := fun s' => u6 (s610.trans s')
      obtain ⟨dp, hdp⟩ := p10
      obtain ⟨dq, hdq⟩ := q10
      refine ⟨fun σ H' => σ = [some (.ref a), some (.int (0 + (i : Int))), some (.ref b), some (.int (0 + (j : Int))), some (.ref t), some (.ref u), some (.ref p), some (.ref q), v8, v9] ∧ Same H10 H', ?_, ?_⟩
      · refine ⟨_, rfl, _, rfl, p, dp, _, .ref C, rfl, hdp, .base (.ins hdq T.cl Z.ha Z.hn Z.htk Z.hm), W.ns, p, f, m, _, rfl, ⟨dp, hdp⟩, .inl ⟨q, g, n, rfl, ⟨dq, hdq⟩, _, rfl, ?_⟩⟩
        refine ⟨_, rfl, _, rfl, _, _, .tup (SqT.of (t10 (Same.refl _))) (.cons (.int f) (.cons (.int m) .nil)), .tup (SqT.of (u10 (Same.refl _))) (.cons (.int g) (.cons (.int n) .nil)), rfl, rfl, ?_⟩
        rw [eqv2]
        refine ⟨rfl, false, by simp, iteF ?_⟩
        refine ⟨_, rfl, _, rfl, t, _, _, _, rfl, rfl, SqT.of (t10 (Same.refl _)), rfl, _, rfl, t, _, _, _, rfl, rfl, SqT.of (t10 (Same.refl _)), rfl, fun p2 dx2 hp2 hdx2 ne3 => ?_⟩
        refine ⟨p2, dx2, _, _, rfl, upd_same, f0, by unfold Most; omega, by omega, by unfold Most; omega, rfl, ?_⟩
        rw [upd_upd]
        obtain ⟨s11, dx3, r11⟩ := run_new (C := C) (f := f) (m := m) hp2 hdx2 ne3
        generalize (upd (upd H10 dx2 (.own p2)) p2 (.ins C dx2 (rf f m))) = H11 at s11 r11 ⊢
        refine ⟨p, dp, _, .ref C, rfl, s11 _ _ hdp, .base (.ins r11 T.cl Z.ha Z.hn Z.htk Z.hm), W.ns, p, f, m, _, rfl, ⟨dp, s11 _ _ hdp⟩, .inl ⟨p2, f, m, rfl, ⟨_, r11⟩, _, rfl, ?_⟩⟩
        rw [show decide (f = f ∧ m = m) = true from decide_eq_true ⟨rfl, rfl⟩]
        exact ⟨true, rfl, iteF ⟨rfl, s11⟩⟩
      rintro σ H11 ⟨rfl, s11⟩
      refine ⟨fun σ H' => σ = [some (.ref a), some (.int (0 + (i : Int))), some (.ref b), some (.int (0 + (j : Int))), some (.ref t), some (.ref u), some (.ref p), some (.ref q), v8, v9] ∧ Same H10 H', ?_, ?_⟩
      · refine ⟨_, rfl, _, rfl, p, q, dp, dq, _, _, rfl, rfl, s11 _ _ hdp, s11 _ _ hdq, p, q, f, m, g, n, rfl, ⟨_, s11 _ _ hdp⟩, ⟨_, s11 _ _ hdq⟩, f0, by unfold Most; omega, by unfold Most; omega, g0, by unfold Most; omega, by unfold Most; omega, fun hlt p2 dx2 hp2 hdx2 ne3 => ⟨nty, ?_⟩, fun hnot => ⟨ntn, ?_⟩⟩
        · obtain ⟨s12, r12⟩ := run_new (C := C) (f := lo f g) (m := hi (f + m) (g + n) - lo f g) hp2 hdx2 ne3
          generalize (upd (upd H11 dx2 (.own p2)) p2 (.ins C dx2 (rf (lo f g) (hi (f + m) (g + n) - lo f g)))) = H12 at s12 r12 ⊢
          refine ⟨_, rfl, .inr ⟨p2, _, _, rfl, r12, fun c2 hc2 => ?_⟩⟩
          have s13 : Same H12 (upd H12 c2 (.tup [.int (lo f g), .int (hi (f + m) (g + n) - lo f g)])) := put_same hc2
          have c13 : TupAt (upd H12 c2 (.tup [.int (lo f g), .int (hi (f + m) (g + n) - lo f g)])) c2 _ _ := upd_same
          generalize (upd H12 c2 (.tup [.int (lo f g), .int (hi (f + m) (g + n) - lo f g)])) = H13 at s13 c13 ⊢
          have s1013 := (s11.trans s12).trans s13
          refine ⟨_, rfl, _, rfl, t, u, f, m, g, n, rfl, t10 s1013, u10 s1013, fun _ c3 hc3 => ?_, fun hn => absurd hlt hn⟩
          have s14 : Same H13 (upd H13 c3 (.tup [.int (lo f g), .int (hi (f + m) (g + n) - lo f g)])) := put_same hc3
          have c14 : TupAt (upd H13 c3 (.tup [.int (lo f g), .int (hi (f + m) (g + n) - lo f g)])) c3 _ _ := upd_same
          generalize (upd H13 c3 (.tup [.int (lo f g), .int (hi (f + m) (g + n) - lo f g)])) = H14 at s14 c14 ⊢
          refine ⟨_, _, dp2 (s14 _ _ c13), dp2 c14, rfl, rfl, ?_⟩
          rw [eqv2, show decide _ = true from decide_eq_true ⟨rfl, rfl⟩]
          have s15 := s1013.trans s14
          refine ⟨false, rfl, iteF ?_⟩
          exact ⟨rfl, s15⟩
        · refine ⟨_, rfl, .inl ⟨rfl, ?_⟩⟩
          refine ⟨_, rfl, _, rfl, t, u, f, m, g, n, rfl, t10 s11, u10 s11, fun hlt => absurd hlt hnot, fun _ => ?_⟩
          refine ⟨_, _, .non, .non, rfl, rfl, ?_⟩
          have s15 := s11
          refine ⟨false, rfl, iteF ?_⟩
          exact ⟨rfl, s15⟩
      rintro σ H11 ⟨rfl, s11⟩
      refine ⟨fun σ H' => σ = [some (.ref a), some (.int (0 + (i : Int))), some (.ref b), some (.int (0 + (j : Int))), some (.ref t), some (.ref u), some (.ref p), some (.ref q), v8, v9] ∧ Same H10 H', ?_, ?_⟩
      · refine ⟨_, rfl, _, rfl, q, p, dq, dp, _, _, rfl, rfl, s11 _ _ hdq, s11 _ _ hdp, q, p, g, n, f, m, rfl, ⟨_, s11 _ _ hdq⟩, ⟨_, s11 _ _ hdp⟩, g0, by unfold Most; omega, by unfold Most; omega, f0, by unfold Most; omega, by unfold Most; omega, fun hlt p2 dx2 hp2 hdx2 ne3 => ⟨nty, ?_⟩, fun hnot => ⟨ntn, ?_⟩⟩
        · obtain ⟨s12, r12⟩ := run_new (C := C) (f := lo g f) (m := hi (g + n) (f + m) - lo g f) hp2 hdx2 ne3
          generalize (upd (upd H11 dx2 (.own p2)) p2 (.ins C dx2 (rf (lo g f) (hi (g + n) (f + m) - lo g f)))) = H12 at s12 r12 ⊢
          refine ⟨_, rfl, .inr ⟨p2, _, _, rfl, r12, fun c2 hc2 => ?_⟩⟩
          have s13 : Same H12 (upd H12 c2 (.tup [.int (lo g f), .int (hi (g + n) (f + m) - lo g f)])) := put_same hc2
          have c13 : TupAt (upd H12 c2 (.tup [.int (lo g f), .int (hi (g + n) (f + m) - lo g f)])) c2 _ _ := upd_same
          generalize (upd H12 c2 (.tup [.int (lo g f), .int (hi (g + n) (f + m) - lo g f)])) = H13 at s13 c13 ⊢
          have s1013 := (s11.trans s12).trans s13
          refine ⟨_, rfl, _, rfl, t, u, f, m, g, n, rfl, t10 s1013, u10 s1013, fun _ c3 hc3 => ?_, fun hn => absurd (by rw [lo_comm f g, hi_comm (f + m) (g + n)] at hlt; exact hlt) hn⟩
          have s14 : Same H13 (upd H13 c3 (.tup [.int (lo f g), .int (hi (f + m) (g + n) - lo f g)])) := put_same hc3
          have c14 : TupAt (upd H13 c3 (.tup [.int (lo f g), .int (hi (f + m) (g + n) - lo f g)])) c3 _ _ := upd_same
          generalize (upd H13 c3 (.tup [.int (lo f g), .int (hi (f + m) (g + n) - lo f g)])) = H14 at s14 c14 ⊢
          refine ⟨_, _, dp2 (s14 _ _ c13), dp2 c14, rfl, rfl, ?_⟩
          rw [eqv2, show decide _ = true from decide_eq_true ⟨lo_comm f g, by rw [lo_comm f g, hi_comm (f + m) (g + n)]⟩]
          have s15 := s1013.trans s14
          refine ⟨false, rfl, iteF ?_⟩
          refine ⟨_, rfl, q, dq, _, rfl, s15 _ _ hdq, q, g, n, rfl, ⟨_, s15 _ _ hdq⟩, by omega, by omega, n, rfl, by omega, by omega, ?_⟩
          refine ⟨_, rfl, u, _, _, _, rfl, rfl, SqT.of (u10 s15), rfl, rfl, false, by simp, iteF ?_⟩
          exact ⟨rfl, s15⟩
        · refine ⟨_, rfl, .inl ⟨rfl, ?_⟩⟩
          refine ⟨_, rfl, _, rfl, t, u, f, m, g, n, rfl, t10 s11, u10 s11, fun hlt => absurd (by rw [lo_comm f g, hi_comm (f + m) (g + n)]; exact hlt) hnot, fun _ => ?_⟩
          refine ⟨_, _, .non, .non, rfl, rfl, ?_⟩
          have s15 := s11
          refine ⟨false, rfl, iteF ?_⟩
          refine ⟨_, rfl, q, dq, _, rfl, s15 _ _ hdq, q, g, n, rfl, ⟨_, s15 _ _ hdq⟩, by omega, by omega, n, rfl, by omega, by omega, ?_⟩
          refine ⟨_, rfl, u, _, _, _, rfl, rfl, SqT.of (u10 s15), rfl, rfl, false, by simp, iteF ?_⟩
          exact ⟨rfl, s15⟩
      rintro σ H11 ⟨rfl, s11⟩
      have lf := len_int (i := f) f0 (by omega)
      have lm := len_int (i := m) (by omega) (by omega)
      have rtx : ∀ {H'}, Same H10 H' → RTxt C p (txt f m) H' := fun s' => ⟨f, m, ⟨dp, s' _ _ hdp⟩, f0, by omega, by omega, by omega, rfl⟩
      refine ⟨_, rfl, _, rfl, t, _, rfl, .inr (SqT.of (t10 s11)), fun l1 hl1 => ?_⟩
      have s12 : Same H11 (upd H11 l1 (.lst [.int f, .int m])) := put_same hl1
      have h12 : (upd H11 l1 (.lst [.int f, .int m])) l1 = some (.lst [.int f, .int m]) := upd_same
      generalize (upd H11 l1 (.lst [.int f, .int m])) = H12 at s12 h12 ⊢
      have s1012 := s11.trans s12
      refine ⟨_, rfl, t, _, _, _, rfl, rfl, SqT.of (t10 s1012), rfl, _, rfl, p, txt f m, dp, _, rfl, s1012 _ _ hdp, rtx s1012, fun H13 e13 => ?_⟩
      have s13 : Same H12 H13 := fun q o e => e13 q o e
      refine ⟨_, rfl, (by show 1 ≤ sizeLine; decide), fun l2 hl2 => ?_⟩
      have s14 : Same H13 (upd H13 l2 (.lst [.ref p])) := put_same hl2
      have h14 : (upd H13 l2 (.lst [.ref p])) l2 = some (.lst [.ref p]) := upd_same
      generalize (upd H13 l2 (.lst [.ref p])) = H14 at s14 h14 ⊢
      refine ⟨_, rfl, (by show 1 ≤ sizeLine; decide), fun l3 hl3 => ?_⟩
      have s15 : Same H14 (upd H14 l3 (.tup [.ref p])) := put_same hl3
      have h15 : (upd H14 l3 (.tup [.ref p])) l3 = some (.tup [.ref p]) := upd_same
      generalize (upd H14 l3 (.tup [.ref p])) = H15 at s15 h15 ⊢
      refine ⟨(by show 8 ≤ sizeLine; decide), fun l4 hl4 => ?_⟩
      have s16 : Same H15 (upd H15 l4 (.lst [.ref t, .ref l1, .non, .int f, .str (txt f m), .bl true, .ref l2, .ref l3])) := put_same hl4
      have h16 : (upd H15 l4 (.lst [.ref t, .ref l1, .non, .int f, .str (txt f m), .bl true, .ref l2, .ref l3])) l4 = some (.lst [.ref t, .ref l1, .non, .int f, .str (txt f m), .bl true, .ref l2, .ref l3]) := upd_same
      generalize (upd H15 l4 (.lst [.ref t, .ref l1, .non, .int f, .str (txt f m), .bl true, .ref l2, .ref l3])) = H16 at s16 h16 ⊢
      have s1016 := (((s1012.trans s13).trans s14).trans s15).trans s16
      have k1 := (((s13.trans s14).trans s15).trans s16) _ _ h12
      have k2 := (s15.trans s16) _ _ h14
      have k3 := s16 _ _ h15
      have allO : ∀ (i : Nat) (x : V), [V.ref t, .ref l1, .non, .int f, .str (txt f m), .bl true, .ref l2, .ref l3][i]? = some x → ∀ {H'}, Same H16 H' → Oth K C H' x := fun i x hx {H'} s' => by
        have hm := List.mem_of_getElem? hx
        simp only [List.mem_cons, List.not_mem_nil, or_false] at hm
        rcases hm with rfl | rfl | rfl | rfl | rfl | rfl | rfl | rfl
        · exact ⟨_, .base (.tup (t10 (s1016.trans s'))), W.nTup, W.tup⟩
        · exact ⟨_, .base (.lst (s' _ _ k1)), W.nList, W.list⟩
        · exact ⟨_, .base .non, W.nNon, W.non⟩
        · exact ⟨_, .base (.int _), W.nInt, W.int⟩
        · exact ⟨_, .base (.str _), W.nStr, W.str⟩
        · exact ⟨_, .base (.bl _), W.nBool, W.bool⟩
        · exact ⟨_, .base (.lst (s' _ _ k2)), W.nList, W.list⟩
        · exact ⟨_, .base (.tup (s' _ _ k3)), W.nTup, W.tup⟩
      refine ⟨fun σ H' => σ = [some (.ref a), some (.int (0 + (i : Int))), some (.ref b), some (.int (0 + (j : Int))), some (.ref t), some (.ref u), some (.ref p), some (.ref q), some (.ref l4), v9] ∧ Same H16 H', ?_, ?_⟩
      · refine ⟨_, rfl, l4, rfl, ⟨_, SqL.of h16⟩, fun D hD => lc_list (K := K) (a := l4) (xs := [V.ref t, .ref l1, .non, .int f, .str (txt f m), .bl true, .ref l2, .ref l3]) (fun i H' => Same H16 H' ∧ H' D = some (.lst ((List.replicate i false).map V.bl)))
          ⟨put_same hD, upd_same⟩ (fun i H' _ ⟨s, _⟩ => s.seq (SqL.of h16)) ?_ ?_⟩
        · rintro i7 x H7 hx ⟨s7, h7D⟩
          obtain ⟨ty, hty, hnf, hk⟩ := allO i7 x hx s7
          have hi8 : i7 < 8 := (List.getElem?_eq_some_iff.mp hx).1
          refine ⟨rfl, iteT (B := Same H16 H7 ∧ H7 D = some (.lst ((List.replicate (i7 + 1) false).map V.bl))) ?_⟩
          have hp7 := (s1016.trans s7) _ _ hdp
          refine ⟨_, rfl, _, rfl, p, dp, _, ty, rfl, hp7, hty, hnf, p, f, m, x, rfl, ⟨_, hp7⟩, .inr ⟨ty, hty, hk, _, rfl, ?_⟩⟩
          refine ⟨_, h7D, ?_, fun q o e => ?_, by rw [upd_same, rep_snoc]⟩
          · rw [List.length_map, List.length_replicate]
            exact Nat.lt_of_lt_of_le (show i7 < 8 from hi8) (by decide)
          · rw [upd_ne (ne_of_none e hD)]
            exact s7 _ _ e
        · rintro H17 ⟨s17, h17D⟩
          refine ⟨D, List.replicate 8 false, rfl, SqL.of h17D, ?_⟩
          exact ⟨_, rfl, iteF ⟨rfl, s17⟩⟩
      rintro σ H17 ⟨rfl, s17⟩
      have s1017 := s1016.trans s17
      refine ⟨_, rfl, _, rfl, t, _, _, _, rfl, rfl, SqT.of (t10 s1017), rfl, _, _, rfl, rfl, _, rfl, t, _, _, _, rfl, rfl, SqT.of (t10 s1017), rfl, _, rfl, t, _, _, _, rfl, rfl, SqT.of (t10 s1017), rfl, _, _, rfl, rfl, _, _, rfl, rfl, _, rfl, t, _, _, _, rfl, rfl, SqT.of (t10 s1017), rfl, _, rfl, t, _, _, _, rfl, rfl, SqT.of (t10 s1017), rfl, _, _, rfl, rfl, _, rfl, u, _, _, _, rfl, rfl, SqT.of (u10 s1017), rfl, _, rfl, _, rfl, (by show 10 ≤ sizeLine; decide), fun l5 hl5 => ?_⟩
      have s18 : Same H17 (upd H17 l5 (.lst [V.int (f - 1), .int (f + m - 1), .int (f + m), .int g, .bl false, .str "", .int (-1), .int 0, .int 1, .ref q])) := put_same hl5
      have h18 : (upd H17 l5 (.lst [V.int (f - 1), .int (f + m - 1), .int (f + m), .int g, .bl false, .str "", .int (-1), .int 0, .int 1, .ref q])) l5 = some (.lst [V.int (f - 1), .int (f + m - 1), .int (f + m), .int g, .bl false, .str "", .int (-1), .int 0, .int 1, .ref q]) := upd_same
      refine ⟨l4, l5, _, _, rfl, rfl, (s17.trans s18) _ _ h16, h18, (by show 18 ≤ sizeLine; decide), fun l6 hl6 => ?_⟩
      generalize (upd H17 l5 (.lst [V.int (f - 1), .int (f + m - 1), .int (f + m), .int g, .bl false, .str "", .int (-1), .int 0, .int 1, .ref q])) = H18 at s18 h18 hl6 ⊢
      have s19 : Same H18 (upd H18 l6 (.lst ([V.ref t, .ref l1, .non, .int f, .str (txt f m), .bl true, .ref l2, .ref l3] ++ [V.int (f - 1), .int (f + m - 1), .int (f + m), .int g, .bl false, .str "", .int (-1), .int 0, .int 1, .ref q]))) := put_same hl6
      have h19 : (upd H18 l6 (.lst ([V.ref t, .ref l1, .non, .int f, .str (txt f m), .bl true, .ref l2, .ref l3] ++ [V.int (f - 1), .int (f + m - 1), .int (f + m), .int g, .bl false, .str "", .int (-1), .int 0, .int 1, .ref q]))) l6 = some (.lst ([V.ref t, .ref l1, .non, .int f, .str (txt f m), .bl true, .ref l2, .ref l3] ++ [V.int (f - 1), .int (f + m - 1), .int (f + m), .int g, .bl false, .str "", .int (-1), .int 0, .int 1, .ref q])) := upd_same
      generalize (upd H18 l6 (.lst ([V.ref t, .ref l1, .non, .int f, .str (txt f m), .bl true, .ref l2, .ref l3] ++ [V.int (f - 1), .int (f + m - 1), .int (f + m), .int g, .bl false, .str "", .int (-1), .int 0, .int 1, .ref q]))) = H19 at s19 h19 ⊢
      have s1019 := (s1017.trans s18).trans s19
      have s1619 := (s17.trans s18).trans s19
      have allT : ∀ (i : Nat) (x : V), ([V.ref t, .ref l1, .non, .int f, .str (txt f m), .bl true, .ref l2, .ref l3] ++ [V.int (f - 1), .int (f + m - 1), .int (f + m), .int g, .bl false, .str "", .int (-1), .int 0, .int 1, .ref q])[i]? = some x → ∀ {H'}, Same H19 H' → Thg K H' x := fun i x hx {H'} s' => by
        have hm := List.mem_of_getElem? hx
        simp only [List.cons_append, List.nil_append, List.mem_cons, List.not_mem_nil, or_false] at hm
        have st := s1619.trans s'
        rcases hm with rfl | rfl | rfl | rfl | rfl | rfl | rfl | rfl | rfl | rfl | rfl | rfl | rfl | rfl | rfl | rfl | rfl | rfl
        · exact .inr (.inr ⟨⟨_, .base (.tup (t10 (s1016.trans st))), kit_ty (by decide +kernel)⟩, fun v z => by cases z⟩)
        · exact .inr (.inr ⟨⟨_, .base (.lst (st _ _ k1)), kit_ty (by decide +kernel)⟩, fun v z => by cases z⟩)
        · exact .inr (.inr ⟨⟨_, .base .non, kit_ty (by decide +kernel)⟩, fun v z => by cases z⟩)
        · exact .inl ⟨_, rfl⟩
        · exact .inr (.inr ⟨⟨_, .base (.str _), kit_ty (by decide +kernel)⟩, fun v z => by cases z⟩)
        · exact .inr (.inl ⟨_, rfl⟩)
        · exact .inr (.inr ⟨⟨_, .base (.lst (st _ _ k2)), kit_ty (by decide +kernel)⟩, fun v z => by cases z⟩)
        · exact .inr (.inr ⟨⟨_, .base (.tup (st _ _ k3)), kit_ty (by decide +kernel)⟩, fun v z => by cases z⟩)
        · exact .inl ⟨_, rfl⟩
        · exact .inl ⟨_, rfl⟩
        · exact .inl ⟨_, rfl⟩
        · exact .inl ⟨_, rfl⟩
        · exact .inr (.inl ⟨_, rfl⟩)
        · exact .inr (.inr ⟨⟨_, .base (.str _), kit_ty (by decide +kernel)⟩, fun v z => by cases z⟩)
        · exact .inl ⟨_, rfl⟩
        · exact .inl ⟨_, rfl⟩
        · exact .inl ⟨_, rfl⟩
        · exact .inr (.inr ⟨⟨_, .base (.ins ((s1016.trans st) _ _ hdq) T.cl Z.ha Z.hn Z.htk Z.hm), W.runInt⟩, fun v z => by cases z⟩)
      have hxl : ([V.ref t, .ref l1, .non, .int f, .str (txt f m), .bl true, .ref l2, .ref l3] ++ [V.int (f - 1), .int (f + m - 1), .int (f + m), .int g, .bl false, .str "", .int (-1), .int 0, .int 1, .ref q]).length = 18 := rfl
      generalize [V.ref t, .ref l1, .non, .int f, .str (txt f m), .bl true, .ref l2, .ref l3] ++ [V.int (f - 1), .int (f + m - 1), .int (f + m), .int g, .bl false, .str "", .int (-1), .int 0, .int 1, .ref q] = xs at h19 allT hxl ⊢
      refine ⟨fun σ H' => σ = [some (.ref a), some (.int (0 + (i : Int))), some (.ref b), some (.int (0 + (j : Int))), some (.ref t), some (.ref u), some (.ref p), some (.ref q), some (.ref l6), v9] ∧ Same H19 H', ?_, ?_⟩
      · refine ⟨_, rfl, l6, rfl, ⟨_, SqL.of ((Same.refl H19) _ _ h19)⟩, fun D hD => lc_list (K := K) (a := l6) (xs := xs) (fun i H' => Same H19 H' ∧ H' D = some (.lst (((xs.take i).map (memb f m)).map V.bl)))
          ⟨put_same hD, upd_same⟩ (fun i H' _ ⟨s, _⟩ => s.seq (SqL.of ((Same.refl H19) _ _ h19))) ?_ ?_⟩
        · rintro i7 x H7 hx ⟨s7, h7D⟩
          have hi18 : i7 < 18 := by
            have := (List.getElem?_eq_some_iff.mp hx).1
            rw [hxl] at this
            exact this
          have s77 := ((Same.refl H19)).trans s7
          refine ⟨rfl, iteT (B := Same H19 H7 ∧ H7 D = some (.lst (((xs.take (i7 + 1)).map (memb f m)).map V.bl))) ?_⟩
          have hp7 := (s1019.trans s77) _ _ hdp
          have ht7 := t10 (s1019.trans s77)
          have put : ∀ y, y = V.bl (memb f m x) → ∃ acc, H7 D = some (.lst acc) ∧ acc.length < sizeLine ∧ Same H19 (upd H7 D (.lst (acc ++ [y]))) ∧ (upd H7 D (.lst (acc ++ [y]))) D = some (.lst (((xs.take (i7 + 1)).map (memb f m)).map V.bl)) := fun y ey => by
            subst ey
            refine ⟨_, h7D, ?_, fun q o e => ?_, by rw [upd_same, take_bls (memb f m) hx]⟩
            · rw [List.length_map, List.length_map, List.length_take]
              exact Nat.lt_of_le_of_lt (Nat.min_le_left _ _) (Nat.lt_of_lt_of_le hi18 (by decide))
            · rw [upd_ne (ne_of_none e hD)]
              exact s7 _ _ e
          rcases allT i7 x hx s77 with ⟨v, rfl⟩ | ⟨bb, rfl⟩ | ⟨⟨ty, hty, hk⟩, hno⟩
          · exact ⟨_, rfl, _, rfl, p, dp, _, rfl, hp7, p, f, m, _, rfl, ⟨_, hp7⟩, .inl ⟨v, rfl, _, rfl, put _ (congrArg V.bl (decide_eq_decide.mpr ⟨fun z => by omega, fun z => by omega⟩))⟩⟩
          · exact ⟨_, rfl, _, rfl, p, dp, _, rfl, hp7, p, f, m, _, rfl, ⟨_, hp7⟩, .inr (.inl ⟨bb, rfl, _, rfl, put _ rfl⟩)⟩
          · exact ⟨_, rfl, _, rfl, p, dp, _, rfl, hp7, p, f, m, _, rfl, ⟨_, hp7⟩, .inr (.inr ⟨ty, hty, hk, _, rfl, put _ (by rw [memb_no hno])⟩)⟩
        · rintro H20 ⟨s20, h20D⟩
          refine ⟨_, rfl, l6, rfl, ⟨_, SqL.of (s20 _ _ h19)⟩, fun D2 hD2 => lc_list (K := K) (a := l6) (xs := xs) (fun i H' => Same H20 H' ∧ H' D2 = some (.lst (((xs.take i).map (memb f m)).map V.bl)))
          ⟨put_same hD2, upd_same⟩ (fun i H' _ ⟨s, _⟩ => s.seq (SqL.of (s20 _ _ h19))) ?_ ?_⟩
          · rintro i7 x H7 hx ⟨s7, h7D⟩
            have hi18 : i7 < 18 := by
              have := (List.getElem?_eq_some_iff.mp hx).1
              rw [hxl] at this
              exact this
            have s77 := (s20).trans s7
            refine ⟨rfl, iteT (B := Same H20 H7 ∧ H7 D2 = some (.lst (((xs.take (i7 + 1)).map (memb f m)).map V.bl))) ?_⟩
            have hp7 := (s1019.trans s77) _ _ hdp
            have ht7 := t10 (s1019.trans s77)
            have put : ∀ y, y = V.bl (memb f m x) → ∃ acc, H7 D2 = some (.lst acc) ∧ acc.length < sizeLine ∧ Same H20 (upd H7 D2 (.lst (acc ++ [y]))) ∧ (upd H7 D2 (.lst (acc ++ [y]))) D2 = some (.lst (((xs.take (i7 + 1)).map (memb f m)).map V.bl)) := fun y ey => by
              subst ey
              refine ⟨_, h7D, ?_, fun q o e => ?_, by rw [upd_same, take_bls (memb f m) hx]⟩
              · rw [List.length_map, List.length_map, List.length_take]
                exact Nat.lt_of_le_of_lt (Nat.min_le_left _ _) (Nat.lt_of_lt_of_le hi18 (by decide))
              · rw [upd_ne (ne_of_none e hD2)]
                exact s7 _ _ e
            rcases allT i7 x hx s77 with ⟨v, rfl⟩ | ⟨bb, rfl⟩ | ⟨⟨ty, hty, hk⟩, hno⟩
            · exact ⟨_, rfl, _, rfl, t, f, m, _, rfl, ht7, .inl ⟨v, rfl, put _ rfl⟩⟩
            · exact ⟨_, rfl, _, rfl, t, f, m, _, rfl, ht7, .inr (.inl ⟨bb, rfl, put _ rfl⟩)⟩
            · exact ⟨_, rfl, _, rfl, t, f, m, _, rfl, ht7, .inr (.inr ⟨ty, hty, hk, put _ (by rw [memb_no hno])⟩)⟩
          · rintro H21 ⟨s21, h21D⟩
            rw [List.take_length] at h20D h21D
            refine ⟨_, _, dp_bls (SqL.of (s21 _ _ h20D)), dp_bls (SqL.of h21D), shaped_bls _, shaped_bls _, ?_⟩
            rw [eqv_self (shaped_bls _)]
            exact ⟨false, rfl, iteF ⟨rfl, s20.trans s21⟩⟩
      rintro σ H20 ⟨rfl, s20⟩
      have s1020 := s1019.trans s20
      refine ⟨_, rfl, p, txt f m, dp, _, rfl, s1020 _ _ hdp, rtx s1020, fun H21 e21 => ?_⟩
      have s1021 : Same H10 H21 := s1020.trans fun q o e => e21 q o e
      have small : ∀ {n : Nat}, n ≤ 100 → n ≤ sizeLine := fun h => Nat.le_trans h (by decide)
      have c1 : (Str.ofString "Run(").length = 4 := by decide +kernel
      have c2 : (Str.ofString ", ").length = 2 := by decide +kernel
      have c3 : (Str.ofString ")").length = 1 := by decide +kernel
      refine ⟨_, rfl, t, _, _, _, rfl, rfl, SqT.of (t10 s1021), rfl, _, rfl, log_lt f0 (by omega), _, _, rfl, rfl, small ?_, _, _, rfl, rfl, small ?_, _, rfl, t, _, _, _, rfl, rfl, SqT.of (t10 s1021), rfl, _, rfl, log_lt (by omega) (by omega), _, _, rfl, rfl, small ?_, _, _, rfl, rfl, small ?_, ?_⟩
      · rw [c1]; omega
      · rw [strLen_append, c1, c2]; omega
      · rw [strLen_append, strLen_append, c1, c2]; omega
      · rw [strLen_append, strLen_append, strLen_append, c1, c2, c3]; omega
      refine ⟨rfl, false, congrArg (fun b => V.bl (!b)) (decide_eq_true (congrArg V.str (txt_eq f m).symm)), iteF ?_⟩
      refine ⟨_, rfl, p, dp, _, rfl, s1021 _ _ hdp, p, f, m, rfl, ⟨_, s1021 _ _ hdp⟩, by omega, by omega, m, rfl, by omega, by omega, _, rfl, t, _, _, _, rfl, rfl, SqT.of (t10 s1021), rfl, rfl, false, by simp, iteF ?_⟩
      have se := s610.trans s1021
      exact ⟨_, _, _, _, _, _, _, rfl, s6.trans se, (b6.sameN se).le (by omega)⟩
    · rintro σ H5 ⟨v3, v4, v5, v6, v7, v8, v9, rfl, s5, b5⟩
      exact ⟨_, _, _, _, _, _, _, _, _, rfl, s5⟩
  · rintro σ H2 ⟨v1, v2, v3, v4, v5, v6, v7, v8, v9, rfl, s2⟩
    rfl
end
end Rt
namespace Rt
open PySem L2
/-! ### what the top has written, the head -/
theorem all_mk {lw : PySem.W.OpenLaw} {w : World} {K : PySem.W.Frag} {h : Heap} {mg : Str → Option Value} {fa f99 f1 f2 f3 f17 f18 f19 f20 f4 f6 f8 f9 f10 f11 f12 f13 f14 f15 pp4 C : Addr} {tM : Tok} (X : K.In h) (G : h.Ns mainGlobals mg) (hfa : mg "law" = some (.ref fa))
    {od99 an99 od1 an1 od2 an2 od3 an3 od17 an17 od18 an18 od19 an19 od20 an20 od4 an4 od6 an6 od8 an8 od9 an9 od10 an10 od11 an11 od12 an12 od13 an13 od14 an14 od15 an15 : Option Addr} {sl99 sl1 sl2 sl3 sl17 sl18 sl19 sl20 sl4 sl6 sl8 sl9 sl10 sl11 sl12 sl13 sl14 sl15 : Array (Option Value)} {oc99 kV99 dc99 pm99 cd99 ct99 oc1 kV1 dc1 pm1 cd1 ct1 oc2 kV2 dc2 pm2 cd2 ct2 oc3 kV3 dc3 pm3 cd3 ct3 oc17 kV17 dc17 pm17 cd17 ct17 oc18 kV18 dc18 pm18 cd18 ct18 oc19 kV19 dc19 pm19 cd19 ct19 oc20 kV20 dc20 pm20 cd20 ct20 oc4 kV4 dc4 pm4 cd4 ct4 oc6 kV6 dc6 pm6 cd6 ct6 oc8 kV8 dc8 pm8 cd8 ct8 oc9 kV9 dc9 pm9 cd9 ct9 oc10 kV10 dc10 pm10 cd10 ct10 oc11 kV11 dc11 pm11 cd11 ct11 oc12 kV12 dc12 pm12 cd12 ct12 oc13 kV13 dc13 pm13 cd13 ct13 oc14 kV14 dc14 pm14 cd14 ct14 oc15 kV15 dc15 pm15 cd15 ct15 : Value}
    {rest4 : List Value}
    (aC : PySem.W.nsIn K mainGlobals "Run" = some (some (.ref C)))
    (a1 : PySem.W.findIn K (.ref C) "__init__" = some (some (.ref f1)))
    (i1 : PySem.W.isFn K (.ref f1) = true)
    (a2 : PySem.W.findIn K (.ref C) "words" = some (some (.ref f2)))
    (i2 : PySem.W.isFn K (.ref f2) = true)
    (a3 : PySem.W.findIn K (.ref C) "__eq__" = some (some (.ref f3)))
    (i3 : PySem.W.isFn K (.ref f3) = true)
    (a17 : PySem.W.findIn K (.ref C) "__repr__" = some (some (.ref f17)))
    (i17 : PySem.W.isFn K (.ref f17) = true)
    (a18 : PySem.W.findIn K (.ref C) "__contains__" = some (some (.ref f18)))
    (i18 : PySem.W.isFn K (.ref f18) = true)
    (a19 : PySem.W.findIn K (.ref C) "__and__" = some (some (.ref f19)))
    (i19 : PySem.W.isFn K (.ref f19) = true)
    (a20 : PySem.W.findIn K (.ref C) "__len__" = some (some (.ref f20)))
    (i20 : PySem.W.isFn K (.ref f20) = true)
    (p14 : PySem.W.findIn K (.ref C) "end" = some (some (.ref pp4)))
    (p24 : PySem.W.specialIn K (.ref pp4) "__get__" = some (some (.builtin "property.__get__")))
    (p34 : PySem.W.takesIn K (.ref pp4) = some true)
    (p44 : PySem.W.recIn K pp4 "property" = some (.ref f4 :: rest4))
    (a6 : PySem.W.nsIn K mainGlobals "whole" = some (some (.ref f6)))
    (a99 : PySem.W.nsIn K mainGlobals "integer" = some (some (.ref f99)))
    (a8 : PySem.W.nsIn K mainGlobals "_law_bag" = some (some (.ref f8)))
    (a9 : PySem.W.nsIn K mainGlobals "_law_take" = some (some (.ref f9)))
    (a10 : PySem.W.nsIn K mainGlobals "_law_pair" = some (some (.ref f10)))
    (a11 : PySem.W.nsIn K mainGlobals "_law_common" = some (some (.ref f11)))
    (a12 : PySem.W.nsIn K mainGlobals "_law_shown" = some (some (.ref f12)))
    (a13 : PySem.W.nsIn K mainGlobals "_law_is_member" = some (some (.ref f13)))
    (a14 : PySem.W.nsIn K mainGlobals "_law_begin" = some (some (.ref f14)))
    (a15 : PySem.W.nsIn K mainGlobals "law" = some (some (.ref f15)))
    (l1 : K.lookup f1 = some ⟨oc1, od1, .func (PySem.W.fnOf "__init__" "Run.__init__" (defArgs sInit) (defBody sInit) (defScope sInit) .none kV1 dc1 pm1 an1 cd1 ct1), sl1⟩)
    (c1 : PySem.W.codeIn K cd1 "Run.__init__" = true)
    (k1 : PySem.W.keepIn K (.ref f1) = true)
    (l2 : K.lookup f2 = some ⟨oc2, od2, .func (PySem.W.fnOf "words" "Run.words" (defArgs sWords) (defBody sWords) (defScope sWords) .none kV2 dc2 pm2 an2 cd2 ct2), sl2⟩)
    (c2 : PySem.W.codeIn K cd2 "Run.words" = true)
    (k2 : PySem.W.keepIn K (.ref f2) = true)
    (l3 : K.lookup f3 = some ⟨oc3, od3, .func (PySem.W.fnOf "__eq__" "Run.__eq__" (defArgs sEq) (defBody sEq) (defScope sEq) .none kV3 dc3 pm3 an3 cd3 ct3), sl3⟩)
    (c3 : PySem.W.codeIn K cd3 "Run.__eq__" = true)
    (k3 : PySem.W.keepIn K (.ref f3) = true)
    (l17 : K.lookup f17 = some ⟨oc17, od17, .func (PySem.W.fnOf "__repr__" "Run.__repr__" (defArgs sRepr) (defBody sRepr) (defScope sRepr) .none kV17 dc17 pm17 an17 cd17 ct17), sl17⟩)
    (c17 : PySem.W.codeIn K cd17 "Run.__repr__" = true)
    (k17 : PySem.W.keepIn K (.ref f17) = true)
    (l18 : K.lookup f18 = some ⟨oc18, od18, .func (PySem.W.fnOf "__contains__" "Run.__contains__" (defArgs sContains) (defBody sContains) (defScope sContains) .none kV18 dc18 pm18 an18 cd18 ct18), sl18⟩)
    (c18 : PySem.W.codeIn K cd18 "Run.__contains__" = true)
    (k18 : PySem.W.keepIn K (.ref f18) = true)
    (l19 : K.lookup f19 = some ⟨oc19, od19, .func (PySem.W.fnOf "__and__" "Run.__and__" (defArgs sAnd) (defBody sAnd) (defScope sAnd) .none kV19 dc19 pm19 an19 cd19 ct19), sl19⟩)
    (c19 : PySem.W.codeIn K cd19 "Run.__and__" = true)
    (k19 : PySem.W.keepIn K (.ref f19) = true)
    (l20 : K.lookup f20 = some ⟨oc20, od20, .func (PySem.W.fnOf "__len__" "Run.__len__" (defArgs sLen) (defBody sLen) (defScope sLen) .none kV20 dc20 pm20 an20 cd20 ct20), sl20⟩)
    (c20 : PySem.W.codeIn K cd20 "Run.__len__" = true)
    (k20 : PySem.W.keepIn K (.ref f20) = true)
    (l4 : K.lookup f4 = some ⟨oc4, od4, .func (PySem.W.fnOf "end" "Run.end" (defArgs sEnd) (defBody sEnd) (defScope sEnd) .none kV4 dc4 pm4 an4 cd4 ct4), sl4⟩)
    (c4 : PySem.W.codeIn K cd4 "Run.end" = true)
    (k4 : PySem.W.keepIn K (.ref f4) = true)
    (l6 : K.lookup f6 = some ⟨oc6, od6, .func (PySem.W.fnOf "whole" "whole" (defArgs sWhole) (defBody sWhole) (defScope sWhole) .none kV6 dc6 pm6 an6 cd6 ct6), sl6⟩)
    (l99 : K.lookup f99 = some ⟨oc99, od99, .func (PySem.W.fnOf "integer" "integer" (defArgs sInteger) (defBody sInteger) (defScope sInteger) .none kV99 dc99 pm99 an99 cd99 ct99), sl99⟩)
    (c6 : PySem.W.codeIn K cd6 "whole" = true)
    (c99 : PySem.W.codeIn K cd99 "integer" = true)
    (k6 : PySem.W.keepIn K (.ref f6) = true)
    (k99 : PySem.W.keepIn K (.ref f99) = true)
    (l8 : K.lookup f8 = some ⟨oc8, od8, .func (PySem.W.fnOf "_law_bag" "_law_bag" (defArgs sBag) (defBody sBag) (defScope sBag) .none kV8 dc8 pm8 an8 cd8 ct8), sl8⟩)
    (c8 : PySem.W.codeIn K cd8 "_law_bag" = true)
    (k8 : PySem.W.keepIn K (.ref f8) = true)
    (l9 : K.lookup f9 = some ⟨oc9, od9, .func (PySem.W.fnOf "_law_take" "_law_take" (defArgs sTake) (defBody sTake) (defScope sTake) .none kV9 dc9 pm9 an9 cd9 ct9), sl9⟩)
    (c9 : PySem.W.codeIn K cd9 "_law_take" = true)
    (k9 : PySem.W.keepIn K (.ref f9) = true)
    (l10 : K.lookup f10 = some ⟨oc10, od10, .func (PySem.W.fnOf "_law_pair" "_law_pair" (defArgs sLPair) (defBody sLPair) (defScope sLPair) .none kV10 dc10 pm10 an10 cd10 ct10), sl10⟩)
    (c10 : PySem.W.codeIn K cd10 "_law_pair" = true)
    (k10 : PySem.W.keepIn K (.ref f10) = true)
    (l11 : K.lookup f11 = some ⟨oc11, od11, .func (PySem.W.fnOf "_law_common" "_law_common" (defArgs sLCommon) (defBody sLCommon) (defScope sLCommon) .none kV11 dc11 pm11 an11 cd11 ct11), sl11⟩)
    (c11 : PySem.W.codeIn K cd11 "_law_common" = true)
    (k11 : PySem.W.keepIn K (.ref f11) = true)
    (l12 : K.lookup f12 = some ⟨oc12, od12, .func (PySem.W.fnOf "_law_shown" "_law_shown" (defArgs sLShown) (defBody sLShown) (defScope sLShown) .none kV12 dc12 pm12 an12 cd12 ct12), sl12⟩)
    (c12 : PySem.W.codeIn K cd12 "_law_shown" = true)
    (k12 : PySem.W.keepIn K (.ref f12) = true)
    (l13 : K.lookup f13 = some ⟨oc13, od13, .func (PySem.W.fnOf "_law_is_member" "_law_is_member" (defArgs sLMember) (defBody sLMember) (defScope sLMember) .none kV13 dc13 pm13 an13 cd13 ct13), sl13⟩)
    (c13 : PySem.W.codeIn K cd13 "_law_is_member" = true)
    (k13 : PySem.W.keepIn K (.ref f13) = true)
    (l14 : K.lookup f14 = some ⟨oc14, od14, .func (PySem.W.fnOf "_law_begin" "_law_begin" (defArgs sLBegin) (defBody sLBegin) (defScope sLBegin) .none kV14 dc14 pm14 an14 cd14 ct14), sl14⟩)
    (c14 : PySem.W.codeIn K cd14 "_law_begin" = true)
    (k14 : PySem.W.keepIn K (.ref f14) = true)
    (l15 : K.lookup f15 = some ⟨oc15, od15, .func (PySem.W.fnOf "law" "law" (defArgs sLaw) (defBody sLaw) (defScope sLaw) .none kV15 dc15 pm15 an15 cd15 ct15), sl15⟩)
    (c15 : PySem.W.codeIn K cd15 "law" = true)
    (k15 : PySem.W.keepIn K (.ref f15) = true)
    (pg : PySem.W.plainGet K C Str.empty = true)
    (hd : PySem.W.hasDictIn K C = true)
    (po : PySem.W.plainOver K C = true)
    (sa : PySem.W.findIn K (.ref C) "__setattr__" = some (some (.builtin "object.__setattr__")))
    (mk : PySem.W.makesIn K C = true)
    (kc : PySem.W.keepIn K (.ref C) = true)
    (nF : PySem.W.findIn K (.ref C) "first" = some none)
    (nM : PySem.W.findIn K (.ref C) "many" = some none)
    (r1 : PySem.W.readsIn K C (.type "type") = true)
    (r2 : PySem.W.specialIn K (.ref C) "__getattribute__" = some (some (.builtin "type.__getattribute__")))
    (mo : PySem.W.nsIn K mainGlobals "_MOST" = some (some (.int 1000000000000 tM)))
    (e1 : PySem.W.findIn K (.ref C) "__class__" = some (some (.builtin "object.__class__")))
    (e2 : PySem.W.specialIn K (.builtin "object.__class__") "__get__" = some (some (.builtin "getset_descriptor.__get__")))
    (e3 : PySem.W.takesIn K (.builtin "object.__class__") = some true)
    (e4 : PySem.W.mroIn K C (.type "object") = some true)
    (sf : PySem.W.selfFirst K C = true)
    (ns : PySem.W.notFirst K C (.ref C) = true)
    (x_tuple : PySem.W.kitOne K (.type "tuple") (.ref C) = some false)
    (x_list : PySem.W.kitOne K (.type "list") (.ref C) = some false)
    (x_NoneType : PySem.W.kitOne K (.type "NoneType") (.ref C) = some false)
    (x_int : PySem.W.kitOne K (.type "int") (.ref C) = some false)
    (x_str : PySem.W.kitOne K (.type "str") (.ref C) = some false)
    (x_bool : PySem.W.kitOne K (.type "bool") (.ref C) = some false)
    (y_tuple : PySem.W.notFirst K C (.type "tuple") = true)
    (y_list : PySem.W.notFirst K C (.type "list") = true)
    (y_NoneType : PySem.W.notFirst K C (.type "NoneType") = true)
    (y_int : PySem.W.notFirst K C (.type "int") = true)
    (y_str : PySem.W.notFirst K C (.type "str") = true)
    (y_bool : PySem.W.notFirst K C (.type "bool") = true)
    (xr : PySem.W.kitOne K (.ref C) (.type "int") = some false)
    (z_len : PySem.W.nsIn K mainGlobals "len" = some none)
    (z_abs : PySem.W.nsIn K mainGlobals "abs" = some none)
    (z_range : PySem.W.nsIn K mainGlobals "range" = some none)
    (z_min : PySem.W.nsIn K mainGlobals "min" = some none)
    (z_max : PySem.W.nsIn K mainGlobals "max" = some none)
    (z_list : PySem.W.nsIn K mainGlobals "list" = some none)
    (z_any : PySem.W.nsIn K mainGlobals "any" = some none)
    (z_str : PySem.W.nsIn K mainGlobals "str" = some none)
    (z_repr : PySem.W.nsIn K mainGlobals "repr" = some none)
    (z_isinstance : PySem.W.nsIn K mainGlobals "isinstance" = some none)
    (z_int : PySem.W.nsIn K mainGlobals "int" = some none)
    (z_bool : PySem.W.nsIn K mainGlobals "bool" = some none) :
    Tp.TopOk lw.prog w K mg fa 63 := by
  have e := hfa.symm.trans (PySem.W.mg_of X G a15)
  cases e
  have F1 := fun_mk (st := sInit) l1 c1 k1
  have b1 := F1.binds (ps := ["self", "first", "many"]) fun _ _ _ _ _ _ us hl => match us, hl with | [_, _, _], _ => rfl
  have F2 := fun_mk (st := sWords) l2 c2 k2
  have b2 := F2.binds (ps := ["self"]) fun _ _ _ _ _ _ us hl => match us, hl with | [_], _ => rfl
  have F3 := fun_mk (st := sEq) l3 c3 k3
  have b3 := F3.binds (ps := ["self", "other"]) fun _ _ _ _ _ _ us hl => match us, hl with | [_, _], _ => rfl
  have F17 := fun_mk (st := sRepr) l17 c17 k17
  have b17 := F17.binds (ps := ["self"]) fun _ _ _ _ _ _ us hl => match us, hl with | [_], _ => rfl
  have F18 := fun_mk (st := sContains) l18 c18 k18
  have b18 := F18.binds (ps := ["self", "x"]) fun _ _ _ _ _ _ us hl => match us, hl with | [_, _], _ => rfl
  have F19 := fun_mk (st := sAnd) l19 c19 k19
  have b19 := F19.binds (ps := ["self", "other"]) fun _ _ _ _ _ _ us hl => match us, hl with | [_, _], _ => rfl
  have F20 := fun_mk (st := sLen) l20 c20 k20
  have b20 := F20.binds (ps := ["self"]) fun _ _ _ _ _ _ us hl => match us, hl with | [_], _ => rfl
  have F4 := fun_mk (st := sEnd) l4 c4 k4
  have b4 := F4.binds (ps := ["self"]) fun _ _ _ _ _ _ us hl => match us, hl with | [_], _ => rfl
  have F6 := fun_mk (st := sWhole) l6 c6 k6
  have F99 := fun_mk (st := sInteger) l99 c99 k99
  have b6 := F6.binds (ps := ["value", "least", "most"]) fun _ _ _ _ _ _ us hl => match us, hl with | [_, _, _], _ => rfl
  have b99 := F99.binds (ps := ["value"]) fun _ _ _ _ _ _ us hl => match us, hl with | [_], _ => rfl
  have F8 := fun_mk (st := sBag) l8 c8 k8
  have b8 := F8.binds (ps := ["_law_script", "_law_at"]) fun _ _ _ _ _ _ us hl => match us, hl with | [_, _], _ => rfl
  have F9 := fun_mk (st := sTake) l9 c9 k9
  have b9 := F9.binds (ps := ["_law_bag_here", "_law_many"]) fun _ _ _ _ _ _ us hl => match us, hl with | [_, _], _ => rfl
  have F10 := fun_mk (st := sLPair) l10 c10 k10
  have b10 := F10.binds (ps := ["_law_bag_here"]) fun _ _ _ _ _ _ us hl => match us, hl with | [_], _ => rfl
  have F11 := fun_mk (st := sLCommon) l11 c11 k11
  have b11 := F11.binds (ps := ["_law_one", "_law_other"]) fun _ _ _ _ _ _ us hl => match us, hl with | [_, _], _ => rfl
  have F12 := fun_mk (st := sLShown) l12 c12 k12
  have b12 := F12.binds (ps := ["_law_run"]) fun _ _ _ _ _ _ us hl => match us, hl with | [_], _ => rfl
  have F13 := fun_mk (st := sLMember) l13 c13 k13
  have b13 := F13.binds (ps := ["_law_run", "_law_thing"]) fun _ _ _ _ _ _ us hl => match us, hl with | [_, _], _ => rfl
  have F14 := fun_mk (st := sLBegin) l14 c14 k14
  have b14 := F14.binds (ps := ["_law_run"]) fun _ _ _ _ _ _ us hl => match us, hl with | [_], _ => rfl
  have F15 := fun_mk (st := sLaw) l15 c15 k15
  have P4 : PropOf K C "end" pp4 f4 := ⟨p14, p24, p34, ⟨_, p44⟩⟩
  have D6 : Def K mg "whole" f6 _ ["value", "least", "most"] := ⟨PySem.W.mg_of X G a6, k6, b6⟩
  have D99 : Def K mg "integer" f99 _ ["value"] := ⟨PySem.W.mg_of X G a99, k99, b99⟩
  have D8 : Def K mg "_law_bag" f8 _ ["_law_script", "_law_at"] := ⟨PySem.W.mg_of X G a8, k8, b8⟩
  have D9 : Def K mg "_law_take" f9 _ ["_law_bag_here", "_law_many"] := ⟨PySem.W.mg_of X G a9, k9, b9⟩
  have D10 : Def K mg "_law_pair" f10 _ ["_law_bag_here"] := ⟨PySem.W.mg_of X G a10, k10, b10⟩
  have D11 : Def K mg "_law_common" f11 _ ["_law_one", "_law_other"] := ⟨PySem.W.mg_of X G a11, k11, b11⟩
  have D12 : Def K mg "_law_shown" f12 _ ["_law_run"] := ⟨PySem.W.mg_of X G a12, k12, b12⟩
  have D13 : Def K mg "_law_is_member" f13 _ ["_law_run", "_law_thing"] := ⟨PySem.W.mg_of X G a13, k13, b13⟩
  have D14 : Def K mg "_law_begin" f14 _ ["_law_run"] := ⟨PySem.W.mg_of X G a14, k14, b14⟩
  intro base s H a ns' hn _ _ e0 hS
  have T : TR K mg C (.type "type") tM := ⟨⟨pg, hd, po, sa⟩, nF, nM, PySem.W.mg_of X G aC, PySem.W.mg_of X G mo, PySem.W.mg_none_of X G z_isinstance, PySem.W.mg_none_of X G z_int, PySem.W.mg_none_of X G z_bool, PySem.W.mg_none_of X G z_range, ⟨r1, r2⟩⟩
  have B : TB mg := ⟨PySem.W.mg_none_of X G z_len, PySem.W.mg_none_of X G z_abs, PySem.W.mg_none_of X G z_range, PySem.W.mg_none_of X G z_min, PySem.W.mg_none_of X G z_max, PySem.W.mg_none_of X G z_list, PySem.W.mg_none_of X G z_any, PySem.W.mg_none_of X G z_str, PySem.W.mg_none_of X G z_repr⟩
  have Z : IsR K C := ⟨e1, e2, e3, e4⟩
  have W : Kt K C := ⟨x_tuple, x_list, x_NoneType, x_int, x_str, x_bool, ns, y_tuple, y_list, y_NoneType, y_int, y_str, y_bool, xr⟩
  have MI : Mk K C f1 := ⟨mk, a1, i1, kc⟩
  have GNi : FnOk lw.prog w K mg base CX0 1 f99 _ ["value"] (spInteger K) := ok_integer F99 T
  have GWh : FnOk lw.prog w K mg base CX0 2 f6 _ ["value", "least", "most"] (spWhole K) := ok_whole F6 GNi D99
  have GI : FnOk lw.prog w K mg base CX0 3 f1 _ ["self", "first", "many"] (spInit C) := ok_init F1 T GWh D6
  have GE : FnOk lw.prog w K mg base CX0 2 f4 _ ["self"] (spEnd C) := ok_end F4 T
  have GW : G1.GF1 lw.prog w K mg base 4 f2 _ ["self"] (spFirst C) := ok_first F2 T GE b4 P4
  exact law_run l15 c15 (fun s v => .of_eq rfl) T B Z W ⟨ok_bag F8 B, D8⟩ ⟨ok_lpair F10 B F9 D9, D10⟩ ⟨ok_lcommon F11 B, D11⟩ ⟨ok_lshown F12 T, D12⟩ ⟨ok_lmember F13 T, D13⟩ ⟨ok_lbegin F14 T GW b2 ⟨a2, i2, k2⟩, D14⟩
    MI GI b1 ⟨ok_eq F3 T Z, a3, i3, b3⟩ ⟨ok_in F18 T GWh D6 GE b4 P4, a18, i18, b18⟩ ⟨ok_and F19 T (PySem.W.mg_none_of X G z_max) (PySem.W.mg_none_of X G z_min) MI GI b1 GE b4 P4, a19, i19, b19⟩ sf ⟨ok_len F20 T (PySem.W.mg_none_of X G z_len), a20, i20, b20⟩ ⟨ok_repr F17 T, a17, i17, b17⟩ hn e0 hS
theorem walk {l : PySem.W.OpenLaw} {q : Program} {loose : List Str} {XP : (Str → Option Value) → Heap → Prop} {YP : World → Heap → Prop} {d : DefRec} {K : Params → PySem.W.Frag} (hn : l.most = some 63) (hdf : d.params.defaults = [])
    (hY : ∀ (w : World) (h : Heap), YP w h → (K w.params).In h)
    (F : ∀ (w : World) (mg : Str → Option Value) (fa : Addr) (h : Heap), (K w.params).In h → h.Ns mainGlobals mg → mg d.name = some (.ref fa) → Tp.TopOk l.prog w (K w.params) mg fa 63) :
    PySem.W.WalkO q loose XP YP l.row.toRowW d [] (fun f vs => PySem.call f vs) := Tp.walk_top (n := 63) hn (by decide) hdf hY F
end Rt

open PySem PySem.W PyProof.Rows
set_option maxRecDepth 100000 in
set_option maxHeartbeats 0 in
theorem PySem.Challenge.cw_devicewindows_k02_runs_compared_holds : PySem.Challenge.rw_devicewindows_k02_runs_compared.Holds := by
  w_on; o_law; k_head; (case hw => w_witness2)
  k_fill
  refine Rt.walk (l := PySem.Challenge.rw_devicewindows_k02_runs_compared) rfl rfl (fun w h Y => PySem.W.kIn_of Y) ?F
  case F =>
    intro w mg fa h KX G hmg
    refine' Rt.all_mk KX G hmg ?aC ?a1 ?i1 ?a2 ?i2 ?a3 ?i3 ?a17 ?i17 ?a18 ?i18 ?a19 ?i19 ?a20 ?i20 ?p14 ?p24 ?p34 ?p44 ?a6 ?a99 ?a8 ?a9 ?a10 ?a11 ?a12 ?a13 ?a14 ?a15 ?l1 ?c1 ?k1 ?l2 ?c2 ?k2 ?l3 ?c3 ?k3 ?l17 ?c17 ?k17 ?l18 ?c18 ?k18 ?l19 ?c19 ?k19 ?l20 ?c20 ?k20 ?l4 ?c4 ?k4 ?l6 ?l99 ?c6 ?c99 ?k6 ?k99 ?l8 ?c8 ?k8 ?l9 ?c9 ?k9 ?l10 ?c10 ?k10 ?l11 ?c11 ?k11 ?l12 ?c12 ?k12 ?l13 ?c13 ?k13 ?l14 ?c14 ?k14 ?l15 ?c15 ?k15 ?pg ?hd ?po ?sa ?mk ?kc ?nF ?nM ?r1 ?r2 ?mo ?e1 ?e2 ?e3 ?e4 ?sf ?ns ?x_tuple ?x_list ?x_NoneType ?x_int ?x_str ?x_bool ?y_tuple ?y_list ?y_NoneType ?y_int ?y_str ?y_bool ?xr ?z_len ?z_abs ?z_range ?z_min ?z_max ?z_list ?z_any ?z_str ?z_repr ?z_isinstance ?z_int ?z_bool
    (case aC => k_is)
    (case a1 => k_is)
    (case i1 => k_is)
    (case a2 => k_is)
    (case i2 => k_is)
    (case a3 => k_is)
    (case i3 => k_is)
    (case a17 => k_is)
    (case i17 => k_is)
    (case a18 => k_is)
    (case i18 => k_is)
    (case a19 => k_is)
    (case i19 => k_is)
    (case a20 => k_is)
    (case i20 => k_is)
    (case p14 => k_is)
    (case p24 => k_is)
    (case p34 => k_is)
    (case p44 => k_is)
    (case a6 => k_is)
    (case a99 => k_is)
    (case a8 => k_is)
    (case a9 => k_is)
    (case a10 => k_is)
    (case a11 => k_is)
    (case a12 => k_is)
    (case a13 => k_is)
    (case a14 => k_is)
    (case a15 => k_is)
    (case l1 => k_is)
    (case c1 => k_is)
    (case k1 => k_is)
    (case l2 => k_is)
    (case c2 => k_is)
    (case k2 => k_is)
    (case l3 => k_is)
    (case c3 => k_is)
    (case k3 => k_is)
    (case l17 => k_is)
    (case c17 => k_is)
    (case k17 => k_is)
    (case l18 => k_is)
    (case c18 => k_is)
    (case k18 => k_is)
    (case l19 => k_is)
    (case c19 => k_is)
    (case k19 => k_is)
    (case l20 => k_is)
    (case c20 => k_is)
    (case k20 => k_is)
    (case l4 => k_is)
    (case c4 => k_is)
    (case k4 => k_is)
    (case l6 => k_is)
    (case l99 => k_is)
    (case c6 => k_is)
    (case c99 => k_is)
    (case k6 => k_is)
    (case k99 => k_is)
    (case l8 => k_is)
    (case c8 => k_is)
    (case k8 => k_is)
    (case l9 => k_is)
    (case c9 => k_is)
    (case k9 => k_is)
    (case l10 => k_is)
    (case c10 => k_is)
    (case k10 => k_is)
    (case l11 => k_is)
    (case c11 => k_is)
    (case k11 => k_is)
    (case l12 => k_is)
    (case c12 => k_is)
    (case k12 => k_is)
    (case l13 => k_is)
    (case c13 => k_is)
    (case k13 => k_is)
    (case l14 => k_is)
    (case c14 => k_is)
    (case k14 => k_is)
    (case l15 => k_is)
    (case c15 => k_is)
    (case k15 => k_is)
    (case pg => k_is)
    (case hd => k_is)
    (case po => k_is)
    (case sa => k_is)
    (case mk => k_is)
    (case kc => k_is)
    (case nF => k_is)
    (case nM => k_is)
    (case r1 => k_is)
    (case r2 => k_is)
    (case mo => k_is)
    (case e1 => k_is)
    (case e2 => k_is)
    (case e3 => k_is)
    (case e4 => k_is)
    (case sf => k_is)
    (case ns => k_is)
    (case x_tuple => first | kernel_rfl | rfl | decide +kernel)
    (case x_list => first | kernel_rfl | rfl | decide +kernel)
    (case x_NoneType => first | kernel_rfl | rfl | decide +kernel)
    (case x_int => first | kernel_rfl | rfl | decide +kernel)
    (case x_str => first | kernel_rfl | rfl | decide +kernel)
    (case x_bool => first | kernel_rfl | rfl | decide +kernel)
    (case y_tuple => k_is)
    (case y_list => k_is)
    (case y_NoneType => k_is)
    (case y_int => k_is)
    (case y_str => k_is)
    (case y_bool => k_is)
    (case xr => first | kernel_rfl | rfl | decide +kernel)
    (case z_len => k_is)
    (case z_abs => k_is)
    (case z_range => k_is)
    (case z_min => k_is)
    (case z_max => k_is)
    (case z_list => k_is)
    (case z_any => k_is)
    (case z_str => k_is)
    (case z_repr => k_is)
    (case z_isinstance => k_is)
    (case z_int => k_is)
    (case z_bool => k_is)
