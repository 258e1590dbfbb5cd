import PyProof.Rows.All
import Wide.All
import OpenK.AllK
import Wide.FinOn
import HandS.ForMost
import HandS.Wide
import HandS.ClsMeth
import HandS.Property
import HandS.ListItems
import HandS.SortOrd
import HandS.SortRule
import HandS.More
import HandS.Conv
import HandS.Codes
import HandS.Style
import HandS.IsInst
import HandS.OwnEq
import HandS.GenBody
import HandS.GenYield
import HandS.GenCall
import HandS.GenList
import PyProof.GenComp
import PyProof.ReprNest
import PyProof.ReprHeadsEmpty
import PyProof.StrHeap
import HandS.Ends
import HandS.Lambda
import HandS.MakeKwOnly
import HandS.Words
import PyProof.ListRange
import PyProof.WalksMore
import PyProof.LayNew
import HandS.Comp
import HandS.Defaults
import HandS.Iter
import PySem.Challenge.RW_devicewindows_k03_touched_lines_and_page
set_option Elab.async false
set_option linter.all false
set_option maxRecDepth 100000
set_option maxHeartbeats 4000000
/-! Two rules of one's own: storing to a slice of a list; sorting the items of a dict with int keys and bool values. -/
namespace Ln
open PySem PySem.Spec PyProof.Rows L2
/-! ### xs[a:c] = ys -/
/-- the target's reading: the list at l, its bounds, the other list at b -/
def gSlice (to tl th : TE) : TG := fun v σ H Q => to σ H fun x H1 => tl σ H1 fun y H2 => th σ H2 fun z H3 =>
  ∃ (l b : Addr) (xs ys : List V) (a c : Int), x = .ref l ∧ v = .ref b ∧ y = .int a ∧ z = .int c ∧ H3 l = some (.lst xs) ∧ H3 b = some (.lst ys) ∧ l ≠ b ∧ 0 ≤ a ∧ a ≤ c ∧ c ≤ xs.length ∧ xs.length + ys.length ≤ sizeLine ∧
    Q σ (upd H3 l (.lst (xs.take a.toNat ++ ys ++ xs.drop c.toNat)))
section
variable {X : Cx} {pos : Pos}
theorem pg_slice {o lo hi : Expr} {p2 : Pos} {to tl th : TE} (ho : PE X o to) (hl : PE X lo tl) (hh : PE X hi th)
    (ha : ∀ v, assign (.Subscript o (.Slice (some lo) (some hi) none p2) pos) X.env v = (do
      let ov ← holding [v] (eval o X.env)
      let iv ← holding [v, ov] (eval (.Slice (some lo) (some hi) none p2) X.env)
      standAt pos
      holding [v, ov, iv] (setItem ov iv v)
      release [iv, v, ov] []) := by intro _; rfl) : PG X (.Subscript o (.Slice (some lo) (some hi) none p2) pos) (gSlice to tl th) := by
  refine ⟨fun pins s σ H v u Q I r h => ?_⟩
  rw [ha]
  refine wpAny_bind (wpAny_holding (thn (ho.run pins s σ H _ I h) fun ov s1 ⟨x, H1, I1, r1, q1⟩ => ?_))
  refine wpAny_bind (wpAny_holding (wpAny_Slice ?_))
  rw [evalPart_some, evalPart_some]
  refine thn (hl.run pins s1 σ H1 _ I1 q1) fun vl s2 ⟨y, H2, I2, r2, q2⟩ => ?_
  refine thn (hh.run pins s2 σ H2 _ I2 q2) fun vu s3 ⟨z, H3, I3, r3, q3⟩ => ?_
  rw [evalPart_none]
  refine wpAny_pure ?_
  obtain ⟨l, b, xs, ys, a, c, rfl, rfl, rfl, rfl, e1, e2, ne, h0, hac, hc, hz, q⟩ := q3
  obtain rfl : ov = Value.ref l := r1
  obtain rfl : u = Value.ref b := r
  have I4 : Inv X pins σ H3 { s3 with heap := s3.heap.push { cls := .type "slice", data := .fields #[vl, vu, .none] } } := I3.kept (t' := s3.toks) fun b ob q => Heap.get?_push_of_some _ q
  refine wpAny_bind (wpAny_standAt (wpAny_bind (wpAny_holding (set_slice I4 e1 e2 ne (Heap.IsSliceOf.new ..) r2 r3 h0 hac hc hz fun s' I' => ?_))))
  exact wpAny_release ⟨σ, _, I', q⟩
end
/-! ### sorted(d.items()): int keys, bool values -/
abbrev ltK (k : Value → Int) (v u : Value) : Bool := decide (k v < k u)
theorem swo_K (k : Value → Int) : SrtO.Swo (ltK k) := by
  refine ⟨fun x y h => ?_, fun x y z h1 h2 => ?_⟩
  · have a : k x < k y := of_decide_eq_true h
    exact decide_eq_false (by omega)
  · have a : ¬ k y < k x := of_decide_eq_false h1
    have b : ¬ k z < k y := of_decide_eq_false h2
    exact decide_eq_false (by omega)
end Ln
namespace Ln
open PySem PySem.Spec PyProof.Rows L2
/-- a view of the items of the dict at d -/
def ViewO (v d : Addr) : HO := .ext fun h => h.get? v = some { cls := .type "dict_items", data := .fields #[.ref d] }
def rItems : V → List V → Hp → VK → Prop := fun x xs H Q => ∃ (d : Addr) (kvs : List (Key × V)), x = .ref d ∧ xs = [] ∧ H d = some (.dK kvs) ∧ ∀ v, H v = none → Q (.ref v) (upd H v (ViewO v d))
section
variable {X : Cx}
theorem mt_items : MtR X "dict.items" rItems := by
  intro pins s σ H x vs v us Q I rx rv h
  obtain ⟨d, kvs, rfl, rfl, hd, q⟩ := h
  cases rx
  have hus := rv.zero
  subst hus
  obtain ⟨hz, hs0, vs, kv, hdo⟩ := I.hok d _ hd
  refine call_meetsIn F.slot_dict_items hdo.typeIs F.entry_dict_items (F.args_dict_items_1 _) (meets_dict_items (mixKind X.prog X.w) d hs0) ⟨⟨vs, hdo⟩, ?_⟩
  refine ⟨.ref s.heap.objs.size, _, I.laid (a := s.heap.objs.size) (t' := s.toks) (fun b ob q => Heap.get?_push_of_some _ q) (Nat.le_refl _) ?_, rfl, q _ (I.hok.fresh (Nat.le_refl _))⟩
  exact ⟨Heap.get?_push_size _ rfl, ⟨_, Heap.get?_push_size _ rfl⟩, fun h1 h2 e k => k _ e⟩
end
/-! pairs of an int and a bool -/
def IsPB (h : Heap) (v : Value) (x : Int) (b : Bool) : Prop := ∃ a o t n, v = .ref a ∧ h.get? a = some o ∧ o.cls = .type "tuple" ∧ o.data = .seq #[.int x t, .bool b] n
theorem IsPB.keeps {h h' : Heap} {v : Value} {x : Int} {b : Bool} (p : IsPB h v x b) (k : ∀ b o, h.get? b = some o → o.cls = .type "tuple" → h'.get? b = some o) : IsPB h' v x b := by
  obtain ⟨a, o, t, n, e, ho, hc, hd⟩ := p
  exact ⟨a, o, t, n, e, k _ _ ho hc, hc, hd⟩
theorem firsts_pb {h : Heap} : ∀ {vs : List Value}, (∀ v ∈ vs, ∃ x y, IsPB h v x y) → ∃ fs : List Value, PySem.W.KatTups h vs fs ∧ fs.length = vs.length ∧ ∀ f ∈ fs, ∃ x t, f = Value.int x t
  | [], _ => ⟨[], PySem.W.KatTups.nil, rfl, fun _ hm => by simp at hm⟩
  | v :: vs, hp => by
    obtain ⟨fs, h1, h2, h3⟩ := firsts_pb (vs := vs) fun v' hm => hp v' (List.mem_cons_of_mem _ hm)
    obtain ⟨x, y, a, o, t, n, e, ho, hc, hd⟩ := hp v (List.mem_cons_self ..)
    subst e
    refine ⟨.int x t :: fs, PySem.W.KatTups.cons ho hc hd rfl h1, by rw [List.length_cons, List.length_cons, h2], fun f hm => ?_⟩
    rcases List.mem_cons.mp hm with rfl | hm
    · exact ⟨x, t, rfl⟩
    · exact h3 f hm
section
variable {prog : Program} {w : World} {A : Around} {s : Shared}
open SrtO in
theorem pb_cmp {vs : List Value} {k : Value → Int} {g : Value → Bool} (hp : ∀ v ∈ vs, IsPB s.heap v (k v) (g v)) (hu : ∀ v ∈ vs, ∀ u ∈ vs, k v = k u → g v = g u) : Cmp prog w A s (tuples' true) (fun p => p.1 ∈ vs) (lt2 (ltK k)) := by
  intro p q hm hm'
  have h1 := hp _ hm
  have h2 := hp _ hm'
  have hg := hu _ hm _ hm'
  show wpAny (model prog w) A (keyLt' (tuples' true) p.1 q.1) (fun r s' => s' = s ∧ r = decide (k p.1 < k q.1)) (fun _ _ => False) s
  generalize k p.1 = x at h1 hg ⊢
  generalize g p.1 = y at h1 hg ⊢
  generalize k q.1 = x' at h2 hg ⊢
  generalize g q.1 = y' at h2 hg ⊢
  obtain ⟨a, o, t, n, e, ho, hc, hd⟩ := h1
  obtain ⟨a', o', t', n', e', ho', hc', hd'⟩ := h2
  rw [e, e']
  refine PySem.W.kat_lt ho hd ho' hd' ?_
  show PySem.W.KatLex prog w A true (decide (2 < 2)) _ [(.int x t, .int x' t'), (.bool y, .bool y')] 0 s
  refine PySem.W.kat_cons (SeqAt.EqAt.int_int x t x' t' prog w _ _ ?_)
  refine PySem.W.kat_go (fun e1 => ?_) (fun e1 => ?_)
  · have ex : x = x' := by simpa using e1
    have ey : y = y' := hg ex
    refine PySem.W.kat_yes (PySem.W.kat_cons (SeqAt.EqAt.bool_bool y y' prog w _ _ ?_))
    refine PySem.W.kat_go (fun e2 => ?_) (fun e2 => ?_)
    · have e3 : decide (x < x') = false := decide_eq_false (by omega)
      exact PySem.W.kat_yes (PySem.W.kat_nil ⟨rfl, e3.symm⟩)
    · rw [ey] at e2
      simp at e2
  · exact PySem.W.kat_no (oneLt_int ⟨rfl, rfl⟩)
open SrtO in
theorem pb_sortable {a : Addr} {vs : List Value} {k : Value → Int} {g : Value → Bool} (h0 : 0 < vs.length) (hp : ∀ v ∈ vs, IsPB s.heap v (k v) (g v)) (hu : ∀ v ∈ vs, ∀ u ∈ vs, k v = k u → g v = g u)
    (ha : ∀ o, s.heap.get? a = some o → o.cls ≠ .type "tuple") : SortableO prog w A s a vs (ltK k) := by
  intro h' keep
  have hp' : ∀ v ∈ vs, IsPB h' v (k v) (g v) := fun v hm => (hp v hm).keeps fun b o e c => keep b o (fun z => by subst z; exact ha o e c) e
  obtain ⟨fs, h1, h2, h3⟩ := firsts_pb fun v hm => ⟨_, _, hp' v hm⟩
  refine ⟨tuples' true, fun Q E hq => ?_, pb_cmp hp' hu⟩
  refine PySem.W.kat_kind (T := .type "int") h1 (by omega) (fun f hm => ?_) (by rfl) ?_
  · obtain ⟨x, t, rfl⟩ := h3 f hm
    exact PySem.W.Looks.now
  · have e : (Value.type "int" != Value.type "tuple") = true := by first | decide +kernel | rfl | decide
    rw [e]
    exact hq
end
/-! the list of the pairs, laid with the tuples -/
section
variable {X : Cx}
theorem pairs_laid {pins : List (Addr × Obj)} {σ : L2.St} {H : Hp} {s : Shared} {h' : Heap} {tk : Nat} {kvs : List (Key × V)} {vs : List (Key × Value)} {as : List Addr} {L : Addr} {ys : List V} {out : List Value} {c : Nat} (I : Inv X pins σ H s) (kv : KV kvs vs)
    (hk : ∀ b o, s.heap.get? b = some o → h'.get? b = some o) (newS : H L = none) (hLb : ∀ b o, s.heap.get? b = some o → b ≠ L) (hLa : L ∉ as) (hS : h'.get? L = some { cls := .type "list", dict := none, data := .seq out.toArray c, slots := #[] }) (hy : Vals ys out) (hyz : ys.length ≤ sizeLine)
    (hl : as.length = vs.length) (hG : PySem.W.KdxG (mixKind X.prog X.w) vs s.heap.objs.size h' as) :
    ∃ H' : Hp, (∀ b o, H b = some o → H' b = some o) ∧ H L = none ∧ (∀ t ∈ as, H t = none) ∧ H' L = some (.lst ys) ∧ Paired (fun (t : Addr) (q : Key × V) => H' t = some (.tup [kV q.1, q.2])) as kvs ∧ Inv X pins σ H' { s with heap := h', toks := tk } := by
  have lk : kvs.length = vs.length := Paired.length kv
  have nd : as.Nodup := List.Pairwise.imp (fun {a b} (h : a < b) => Nat.ne_of_lt h) hG.rise
  have new : ∀ t ∈ as, H t = none := fun t ht => I.hok.fresh (Nat.le_of_lt (hG.above t ht))
  have atP := LiI.putT_at as kvs (upd H L (.lst ys)) (by omega) nd
  have off : ∀ b, b ∉ as → b ≠ L → LiI.putT (upd H L (.lst ys)) as kvs b = H b := fun b h1 h2 => by rw [LiI.putT_off as kvs _ h1, upd_ne h2]
  have low : ∀ b o, s.heap.get? b = some o → b ∉ as ∧ b ≠ L := fun b o e => ⟨fun z => absurd (Heap.lt_size e) (Nat.not_lt.mpr (Nat.le_of_lt (hG.above b z))), hLb b o e⟩
  have kp : ∀ b u, H b = some u → (LiI.putT (upd H L (.lst ys)) as kvs) b = some u := fun b u e => by
    rw [off b (fun z => by rw [new b z] at e; cases e) (fun z => by rw [z, newS] at e; cases e)]
    exact e
  have eS : LiI.putT (upd H L (.lst ys)) as kvs L = some (.lst ys) := by rw [LiI.putT_off as kvs _ hLa, upd_same]
  refine ⟨LiI.putT (upd H L (.lst ys)) as kvs, kp, newS, new, eS, atP, ?_⟩
  refine I.call' (ch := []) rfl ⟨fun b o q _ _ _ => hk b o q, fun b o q _ _ _ => ⟨o.slots, hk b o q⟩, fun b o q n _ => ?_, fun b o q _ => ⟨o, hk b o q⟩, fun b xs q => kp b _ q, fun b o u q => kp b _ q, fun b ps q => ⟨#[], by rw [kp b _ q]; simp⟩⟩ (fun b u q => ?_) I.bare fun b z => by simp at z
  · obtain ⟨z1, z2⟩ := low b o q
    rw [off b z1 z2]
    exact n
  · by_cases hb : b ∈ as
    · obtain ⟨j, pk, e1, e2, e3⟩ := LiI.paired_ix atP hb
      rw [e3] at q
      cases q
      obtain ⟨key, k, x, f1, f2, f3⟩ := hG.pairs j b e1
      obtain ⟨qv, g1, g2, g3⟩ := LiI.paired_get kv e2
      rw [f1] at g1
      cases g1
      have rk : RelV (kV pk.1) key := by
        rw [g2]
        exact relV_key (show keyIs k key = true from f2)
      exact ⟨by show 2 ≤ sizeLine; decide, [key, x], .cons rk (.cons g3 .nil), ⟨_, f3, rfl, _, rfl⟩⟩
    · by_cases hb2 : b = L
      · rw [hb2] at q ⊢
        rw [eS] at q
        cases q
        exact ⟨hyz, out, c, hy, hS⟩
      · rw [off b hb hb2] at q
        exact (I.hok b u q).stay (fun d v _ y => hk d v y) (fun d y => kp d _ y) fun d xs y => kp d _ y
end
/-- the int and the bool of a pair, read off the heap -/
def kOf (h : Heap) : Value → Int
  | .ref a => match h.get? a with
    | some o => match o.data with
      | .seq its _ => match (its[0]? : Option Value) with
        | some (Value.int x _) => x
        | _ => 0
      | _ => 0
    | none => 0
  | _ => 0
def gOf (h : Heap) : Value → Bool
  | .ref a => match h.get? a with
    | some o => match o.data with
      | .seq its _ => match (its[1]? : Option Value) with
        | some (Value.bool x) => x
        | _ => false
      | _ => false
    | none => false
  | _ => false
theorem pb_reads {h : Heap} {v : Value} {x : Int} {b : Bool} (p : IsPB h v x b) : kOf h v = x ∧ gOf h v = b := by
  obtain ⟨a, o, t, n, rfl, ho, hc, hd⟩ := p
  unfold kOf gOf
  simp only [ho, hd]
  exact ⟨rfl, rfl⟩

def kvB (ks : List (Int × Bool)) : List (Key × V) := ks.map fun p => (Sum.inl p.1, V.bl p.2)
def rSortedI : List V → Hp → VK → Prop := fun vs H Q => ∃ (v d : Addr) (ks : List (Int × Bool)), vs = [V.ref v] ∧ H v = some (ViewO v d) ∧ H d = some (.dK (kvB ks)) ∧ (ks.map (·.1)).Nodup ∧
  ∀ (H' : Hp) (p : Addr) (ts : List Addr) (ks' : List (Int × Bool)), (∀ b o, H b = some o → H' b = some o) → H p = none → (∀ t ∈ ts, H t = none) → H' p = some (.lst (ts.map V.ref)) → ks'.Perm ks → ks'.Pairwise (fun a b => a.1 < b.1) →
    Paired (fun (t : Addr) (q : Int × Bool) => H' t = some (.tup [.int q.1, .bl q.2])) ts ks' → Q (.ref p) H'
theorem paired_map {α β γ : Type} {F : α → β → Prop} (f : γ → α) (g : γ → β) : ∀ {l : List γ}, (∀ x ∈ l, F (f x) (g x)) → Paired F (l.map f) (l.map g)
  | [], _ => .nil
  | x :: l, h => .cons (h x List.mem_cons_self) (paired_map f g fun y hy => h y (List.mem_cons_of_mem _ hy))
def unRef : Value → Addr
  | .ref a => a
  | _ => 0
section
variable {X : Cx}
theorem cr_sortedItems (hcalm : X.calm = true) : CallR X (.builtin "sorted") rSortedI := by
  intro pins s σ H xs us Q I r q
  obtain ⟨v, d, ks, rfl, hv, hd, hnd, q⟩ := q
  obtain ⟨u, rfl, ru⟩ := vals1 r
  obtain rfl : u = Value.ref v := ru
  have hview := (I.hok v _ hv).1
  obtain ⟨hz, hs0, vs, kv, hdo⟩ := I.hok d _ hd
  obtain ⟨ep, hat⟩ := hdo.dictAt
  have lk : (kvB ks).length = vs.length := Paired.length kv
  have lks : (kvB ks).length = ks.length := by unfold kvB; rw [List.length_map]
  refine Calls.call_function_entry PyProof.Rows.kind_sorted PyProof.Rows.plain_sorted PyProof.Rows.entry_sorted (PyProof.Rows.args_sorted1 _) ?_
  unfold Builtin.«sorted»
  refine wpAny_bind (m := checkCount "sorted" 1 1 _) (wpAny_pure ?_)
  refine wpAny_bind (PySem.W.kdx_collect (A := X.A.in1) (knd := mixKind X.prog X.w) (kvs := vs) (ep := ep) (I.ok.hd hcalm) ⟨_, hview, rfl, rfl⟩ hat (by omega) fun h' tk as hk hl hG => ?_)
  have hlen : (as.map Value.ref).length ≤ sizeLine := by rw [List.length_map]; omega
  refine wpAny_bind (wpAny_newList ?_ hlen)
  -- the pairs
  have hp : ∀ (j : Nat) (a : Addr), as[j]? = some a → ∃ p, ks[j]? = some p ∧ IsPB h' (.ref a) p.1 p.2 := fun j a hj => by
    obtain ⟨key, kk, x, e1, e2, e3⟩ := hG.pairs j a hj
    have hjl : j < as.length := (List.getElem?_eq_some_iff.mp hj).1
    have hjk : j < ks.length := by omega
    have e4 : (kvB ks)[j]? = some (Sum.inl (ks[j]).1, V.bl (ks[j]).2) := by
      unfold kvB
      rw [List.getElem?_map, List.getElem?_eq_getElem hjk] <;> rfl
    obtain ⟨qv, g1, g2, g3⟩ := LiI.paired_get kv e4
    rw [e1] at g1
    cases g1
    have rk : RelV (kV (Sum.inl (ks[j]).1)) key := by
      have z : kk = Sum.inl (ks[j]).1 := g2.symm
      rw [← z]
      exact relV_key (show keyIs kk key = true from e2)
    obtain ⟨t, rfl⟩ := rk
    obtain rfl : x = Value.bool (ks[j]).2 := g3
    exact ⟨ks[j], List.getElem?_eq_getElem hjk, a, _, t, _, rfl, e3, rfl, rfl⟩
  have hIs : ∀ v ∈ as.map Value.ref, IsPB h' v (kOf h' v) (gOf h' v) := fun v hm => by
    obtain ⟨a, ha, rfl⟩ := List.mem_map.mp hm
    obtain ⟨j, hj⟩ := List.mem_iff_getElem?.mp ha
    obtain ⟨p, _, hpb⟩ := hp j a hj
    obtain ⟨e1, e2⟩ := pb_reads hpb
    rw [e1, e2]
    exact hpb
  have hmap : (as.map Value.ref).map (fun v => (kOf h' v, gOf h' v)) = ks := by
    apply List.ext_getElem?
    intro j
    rw [List.map_map, List.getElem?_map]
    cases e : as[j]? with
    | none =>
      have : as.length ≤ j := List.getElem?_eq_none_iff.mp e
      rw [List.getElem?_eq_none (by omega)]
      rfl
    | some a =>
      obtain ⟨p, e1, hpb⟩ := hp j a e
      obtain ⟨e2, e3⟩ := pb_reads hpb
      rw [e1]
      show some (kOf h' (.ref a), gOf h' (.ref a)) = some p
      rw [e2, e3]
  have hu : ∀ v ∈ as.map Value.ref, ∀ u ∈ as.map Value.ref, kOf h' v = kOf h' u → gOf h' v = gOf h' u := fun v hm u hn e => by
    obtain ⟨i, hi⟩ := List.mem_iff_getElem?.mp hm
    obtain ⟨j, hj⟩ := List.mem_iff_getElem?.mp hn
    have e1 : ks[i]? = some (kOf h' v, gOf h' v) := by rw [← hmap, List.getElem?_map, hi]; rfl
    have e2 : ks[j]? = some (kOf h' u, gOf h' u) := by rw [← hmap, List.getElem?_map, hj]; rfl
    have f1 : (ks.map (·.1))[i]? = some (kOf h' v) := by rw [List.getElem?_map, e1]; rfl
    have f2 : (ks.map (·.1))[j]? = some (kOf h' v) := by rw [List.getElem?_map, e2, e]; rfl
    have ij : i = j := nd_ix hnd f1 f2
    subst ij
    rw [e1] at e2
    exact (Prod.mk.inj (Option.some.inj e2)).2
  have I1 : Inv X pins σ H { s with heap := h', toks := tk } := I.kept hk
  have hoL : (h'.push (seqObj "list" (as.map Value.ref).toArray 0)).get? h'.objs.size = some (seqObj "list" (as.map Value.ref).toArray 0) := Heap.get?_push_size _ rfl
  show wpAny _ _ _ _ _ { s with heap := h'.push (seqObj "list" (as.map Value.ref).toArray 0), toks := tk }
  refine wpAny_bind (wpAny_holding (wpAny_call_entry PyProof.Rows.slot_list_sort ⟨_, hoL, rfl⟩ PyProof.Rows.entry_list_sort
    (SrtO.list_sort_ord (swo_K (kOf h')) hoL hlen (fun h2 => ?_) fun out hs hb => ⟨_, rfl, ?_⟩) (PyProof.Rows.args_list_sort _)))
  · refine pb_sortable (g := gOf h') (by omega) (fun v hm => (hIs v hm).keeps fun b o e _ => Heap.get?_push_of_some _ e) hu fun o e => ?_
    rw [hoL] at e
    cases e
    intro c
    exact absurd (Value.type.inj c) (by decide)
  · have hout : ∀ x ∈ out, ∃ a ∈ as, x = Value.ref a := fun x hx => by
      obtain ⟨a, ha, e⟩ := List.mem_map.mp (hb.perm.mem_iff.mp hx)
      exact ⟨a, ha, e.symm⟩
    have eout : out = (out.map unRef).map Value.ref := by
      rw [List.map_map]
      conv => lhs; rw [← List.map_id out]
      refine List.map_congr_left fun x hx => ?_
      obtain ⟨a, _, rfl⟩ := hout x hx
      rfl
    obtain ⟨e', he'⟩ := PyProof.Rows.sortedHeap_at (vs := as.map Value.ref) (out := out.toArray) hoL
    have hkk : ∀ b o, h'.get? b = some o → (sortedHeap (h'.push (seqObj "list" (as.map Value.ref).toArray 0)) h'.objs.size (as.map Value.ref) out.toArray).get? b = some o := fun b u e => by
      have hb : b < h'.objs.size := Heap.lt_size e
      rw [PyProof.Rows.sortedHeap_old (Nat.ne_of_lt hb) (by rw [size_push']; exact Nat.lt_succ_of_lt hb)]
      exact Heap.get?_push_of_some _ e
    have hLa : h'.objs.size ∉ as := fun z => Nat.lt_irrefl _ (hG.there z)
    have hG3 : PySem.W.KdxG (mixKind X.prog X.w) vs s.heap.objs.size (sortedHeap (h'.push (seqObj "list" (as.map Value.ref).toArray 0)) h'.objs.size (as.map Value.ref) out.toArray) as := ⟨hG.rise, hG.above, fun j a hj => by
      obtain ⟨key, kk, x, e1, e2, e3⟩ := hG.pairs j a hj
      exact ⟨key, kk, x, e1, e2, hkk _ _ e3⟩⟩
    have hyv : Vals ((out.map unRef).map V.ref) out := by
      have z : Vals ((out.map unRef).map V.ref) ((out.map unRef).map Value.ref) := LiI.vals_refs _
      rw [← eout] at z
      exact z
    have hyz : ((out.map unRef).map V.ref).length ≤ sizeLine := by
      rw [List.length_map, List.length_map, hb.perm.length_eq]
      exact hlen
    obtain ⟨H', k1, k2, k3, k4, k5, J⟩ := pairs_laid (tk := tk) I kv (fun b o e => hkk b o (hk b o e)) (I1.hok.fresh (Nat.le_refl _)) (fun b o e => Nat.ne_of_lt (Heap.lt_size (hk b o e))) hLa he' hyv hyz hl hG3
    have kper : (out.map fun v => (kOf h' v, gOf h' v)).Perm ks := by
      have z := hb.perm.map fun v => (kOf h' v, gOf h' v)
      rw [hmap] at z
      exact z
    refine wpAny_pure ⟨_, rfl, .ref h'.objs.size, H', J, rfl, q H' _ (out.map unRef) (out.map fun v => (kOf h' v, gOf h' v)) k1 k2 (fun t ht => ?_) k4 kper ?_ ?_⟩
    · obtain ⟨x, hx, rfl⟩ := List.mem_map.mp ht
      obtain ⟨a, ha, rfl⟩ := hout x hx
      exact k3 a ha
    · have nd2 : ((out.map fun v => (kOf h' v, gOf h' v)).map (·.1)).Nodup := (kper.map (·.1)).nodup_iff.mpr hnd
      have nd3 : out.Pairwise fun v u => kOf h' v ≠ kOf h' u := by
        rw [List.map_map] at nd2
        exact List.pairwise_map.mp nd2
      refine List.pairwise_map.mpr ?_
      have hs' : out.Pairwise fun x y => ltK (kOf h') y x = false := hs
      refine List.Pairwise.imp (fun {a b} (h : ltK (kOf h') b a = false ∧ kOf h' a ≠ kOf h' b) => ?_) (List.pairwise_and_iff.mpr ⟨hs', nd3⟩)
      have h1 : ¬ kOf h' b < kOf h' a := of_decide_eq_false h.1
      have h2 := h.2
      show kOf h' a < kOf h' b
      omega
    · refine paired_map unRef (fun v => (kOf h' v, gOf h' v)) fun x hx => ?_
      obtain ⟨a, ha, rfl⟩ := hout x hx
      obtain ⟨j, hj⟩ := List.mem_iff_getElem?.mp ha
      obtain ⟨qv, g1, g2⟩ := LiI.paired_get k5 hj
      obtain ⟨p, e1, hpb⟩ := hp j a hj
      obtain ⟨e2, e3⟩ := pb_reads hpb
      have g3 : (kvB ks)[j]? = some (Sum.inl p.1, V.bl p.2) := by
        unfold kvB
        rw [List.getElem?_map, e1] <;> rfl
      rw [g3] at g1
      cases g1
      show H' a = some (.tup [.int (kOf h' (.ref a)), .bl (gOf h' (.ref a))])
      rw [e2, e3]
      exact g2
end
end Ln
/-! Rules of one's own: a class called by a local name, static methods, operators of own classes. -/
namespace Ow
open PySem PySem.Spec PyProof.Rows L2
/-- an own def called at some around -/
theorem run_own {X : Cx} {CX : CXT} {k : Nat} {f : Addr} {fd : FuncData} {ps : List Str} {sp : Sp} {E : XK} {A : Around} {pins : List (Addr × Obj)} {σ : L2.St} {H : Hp} {s : Shared} {Q : VK} {us : List Value} {vs : List V}
    (F : FnOk X.prog X.w X.K X.mg X.base CX k f fd ps sp) (hr : Room k A) (e0 : Env0 X.prog X.w X.K X.mg X.base A X.stack s H) (hb : Binds X.K fd ps []) (hx : Passes CX X E) (I : Inv X pins σ H s) (r : Vals vs us) (h : sp vs H Q E) :
    wpAny (model X.prog X.w) A (call (.ref f) us) (EP X pins σ Q) X.xe s := by
  have hl : us.length = ps.length := by rw [← r.length]; exact F.len _ _ _ _ h
  refine wpAny_call (codeAny_mono (F.run A X.stack s H ⟨us, []⟩ us vs Q E hr e0 (by
    have z := hb s us I.kIn (by simpa using hl)
    simpa using z) r h) fun q s' hq => ?_)
  cases q with
  | error e => exact hx pins σ H s e s' I hq
  | ok fl =>
    cases fl with
    | ret w => exact I.after hq
    | next => exact False.elim hq
    | brk => exact False.elim hq
    | cont => exact False.elim hq
section
variable {X : Cx} {CX : CXT} {k i : Nat} {f C p g : Addr} {mc : Value} {fd : FuncData} {ps : List Str} {sp : Sp} {dvs : List V} {ds : List Value} {E : XK} {x m : Str} {px pos apos : Pos} {o e : Expr} {es : List Expr} {ta : TE} {t : TA} {pl : Sem Bool}
/-- x(e, ..), the i-th slot holds the class at C -/
def tMakeL (i : Nat) (C : Addr) (sp : Sp) (dvs : List V) (E : XK) (t : TA) : TE := fun σ H Q => σ[i]? = some (some (.ref C)) ∧ tMake C sp dvs E t σ H Q
theorem pe_makeL (M : Mk X.K C f) (F : FnOk X.prog X.w X.K X.mg X.base CX k f fd ps sp) (hr : Room (k + 1) X.A) (hN : X.N[i]? = some x) (hv : Vis X.env.scope x) (hb : Binds X.K fd ps ds) (hd : Vals dvs ds) (hx : Passes CX X E)
    (ha : PA X (e :: es) t) (hdb : (x == ("__debug__" : Str)) = false := by decide) (hcd : (x == ("__classdict__" : Str)) = false := by decide) (he : starEach (e :: es) X.env = (false, eval e X.env) :: starEach es X.env := by rfl) (hpl : (backTo pos (starEach es X.env)).any (·.1) = false := by rfl) :
    PE X (.Call (.Name x px) (e :: es) [] pos) (tMakeL i C sp dvs E t) := by
  refine ⟨fun pins s σ H Q I h => ?_⟩
  obtain ⟨hs, ht⟩ := h
  refine wpAny_Call_Name_kw (thn ((pe_var (pos := px) hN hv hdb hcd).run pins s σ H (fun v H1 => v = .ref C ∧ H1 = H) I ⟨.ref C, hs, rfl, rfl⟩) fun u s1 ⟨v, H1, I1, r1, q1⟩ => ?_)
  obtain ⟨rfl, rfl⟩ := q1
  cases r1
  refine PySem.W.callWith_K (h₀ := X.base) I1.ok.mod.kin M.kp (thn (ha.run pos pins s1 σ _ _ I1 ht) fun us s2 ⟨vs, H2, I2, r, q⟩ => ⟨I2.kIn, ?_⟩) he hpl
  exact run_make M F hr hb hd hx I2 r q
/-- C.m is a static method: its record at p, its def at g -/
structure SMet (K : PySem.W.Frag) (C : Addr) (mc : Value) (m : Str) (p g : Addr) : Prop where
  at_ : PySem.W.findCls K (.ref C) mc m = some (.get (.builtin "staticmethod.__get__") (.ref p) .none (.ref C))
  rc : ∃ rest, PySem.W.recIn K p "staticmethod" = some (.ref g :: rest)
  kp : PySem.W.keepIn K (.ref g) = true
def tSMeth (C : Addr) (sp : Sp) (dvs : List V) (E : XK) (ta : TE) (t : TA) : TE := fun σ H Q => ta σ H fun x H1 => x = .ref C ∧ t σ H1 fun vs H2 => sp (vs ++ dvs) H2 Q E
theorem pe_smeth (he : PE X o ta) (r : ClX.CRead X.K C mc) (c : SMet X.K C mc m p g) (F : FnOk X.prog X.w X.K X.mg X.base CX k g fd ps sp) (hr : Room k X.A) (hb : Binds X.K fd ps ds) (hd : Vals dvs ds) (hx : Passes CX X E) (ha : PA X (e :: es) t)
    (hst : starEach (e :: es) X.env = (false, eval e X.env) :: starEach es X.env := by rfl) (hpl : (backTo pos (starEach es X.env)).any (·.1) = false := by rfl)
    (ht : eval (.Call (.Attribute o m apos) (e :: es) [] pos) X.env = (do
      let ov ← eval o X.env
      standAt apos.atName
      let (f, first) ← holding [ov] (getMethod ov m pl)
      callWith pos f first (backTo pos (starEach (e :: es) X.env)) (backToKw pos (keywordEach [] X.env))) := by rfl) :
    PE X (.Call (.Attribute o m apos) (e :: es) [] pos) (tSMeth C sp dvs E ta t) := by
  refine ⟨fun pins s σ H Q I h => ?_⟩
  refine PySem.W.methodCall_KW (pl := pl) (thn (he.run pins s σ H _ I h) fun u s1 ⟨x, H1, I1, rx, ex, q⟩ => ?_) ht
  subst ex
  obtain rfl : u = Value.ref C := rx
  obtain ⟨rest, hp⟩ := c.rc
  refine PySem.W.method_cls I1.kIn r.ga (PySem.W.cls_bind I1.kIn r.rd c.at_ (wpAny_call (PySem.W.sm_get (s := { s1 with toks := s1.toks + 1 }) I1.kIn hp (PySem.W.handed_on rfl ?_))))
  have I2 := I1.tok (s1.toks + 1)
  refine PySem.W.callWith_K (h₀ := X.base) I2.ok.mod.kin c.kp (thn (ha.run pos pins _ σ H1 _ I2 q) fun us s2 ⟨vs, H2, I3, r, q2⟩ => ⟨I3.kIn, ?_⟩) hst hpl
  exact run_fn F hr hb hd hx I3 r q2
end
/-! ### operators of an own class -/
section
variable {X : Cx} {CX : CXT} {k : Nat} {C f : Addr} {fd : FuncData} {ps : List Str} {sp : Sp} {E : XK}
/-- a op b, both instances of C, C has the method -/
def rBin (C : Addr) (sp : Sp) (E : XK) : R2 := fun x y H Q => ∃ a b dx dy fs gs, x = .ref a ∧ y = .ref b ∧ H a = some (.ins C dx fs) ∧ H b = some (.ins C dy gs) ∧ sp [.ref a, .ref b] H (fun v H' => (∀ c, v ≠ .ty c) ∧ Q v H') E
/-- len(o) -/
def rLenO (C : Addr) (sp : Sp) (E : XK) : List V → Hp → VK → Prop := fun xs H Q => ∃ a dx fs, xs = [.ref a] ∧ H a = some (.ins C dx fs) ∧ sp [.ref a] H (fun v H' => ∃ n : Int, v = .int n ∧ 0 ≤ n ∧ n < 2 ^ 63 ∧ Q (.int n) H') E
theorem call_lenO (F : FnOk X.prog X.w X.K X.mg X.base CX k f fd ps sp) (hr : Room (k + 1) X.A) (hs : PySem.W.findIn X.K (.ref C) "__len__" = some (some (.ref f))) (hf : PySem.W.isFn X.K (.ref f) = true) (hb : Binds X.K fd ps []) (hx : Passes CX X E) :
    CallR X (.builtin "len") (rLenO C sp E) := by
  intro pins s σ H xs us Q I r h
  obtain ⟨a, dx, fs, rfl, ha, q⟩ := h
  obtain ⟨u, rfl, ru⟩ := vals1 r
  obtain rfl : u = Value.ref a := ru
  obtain ⟨mA, J, _⟩ := ins_get I.hok ha
  obtain ⟨od, J, _⟩ := J.look
  obtain ⟨m, hF⟩ := I.fr
  refine PySem.W.len_K hF I.ok.mod.kin J hs hf (wpAny_mono (run_own F hr.in1 I.env0.in1 hb hx I (vs := [.ref a]) (.cons (show RelV (.ref a) (.ref a) from rfl) .nil) q) (fun v s' hq => ?_) fun _ _ z => z)
  obtain ⟨w, H', I', rw', n, rfl, n0, n1, q'⟩ := hq
  obtain ⟨t, rfl⟩ := rw'
  exact ⟨⟨n0, n1⟩, .int n, H', I'.tok _, ⟨_, rfl⟩, q'⟩
/-- x in o -/
def rInO (C : Addr) (sp : Sp) (E : XK) : R2 := fun x y H Q => ∃ a dx fs, y = .ref a ∧ H a = some (.ins C dx fs) ∧ sp [.ref a, x] H (fun v H' => ∃ b, v = .bl b ∧ Q (.bl b) H') E
theorem op_inO (F : FnOk X.prog X.w X.K X.mg X.base CX k f fd ps sp) (hr : Room k X.A) (hs : PySem.W.findIn X.K (.ref C) "__contains__" = some (some (.ref f))) (hf : PySem.W.isFn X.K (.ref f) = true) (hb : Binds X.K fd ps []) (hx : Passes CX X E) :
    OpR X (compareOp .In) (rInO C sp E) := by
  intro pins s σ H x y v u Q I rx ry h
  obtain ⟨a, dx, fs, rfl, ha, q⟩ := h
  obtain rfl : u = Value.ref a := ry
  obtain ⟨mA, J, _⟩ := ins_get I.hok ha
  obtain ⟨od, J, _⟩ := J.look
  obtain ⟨m, hF⟩ := I.fr
  refine PySem.W.in_K hF I.ok.mod.kin J hs hf (wpAny_mono (run_own F hr I.env0 hb hx I (vs := [.ref a, x]) (.cons (show RelV (.ref a) (.ref a) from rfl) (.cons rx .nil)) q) (fun v s' hq => ?_) fun _ _ z => z)
  obtain ⟨w, H', I', rw', b, rfl, q'⟩ := hq
  cases rw'
  exact wpAny_truthy_bool ⟨.bl b, H', I', rfl, q'⟩
/-- a op b of two instances of C by C's own method -/
theorem op_bin {op : Operator} (F : FnOk X.prog X.w X.K X.mg X.base CX k f fd ps sp) (hr : Room k X.A) (hc : PySem.W.selfFirst X.K C = true) (hs : PySem.W.findIn X.K (.ref C) (PySem.dunder op.info.2) = some (some (.ref f))) (hf : PySem.W.isFn X.K (.ref f) = true) (hb : Binds X.K fd ps []) (hx : Passes CX X E) :
    OpR X (binaryOp op) (rBin C sp E) := by
  intro pins s σ H x y v u Q I rx ry h
  obtain ⟨a, b, dx, dy, fs, gs, rfl, rfl, ha, hb', q⟩ := h
  obtain rfl : v = Value.ref a := rx
  obtain rfl : u = Value.ref b := ry
  obtain ⟨mA, J, _⟩ := ins_get I.hok ha
  obtain ⟨mB, J', _⟩ := ins_get I.hok hb'
  obtain ⟨od, J, _⟩ := J.look
  obtain ⟨od', J', _⟩ := J'.look
  obtain ⟨m, hF⟩ := I.fr
  refine PySem.W.binop_K hF I.ok.mod.kin J J'.type hc hs hf (wpAny_mono (run_own F hr I.env0 hb hx I (vs := [.ref a, .ref b]) (.cons (show RelV (.ref a) (.ref a) from rfl) (.cons (show RelV (.ref b) (.ref b) from rfl) .nil)) q) (fun w s' hq => ?_) fun _ _ z => z)
  obtain ⟨z, H', I', rw', nt, q'⟩ := hq
  cases z with
  | ty c => exact absurd rfl (nt c)
  | non => cases rw'; exact ⟨.non, H', I', rfl, q'⟩
  | bl c => cases rw'; exact ⟨.bl c, H', I', rfl, q'⟩
  | int n => obtain ⟨t, rfl⟩ := rw'; exact ⟨.int n, H', I', ⟨t, rfl⟩, q'⟩
  | str n => obtain ⟨t, rfl⟩ := rw'; exact ⟨.str n, H', I', ⟨t, rfl⟩, q'⟩
  | byt n => obtain ⟨t, rfl⟩ := rw'; exact ⟨.byt n, H', I', ⟨t, rfl⟩, q'⟩
  | flt n => obtain ⟨t, rfl⟩ := rw'; exact ⟨.flt n, H', I', ⟨t, rfl⟩, q'⟩
  | ref c => cases rw'; exact ⟨.ref c, H', I', rfl, q'⟩
/-- a == y, a an instance of C with its own __eq__, y of a type that does not go first -/
def rEqO (K : PySem.W.Frag) (C : Addr) (sp : Sp) (E : XK) : R2 := fun x y H Q => ∃ a dx fs t, x = .ref a ∧ H a = some (.ins C dx fs) ∧ TyX K H y t ∧ PySem.W.notFirst K C t = true ∧ sp [.ref a, y] H (fun v H' => ∃ b, v = .bl b ∧ Q (.bl b) H') E
theorem op_eqO (F : FnOk X.prog X.w X.K X.mg X.base CX k f fd ps sp) (hr : Room k X.A) (hs : PySem.W.findIn X.K (.ref C) "__eq__" = some (some (.ref f))) (hf : PySem.W.isFn X.K (.ref f) = true) (hb : Binds X.K fd ps []) (hx : Passes CX X E) :
    OpR X (compareOp .Eq) (rEqO X.K C sp E) := by
  intro pins s σ H x y v u Q I rx ry h
  obtain ⟨a, dx, fs, t, rfl, ha, ty, hn, q⟩ := h
  obtain rfl : v = Value.ref a := rx
  obtain ⟨mA, J, _⟩ := ins_get I.hok ha
  obtain ⟨od, J, _⟩ := J.look
  obtain ⟨m, hF⟩ := I.fr
  obtain ⟨P, kx, hP, _⟩ := kit_of I ry ty
  show wpAny _ _ (richCompare .Eq (.ref a) u) _ _ _
  refine PySem.W.cmp_K (op := .Eq) (tb := t) hr.units0 hF I.ok.mod.kin J (kx.ty _ _ I.kIn hP) hn hs hf (wpAny_mono (run_own F hr I.env0 hb hx I (vs := [.ref a, y]) (.cons (show RelV (.ref a) (.ref a) from rfl) (.cons ry .nil)) q) (fun w s' hq => ?_) fun _ _ z => z)
  obtain ⟨z, H', I', rw', b, rfl, q'⟩ := hq
  cases rw'
  exact ⟨.bl b, H', I', rfl, q'⟩
end
end Ow
/-! A for in a generator's body. -/
namespace Gf
open PySem PySem.Spec PyProof.Rows L2
section
variable {M : Model} {A : Around} {R : GenEnd} {Y : Protocol} {n : Nat} {s₀ : Shared} {c : Code} {fs : List Frame} {s : Shared} {env : Env} {K : Flow → Sem PySem.Fin} {H : Value → Sem PySem.Fin} {gd : Bool → Bool} {lv : List Value → List Value}
theorem seg_For {tg iter : Expr} {body : List Stmt} {pos : Pos} (hs : ∀ x, foldedSetIterable iter env x = pure x)
    (h : wpAny M (A.over c fs) (eval iter env) (fun v s1 => wpAny M (A.over c fs) (pyIter v) (fun itv s2 => ∀ p, Seg M A R Y n s₀ (.forLoop tg itv body [] env) (M.den (.forLoop tg itv body [] env))
      (.ret (fun r => ((match r with | .ok f => (.pure f : Sem Flow) | .error e => .raise e).onRaise (cameBack env)).wrap K H gd lv) none (gd false) (lv []) c p [] :: fs) s2) (fun x s' => Seg M A R Y n s₀ c (H x) fs s') s1) (fun x s' => Seg M A R Y n s₀ c (H x) fs s') s) :
    Seg M A R Y n s₀ c ((exec (.For tg iter body [] pos) env).wrap K H gd lv) fs s := by
  show Seg M A R Y n s₀ c ((standAt pos >>= fun _ => eval iter env >>= fun a => foldedSetIterable iter env a >>= fun x => standAt iter.pos >>= fun _ => holding [x] (pyIter x) >>= fun it => runOwn (.forLoop tg it body [] env) env).wrap K H gd lv) fs s
  refine seg_bind_wrap (wpAny_standAt (seg_bind_wrap (wpAny_mono h (fun v s1 h1 => ?_) fun _ _ z => z)))
  rw [hs]
  refine seg_bind_wrap (wpAny_pure (seg_bind_wrap (wpAny_standAt (seg_bind_wrap (wpAny_holding (wpAny_mono h1 (fun it s2 h2 => ?_) fun _ _ z => z))))))
  exact seg_call h2
end
section
variable {prog : Program} {w : World} {A : Around} {R : GenEnd} {Y : Protocol} {n : Nat} {s₀ : Shared} {fs : List Frame} {s : Shared} {env : Env}
abbrev noted (env : Env) (x : Value) : Sem PySem.Fin := (do noteFrame x env; theTreesLotGoes x : Sem Unit).wrap (fun _ => .raise x) .raise id id
theorem seg_forLoop {tg : Expr} {it : Value} {body : List Stmt}
    (h : wpAny (model prog w) (A.over (.forLoop tg it body [] env) fs) (pyNext it) (fun r s1 => match r with
        | none => Seg (model prog w) A R Y n s₀ (.forLoop tg it body [] env) (.pure (.again (.block [] env))) fs s1
        | some v => wpAny (model prog w) (A.over (.forLoop tg it body [] env) fs) (letOwnedTupleGo tg it v) (fun _ s2 => wpAny (model prog w) (A.over (.forLoop tg it body [] env) fs) (assign tg env v) (fun _ s3 =>
            Seg (model prog w) A R Y n s₀ (.forLoop tg it body [] env) ((execs body env).wrap (fun f => match f with
              | .next | .cont => .pure (.again (.forLoop tg it body [] env))
              | .brk => .pure (.done .next)
              | .ret v => .pure (.done (.ret v))) (noted env) id id) fs s3)
          (fun x s' => Seg (model prog w) A R Y n s₀ (.forLoop tg it body [] env) (noted env x) fs s') s2) (fun x s' => Seg (model prog w) A R Y n s₀ (.forLoop tg it body [] env) (noted env x) fs s') s1)
      (fun x s' => Seg (model prog w) A R Y n s₀ (.forLoop tg it body [] env) (noted env x) fs s') s) :
    Seg (model prog w) A R Y n s₀ (.forLoop tg it body [] env) ((model prog w).den (.forLoop tg it body [] env)) fs s := by
  have hx : ∀ (x : Value) (s' : Shared), Seg (model prog w) A R Y n s₀ (.forLoop tg it body [] env) (noted env x) fs s' → Seg (model prog w) A R Y n s₀ (.forLoop tg it body [] env) ((do noteFrame x env; theTreesLotGoes x : Sem Unit).bind fun _ => .raise x) fs s' := fun x s' z => by
    rw [Sem.bind_eq_wrap]
    exact z
  show Seg _ A R Y n s₀ _ ((forTurn tg it body [] env).onRaise (fun x => do noteFrame x env; theTreesLotGoes x)) fs s
  unfold forTurn
  rw [Sem.onRaise_eq_wrap]
  refine seg_bind_wrap (wpAny_standAt (seg_bind_wrap (wpAny_onRaise (wpAny_mono h (fun r s1 h1 => ?_) fun x s' z => wpAny_standAt (hx x s' z)))))
  cases r with
  | none => exact h1
  | some v =>
    refine seg_bind_wrap (wpAny_mono h1 (fun _ s2 h2 => ?_) fun x s' z => hx x s' z)
    refine seg_bind_wrap (wpAny_mono h2 (fun _ s3 h3 => ?_) fun x s' z => hx x s' z)
    rw [Sem.bind_eq_wrap', Sem.wrap_wrap]
    rw [Sem.wrap_congr (execs body env) _ _ (K' := fun f => match f with
            | .next | .cont => .pure (.again (.forLoop tg it body [] env))
            | .brk => .pure (.done .next)
            | .ret v => .pure (.done (.ret v))) (H' := noted env)
        (fun f => by cases f <;> rfl)
        (fun e => by first | exact Sem.bind_eq_wrap _ _ | (show (do noteFrame e env; theTreesLotGoes e : Sem Unit).bind (fun _ => .raise e) = _; rw [Sem.bind_eq_wrap]))]
    exact h3
/-- the end: no else -/
theorem seg_blockNil {k : Result → Sem PySem.Fin} {h : Option Value} {g : Bool} {l kp : List Value} {c₁ : Code} {p : Pos} {fs : List Frame} (hk : Seg (model prog w) A R Y n s₀ c₁ (k (.ok .next)) fs s) :
    Seg (model prog w) A R Y n s₀ (.block [] env) ((model prog w).den (.block [] env)) (.ret k h g l c₁ p kp :: fs) s := by
  exact seg_leaf (.ok .next) hk
end
end Gf
namespace Gf
open PySem PySem.Spec PyProof.Rows L2
section
variable {X : Cx}
def tGFor (wi : TI) (g : TG) (tb : TGn) : TGn := fun D ys σ H => wi σ H fun J H1 => ∃ W : Nat → Nat → List V → L2.St → Hp → Prop, (∃ m, W 0 m ys σ H1) ∧ ∀ i m ys σ H, W i m ys σ H →
  (J.stop i H ∧ D.nx ys σ H) ∨ (J.go i H ∧ ∃ N : List V → L2.St → Hp → Prop, (∀ ys' σ' H', N ys' σ' H' → ∃ m', m' < m ∧ W (i + 1) m' ys' σ' H') ∧ ∀ x H', J.yld i H x H' → g x σ H' fun σ2 H2 => tb { D with nx := N, ct := N, bk := D.nx } ys σ2 H2)
theorem gs_for {tg iter : Expr} {body : List Stmt} {wi : TI} {g : TG} {tb : TGn} {pos : Pos} (hp : PassesOwn (model X.prog X.w) X.A X.env X.xe) (hc : X.calm = true) (hi : PI X tg iter wi) (hg : PG X tg g) (hb : GSs X body tb)
    (hs : ∀ x, foldedSetIterable iter X.env x = pure x := by intro _; rfl) : GS X (.For tg iter body [] pos) (tGFor wi g tb) := by
  refine ⟨fun A S ip R n ys s₀ c fs K J gd lv s σ H D gc hn k hI ht => ?_⟩
  obtain ⟨acc0, c0, r0, I0⟩ := hI
  refine seg_For hs ?_
  rw [gc.over]
  refine wpAny_mono (hi.run _ s σ H _ I0 ht) (fun v s1 h1 => wpAny_mono h1 (fun itv s2 h2 => ?_) fun x s' hx => k.exc n s₀ x s' hx) fun x s' hx => k.exc n s₀ x s' hx
  obtain ⟨it, fp, tn, Jt, H2, e, I2, T, st2, f2, W, ⟨m0, w0⟩, turn⟩ := h2
  subst e
  intro p
  have gl := fun (ip' : List (Addr × Obj)) (h : ∀ q ∈ ip', q.1 ≠ S) (kk : Result → Sem PySem.Fin) => gc_loop (k := kk) (c' := .forLoop tg (.ref it) body [] X.env) (l := lv []) (kp := []) (p := p) (⟨gc.pn, h, gc.apart, gc.over, gc.split, gc.guard, gc.gd⟩ : GC X S ip' A c fs gd) rfl rfl
  have fS : ∀ b ∈ fp, b ≠ S := fun b hb z => (f2 b hb).2.2.2.2.2 (S, lstObj acc0 c0) (List.mem_append_right _ List.mem_cons_self) z.symm
  have stat : ∀ {H' : Hp} {acc : Array Value} {cc : Nat}, (∀ b ∈ fp, H' b = none) → ∀ b ∈ fp, FpOk X ((S, lstObj acc cc) :: ip) H' b := fun {H' acc cc} hn' b hb => by
    obtain ⟨_, q1, q2, q3, q4, q5⟩ := f2 b hb
    refine ⟨hn' b hb, q1, q2, q3, q4, fun q hq => ?_⟩
    rcases List.mem_append.mp hq with z | z
    · exact q5 q (List.mem_append_left _ z)
    · rcases List.mem_cons.mp z with z | z
      · rw [z]; exact (fS b hb).symm
      · exact q5 q (List.mem_append_right _ (List.mem_cons_of_mem _ z))
  have ee : ∀ (n : Nat) (s₀ : Shared) (x : Value) (s' : Shared), X.xe x s' → Seg (model X.prog X.w) A R (GY X S) n s₀ (.forLoop tg (.ref it) body [] X.env) (noted X.env x)
      (.ret (fun r => ((match r with | .ok f => (.pure f : Sem Flow) | .error e => .raise e).onRaise (cameBack X.env)).wrap K J gd lv) none (gd false) (lv []) c p [] :: fs) s' := fun n s₀ x s' hx => by
    refine seg_wrap ?_
    rw [(gl ip gc.ip _).over]
    refine wpAny_bind (wpAny_mono (hp x s' hx) (fun _ s'' hcb => wpAny_theTreesLotGoes ?_) fun y s'' hcb => ?_)
    · exact seg_leaf (.error x) (seg_cameBack gc k hcb)
    · exact seg_leaf (.error y) (seg_cameBack gc k hcb)
  have loop : ∀ (m i n : Nat) (ys : List V) (s₀ s : Shared) (σ : L2.St) (H : Hp), n + ys.length = sizeLine → W i m ys σ H → GI X S ip ys σ H s → tn i s.heap → (∀ b ∈ fp, H b = none) →
      Seg (model X.prog X.w) A R (GY X S) n s₀ (.forLoop tg (.ref it) body [] X.env) ((model X.prog X.w).den (.forLoop tg (.ref it) body [] X.env))
        (.ret (fun r => ((match r with | .ok f => (.pure f : Sem Flow) | .error e => .raise e).onRaise (cameBack X.env)).wrap K J gd lv) none (gd false) (lv []) c p [] :: fs) s := by
    intro m
    induction m using Nat.strongRecOn with
    | ind m ih =>
      intro i n ys s₀ s σ H hn w hI st3 fr3
      obtain ⟨acc, cc, r, I3⟩ := hI
      refine seg_forLoop ?_
      rw [(gl ip gc.ip _).over]
      rcases turn i m ys σ H w with ⟨stop, qn⟩ | ⟨go, N, hN, step⟩
      · refine wpAny_mono (T.done X rfl rfl rfl hc i _ s σ H X.xe I3 (stat fr3) st3 stop) (fun r' s4 ⟨hr, I4⟩ => ?_) fun x s' hx => ee n s₀ x s' hx
        subst hr
        exact seg_again rfl (seg_blockNil (k.ok n ys s₀ s4 .next hn ⟨σ, H, ⟨acc, cc, r, I4⟩, qn⟩))
      · refine wpAny_mono (T.item X rfl rfl rfl hc i _ s σ H X.xe I3 (stat fr3) st3 go) (fun r' s4 ⟨u, hr, h4⟩ => ?_) fun x s' hx => ee n s₀ x s' hx
        subst hr
        refine wpAny_mono h4 (fun _ s5 ⟨x, H5, I5, r5, y5, st5, fr5⟩ => ?_) fun x s' hx => ee n s₀ x s' hx
        have I5' := I5.pinned (stat fr5) (T.obj _ _ st5)
        refine wpAny_mono (hg.run _ s5 σ H5 x u _ I5' r5 (step x H5 y5)) (fun _ s6 ⟨σ6, H6, I6, q6⟩ => ?_) fun x s' hx => ee n s₀ x s' hx
        have hip : ∀ q ∈ ip ++ pinsAt fp s5.heap, q.1 ≠ S := fun q hq => by
          rcases List.mem_append.mp hq with z | z
          · exact gc.ip q z
          · exact fS _ (of_pinsAt z).1
        have after : ∀ {σ7 : L2.St} {H7 : Hp} {ys' : List V} {s7 : Shared}, GI X S (ip ++ pinsAt fp s5.heap) ys' σ7 H7 s7 → GI X S ip ys' σ7 H7 s7 ∧ tn (i + 1) s7.heap ∧ ∀ b ∈ fp, H7 b = none := fun {σ7 H7 ys' s7} z => by
          obtain ⟨acc7, c7, r7, I7⟩ := z
          refine ⟨⟨acc7, c7, r7, Inv.unpinned (pins := (S, lstObj acc7 c7) :: ip) (pl := pinsAt fp s5.heap) I7⟩, T.keep _ _ _ st5 fun b hb o e => ?_, fun b hb => ?_⟩
          · exact (I7.pin (b, o) (List.mem_append_right _ (List.mem_cons_of_mem _ (List.mem_append_right _ (mem_pinsAt hb e))))).1
          · obtain ⟨o, e, d⟩ := T.obj _ _ st5 b hb
            exact (I7.pin (b, o) (List.mem_append_right _ (List.mem_cons_of_mem _ (List.mem_append_right _ (mem_pinsAt hb e))))).2.1
        refine hb.run A S (ip ++ pinsAt fp s5.heap) R n ys s₀ _ _ _ _ id id s6 σ6 H6 { D with nx := N, ct := N, bk := D.nx } (gl _ hip _) hn ⟨fun n' ys' s₀' s7 f hn' hs' => ?_, fun n' s₀' x s7 hx => ee n' s₀' x s7 hx⟩ ⟨acc, cc, r, I6⟩ q6
        cases f with
        | next =>
          obtain ⟨σ7, H7, z, n7⟩ := hs'
          obtain ⟨z1, z2, z3⟩ := after z
          obtain ⟨m', hm, w7⟩ := hN ys' σ7 H7 n7
          exact seg_again rfl (ih m' hm (i + 1) n' ys' s₀' s7 σ7 H7 hn' w7 z1 z2 z3)
        | cont =>
          obtain ⟨σ7, H7, z, n7⟩ := hs'
          obtain ⟨z1, z2, z3⟩ := after z
          obtain ⟨m', hm, w7⟩ := hN ys' σ7 H7 n7
          exact seg_again rfl (ih m' hm (i + 1) n' ys' s₀' s7 σ7 H7 hn' w7 z1 z2 z3)
        | brk =>
          obtain ⟨σ7, H7, z, n7⟩ := hs'
          exact seg_leaf (.ok .next) (k.ok n' ys' s₀' s7 .next hn' ⟨σ7, H7, (after z).1, n7⟩)
        | ret v =>
          obtain ⟨x7, σ7, H7, z, r7, q7⟩ := hs'
          exact seg_leaf (.ok (.ret v)) (k.ok n' ys' s₀' s7 (.ret v) hn' ⟨x7, σ7, H7, (after z).1, r7, q7⟩)
  exact loop m0 0 n ys s₀ s2 σ H2 hn w0 ⟨acc0, c0, r0, I2⟩ st2 fun b hb => (f2 b hb).1
end
end Gf
/-! repr of a list of instances with their own __repr__, where no repr is under way. -/
namespace Rp
open PySem PySem.Spec PyProof.Rows L2
section
variable {prog : Program} {w : World} {A : Around} {E : Value → Shared → Prop} {s : Shared} {K : PySem.W.Frag} {x C f : Addr} {ox : Obj} {od : Option Obj}
theorem by_own {M : Model} {name : Str} {last : Value → List Value → Sem Value} {Q : Option Value → Shared → Prop} (X : K.In s.heap) (I : PySem.W.InstAt s.heap x ox C od) (hs : PySem.W.findIn K (.ref C) name = some (some (.ref f))) (hf : PySem.W.isFn K (.ref f) = true)
    (h : wpAny M A (last (.ref f) [.ref x]) (fun v => Q (some v)) E s) : wpAny M A (callSpecialIfBoundBy? last (.ref x) name) Q E s := by
  have lk := PySem.W.looks_findIn (M := M) X hs
  have fin : wpAny M A (last (.ref f) [.ref x] >>= fun v => pure (some v)) Q E s := by
    refine wpAny_bind (wpAny_mono h (fun v s' q => ?_) fun _ _ q => q)
    exact wpAny_pure q
  have bd := (PySem.W.bind_fn (M := M) X (.ref x) (beq_iff_eq.mp hf))
  simp only [callSpecialIfBoundBy?, bindSpecialIfBound?]
  refine wpAny_holding (wpAny_bind (wpAny_bind (wpAny_bind (I.type.here (lk.here ?_)))))
  refine wpAny_bind (wpAny_askSetting (wpAny_ite ?_))
  split
  · exact wpAny_bind (bd.here (wpAny_pure (by exact fin)))
  · exact wpAny_tryCatch (wpAny_bind (bd.here (wpAny_pure (by exact fin))))
theorem under_own {b : Nat} {Q : Str → Shared → Prop} (hb : b ≤ sizeLine) (hu : A.units < cLine) (X : K.In s.heap) (I : PySem.W.InstAt s.heap x ox C od) (hs : PySem.W.findIn K (.ref C) "__repr__" = some (some (.ref f))) (hf : PySem.W.isFn K (.ref f) = true)
    (h : wpAny (model prog w) A (call (.ref f) [.ref x]) (fun v s' => ∃ m u, v = .str m u ∧ Q m s') E s) : wpAny (model prog w) A (pyReprUnder b (.ref x)) Q E s := by
  refine wpAny_pyReprUnder_ref hb ?_
  unfold pyReprObjUnder pyReprObjBy
  refine wpAny_bind (wpAny_cRoomFor hu ?_)
  refine wpAny_bind (wpAny_bind (I.type.here ((PySem.W.looks_findIn X hs).here ?_)))
  show wpAny _ _ (if (some (Value.ref f)).isNone = true then _ else _) _ _ _
  rw [if_neg (by simp)]
  refine wpAny_bind (by_own X I hs hf ?_)
  show wpAny _ _ (call (.ref f) ([.ref x] ++ [])) _ _ _
  refine wpAny_mono h (fun v s' hv => ?_) fun _ _ z => z
  obtain ⟨m, u, rfl, hq⟩ := hv
  refine wpAny_bind (wpAny_isInstance (T := "str") (b := true) rfl isSubtype_str_str ?_)
  first
    | exact wpAny_pure ⟨m, u, rfl, hq⟩
    | (rw [if_pos rfl]; exact wpAny_pure ⟨m, u, rfl, hq⟩)
end
section
variable {X : Cx} {n : Nat} {pins : List (Addr × Obj)} {σ : L2.St} {H : Hp} {s : Shared}
/-- what the own __repr__ promises: the text t for the instance a -/
def spRepr (R : Addr → Str → Hp → Prop) : Sp := fun vs H Q _ => ∃ a t, vs = [.ref a] ∧ R a t H ∧ ∀ H', Ext H H' → Q (.str t) H'
theorem run_repr {CX : CXT} {C f a dx : Addr} {fd : FuncData} {ps : List Str} {R : Addr → Str → Hp → Prop} {E : XK} {A : Around} {t : Str} {fs : List (Str × V)} (F : FnOk X.prog X.w X.K X.mg X.base CX n f fd ps (spRepr R)) (hb : Binds X.K fd ps []) (hx : Passes CX X E)
    (sb : Sub X n A) (I : Inv X pins σ H s) (hr : R a t H) : wpAny (model X.prog X.w) A (call (.ref f) [.ref a]) (fun v s' => ∃ m u, v = .str m u ∧ m = t ∧ ∃ H', Inv X pins σ H' s' ∧ Ext H H') X.xe s := by
  have hsp : spRepr R [.ref a] H (fun v H' => v = .str t ∧ Ext H H') E := ⟨a, t, rfl, hr, fun H' e => ⟨rfl, e⟩⟩
  have e0 : Env0 X.prog X.w X.K X.mg X.base A X.stack s H := by
    have e := I.env0
    exact ⟨by rw [sb.fr]; exact e.frames, e.mod, e.bs, e.bsz, e.funs, e.frf, e.hok, e.bare⟩
  have hl := F.len _ _ _ _ hsp
  have r2 : Vals [V.ref a] [Value.ref a] := .cons rfl .nil
  refine wpAny_call (codeAny_mono (F.run A X.stack s H ⟨[.ref a], []⟩ [.ref a] [.ref a] _ E sb.room e0 (by
    have := hb s [.ref a] I.kIn (by simpa using hl)
    simpa using this) r2 hsp) fun r s' hq => ?_)
  cases r with
  | error e => exact hx pins σ H s e s' I hq
  | ok fl =>
    cases fl with
    | ret w =>
      obtain ⟨z, H', I', rz, ez, ex⟩ := I.after hq
      subst ez
      obtain ⟨u, rfl⟩ := rz
      exact ⟨t, u, rfl, rfl, H', I', ex⟩
    | next => exact False.elim hq
    | brk => exact False.elim hq
    | cont => exact False.elim hq
theorem under_run {CX : CXT} {C f a dx : Addr} {fd : FuncData} {ps : List Str} {R : Addr → Str → Hp → Prop} {E : XK} {A : Around} {t : Str} {fs : List (Str × V)} {b : Nat} (F : FnOk X.prog X.w X.K X.mg X.base CX n f fd ps (spRepr R)) (hb : Binds X.K fd ps []) (hx : Passes CX X E)
    (hs : PySem.W.findIn X.K (.ref C) "__repr__" = some (some (.ref f))) (hf : PySem.W.isFn X.K (.ref f) = true) (sb : Sub X n A) (I : Inv X pins σ H s) (ha : H a = some (.ins C dx fs)) (hr : R a t H) (hz : b ≤ sizeLine) :
    wpAny (model X.prog X.w) A (pyReprUnder b (.ref a)) (fun m s' => m = t ∧ ∃ H', Inv X pins σ H' s' ∧ Ext H H') X.xe s := by
  obtain ⟨mA, J, _⟩ := ins_get I.hok ha
  obtain ⟨od, J, _⟩ := J.look
  exact under_own hz sb.room.units0 I.kIn J hs hf (run_repr (dx := dx) (fs := fs) (C := C) F hb hx sb I hr)
/-- the pinned list of parts grows -/
theorem bump {P : Addr} {acc : Array Value} {c : Nat} {v : Value} (I : Inv X ((P, lstObj acc c) :: pins) σ H s) (hP : X.s_0.heap.objs.size ≤ P) (hp : ∀ p ∈ X.pn ++ pins, p.1 ≠ P) :
    ∃ c', Inv X ((P, lstObj (acc.push v) c') :: pins) σ H { s with heap := s.heap.update P (Obj.mapSeq (·.push v)) } := by
  obtain ⟨h1, h2, h3, h4, h5⟩ := I.pin (P, lstObj acc c) (List.mem_append_right _ List.mem_cons_self)
  have I0 : Inv X pins σ H s := I.pins_of fun p hp => I.pin p (List.mem_append_right _ (List.mem_cons_of_mem _ hp))
  have hc : ∀ x c', X.env.cells.lookup x = some c' → c' ≠ P := fun x c' e z => by
    obtain ⟨w, o, ho, hd⟩ := I.cell x c' e
    rw [z, h1] at ho
    cases ho
    exact h5 _ hd
  have J := I0.turned (t' := s.toks) (it := P) (h' := s.heap.update P (Obj.mapSeq (·.push v))) (fun b o hb e => (Heap.get?_update_other _ _ (Ne.symm hb)).trans e) h2 h3 (.inr hP) hc hp
  obtain ⟨c', e⟩ : ∃ c', (s.heap.update P (Obj.mapSeq (·.push v))).get? P = some (lstObj (acc.push v) c') := ⟨_, Heap.get?_update_self _ h1 rfl⟩
  refine ⟨c', J.pins_of fun p hp' => ?_⟩
  rcases List.mem_cons.mp hp' with z | z
  · rw [z]
    exact ⟨e, h2, h3, h4, fun v q => by cases q⟩
  · exact J.pin p (List.mem_append_right _ z)
theorem room_loop {k : Nat} {A : Around} {args : Args} (r : Room (k + 1) A) : Room k (A.under (.builtin "list.__repr__.loop" args)) ∧ (A.under (.builtin "list.__repr__.loop" args)).frames = A.frames := by
  have hu : (A.under (.builtin "list.__repr__.loop" args)).units = A.units + 1 := units_under_list_loop A args
  have hh : (A.under (.builtin "list.__repr__.loop" args)).handled = A.handled := rfl
  have hd : (A.under (.builtin "list.__repr__.loop" args)).depth ≤ A.depth + 1 := by
    show A.depth + (Code.builtin "list.__repr__.loop" args).weight ≤ A.depth + 1
    have hw : (Code.builtin "list.__repr__.loop" args).weight ≤ 1 := by
      simp [Code.weight, Code.isCreation, Code.isCaller, Code.frames, Code.isFrame]
      try (split <;> omega)
    omega
  have hf : (A.under (.builtin "list.__repr__.loop" args)).frames = A.frames := by
    first | rfl | (show pushEnvs _ A.frames = _; cases A.frames <;> rfl) | simp [Around.under, Code.envs, pushEnvs]
  refine ⟨⟨hh.trans r.hd, ?_, ?_⟩, hf⟩
  · have := r.dp; omega
  · have := r.un; omega
theorem loop_own {CX : CXT} {C f : Addr} {fd : FuncData} {ps : List Str} {R : Addr → Str → Hp → Prop} {E : XK} {A : Around} {l P : Addr} {as : List Addr} {ts : List Str} {Q : VK} (Fr : FnOk X.prog X.w X.K X.mg X.base CX n f fd ps (spRepr R)) (hb : Binds X.K fd ps []) (hx : Passes CX X E)
    (hs : PySem.W.findIn X.K (.ref C) "__repr__" = some (some (.ref f))) (hf : PySem.W.isFn X.K (.ref f) = true) (sb : Sub X (n + 1) A) (hR : ∀ a t H H', Ext H H' → R a t H → R a t H') (hP : X.s_0.heap.objs.size ≤ P) (hp : ∀ p ∈ X.pn ++ pins, p.1 ≠ P)
    (hl : H l = some (.lst (as.map V.ref))) (hT : ∀ (i : Nat) (a : Addr), as[i]? = some a → ∃ t dx fs, ts[i]? = some t ∧ H a = some (.ins C dx fs) ∧ R a t H) (hlen : ts.length = as.length) (hsz : (listText ts).length ≤ sizeLine) (hQ : ∀ H', Ext H H' → Q (.str (listText ts)) H') :
    ∀ (k i : Nat) (s : Shared) (H' : Hp) (acc : Array Value) (c : Nat) (done : List (Str × Tok)), as.length - i = k → i ≤ as.length → Ext H H' → Inv X ((P, lstObj acc c) :: pins) σ H' s → acc.toList = strValues done → done.map (·.1) = ts.take i →
      codeAny (model X.prog X.w) A (.builtin "list.__repr__.loop" ⟨[.ref l, rawInt i, .ref P, rawInt ((piled (ts.take i) : Nat) : Int)], []⟩) (wants (fun v s' => ∃ x u, v = .str x u ∧ EP X pins σ Q v s') X.xe) s := by
  have hp3 := piled_le_listText ts
  have hL := textFrom_len ts 0 "["
  have hX : (listText ts).length = (textFrom 0 "[" ts).length + 1 := by
    show (textFrom 0 "[" ts ++ "]").length = _
    rw [strLen_append]
    rfl
  have hz2 : ∀ t ∈ ts, t.length ≤ sizeLine := fun t ht => by
    have := hL.2.1 t ht
    omega
  have hz1 : as.length ≤ sizeLine := by
    have h1 := hL.1
    rw [if_neg (Nat.lt_irrefl 0)] at h1
    omega
  intro k
  induction k with
  | zero =>
    intro i s H' acc c done hk hi he I hacc hdone
    have hin : i = as.length := by omega
    obtain ⟨_, its, z, r, e⟩ := I.hok l _ (he _ _ hl)
    have hlenI : its.length = as.length := by rw [← r.length, List.length_map]
    have pP := (I.pin (P, lstObj acc c) (List.mem_append_right _ List.mem_cons_self)).1
    refine codeAny_builtin PySem.F.entry_list_repr_loop ?_
    show wpAny _ _ (Builtin.«list.__repr__.loop» ⟨[.ref l, .int i 0, .ref P, .int ((piled (ts.take i) : Nat) : Int) 0], []⟩) _ _ s
    rw [repr_loop_tree]
    refine wpAny_bind (wpAny_listItems e rfl ?_)
    have hno : its.toArray[(i : Int).toNat]? = none := by
      rw [Int.toNat_natCast]
      simp [hin, hlenI]
    simp only [hno]
    unfold reprEnd
    refine wpAny_bind (wpAny_listItems pP rfl ?_)
    rw [hacc, repr_fold]
    refine wpAny_bind (wpAny_pure ?_)
    have hall : done.map (·.1) = ts := by rw [hdone, hin, ← hlen, List.take_length]
    rw [hall]
    refine wpAny_bind (wpAny_mkStr (wpAny_pure ?_) hsz)
    have I1 : Inv X pins σ H' s := I.pins_of fun p hp => I.pin p (List.mem_append_right _ (List.mem_cons_of_mem _ hp))
    exact ⟨_, _, rfl, .str (listText ts), H', I1.tok _, ⟨_, rfl⟩, hQ H' he⟩
  | succ k ih =>
    intro i s H' acc c done hk hi he I hacc hdone
    have hlt : i < as.length := by omega
    obtain ⟨t, dx, fs, ht, ha, hrt⟩ := hT i as[i] (List.getElem?_eq_getElem hlt)
    obtain ⟨_, its, z, r, e⟩ := I.hok l _ (he _ _ hl)
    obtain ⟨u, hu, ru⟩ := r.get (i := i) (x := V.ref as[i]) (by rw [List.getElem?_map, List.getElem?_eq_getElem hlt]; rfl)
    cases ru
    have hp1 := piled_take_succ ht
    have hp2 := piled_take_le ts (i + 1)
    refine codeAny_builtin PySem.F.entry_list_repr_loop ?_
    show wpAny _ _ (Builtin.«list.__repr__.loop» ⟨[.ref l, .int i 0, .ref P, .int ((piled (ts.take i) : Nat) : Int) 0], []⟩) _ _ s
    rw [repr_loop_tree]
    refine wpAny_bind (wpAny_listItems e rfl ?_)
    have hso : its.toArray[(i : Int).toNat]? = some (.ref as[i]) := by
      rw [Int.toNat_natCast]
      simpa using hu
    simp only [hso]
    rw [Int.toNat_natCast]
    obtain ⟨rm, fr⟩ := room_loop (args := ⟨[.ref l, rawInt i, .ref P, rawInt ((piled (ts.take i) : Nat) : Int)], []⟩) sb.room
    refine wpAny_bind (wpAny_holding (wpAny_mono (under_run Fr hb hx hs hf ⟨rm, fr.trans sb.fr⟩ I (he _ _ ha) (hR _ _ _ _ he hrt) (by omega)) (fun m s2 hm => ?_) fun _ _ q => q))
    obtain ⟨rfl, H2, I2, e2⟩ := hm
    refine wpAny_bind (wpAny_mkStr ?_ (hz2 m (List.mem_of_getElem? ht)))
    have I3 := I2.tok (s2.toks + 1)
    have pP := (I3.pin (P, lstObj acc c) (List.mem_append_right _ List.mem_cons_self)).1
    refine wpAny_bind ?_
    show wpAny _ _ (updateSeq P _) _ _ _
    have hasz : acc.size ≤ sizeLine := by
      have n1 : acc.toList.length = acc.size := by simp
      have n2 : (strValues done).length = done.length := by simp [strValues]
      have n3 : done.length = (ts.take i).length := by rw [← hdone, List.length_map]
      have n4 : (ts.take i).length ≤ i := by rw [List.length_take]; omega
      rw [hacc] at n1
      omega
    refine wpAny_updateSeq pP rfl (wpAny_pure ⟨PySem.F.quiet_list_repr_loop _, ?_⟩) hasz
    obtain ⟨c', I4⟩ := bump (v := .str m s2.toks) I3 hP hp
    have n1 : ((i : Int) + 1) = ((i + 1 : Nat) : Int) := by omega
    have n2 : piled (ts.take i) + (m.length + 2) = piled (ts.take (i + 1)) := by omega
    rw [n1, n2]
    exact ih (i + 1) _ H2 (acc.push (.str m s2.toks)) c' (done ++ [(m, s2.toks)]) (by omega) hlt (he.trans e2) I4 (by simp [hacc, strValues]) (by simp [List.take_add_one, ht, hdone])
/-- repr of a list of instances -/
def rReprL (C : Addr) (R : Addr → Str → Hp → Prop) : List V → Hp → VK → Prop := fun xs H Q => ∃ (l : Addr) (as : List Addr) (ts : List Str), xs = [.ref l] ∧ H l = some (.lst (as.map V.ref)) ∧ (∀ (i : Nat) (a : Addr), as[i]? = some a → ∃ t dx fs, ts[i]? = some t ∧ H a = some (.ins C dx fs) ∧ R a t H) ∧
  ts.length = as.length ∧ (listText ts).length ≤ sizeLine ∧ ∀ H', Ext H H' → Q (.str (listText ts)) H'
theorem call_reprL {CX : CXT} {C f : Addr} {fd : FuncData} {ps : List Str} {R : Addr → Str → Hp → Prop} {E : XK} (Fr : FnOk X.prog X.w X.K X.mg X.base CX n f fd ps (spRepr R)) (hb : Binds X.K fd ps []) (hx : Passes CX X E)
    (hs : PySem.W.findIn X.K (.ref C) "__repr__" = some (some (.ref f))) (hf : PySem.W.isFn X.K (.ref f) = true) (hr : Room (n + 2) X.A) (hg : X.A.guards = some []) (hR : ∀ a t H H', Ext H H' → R a t H → R a t H') : CallR X (.builtin "repr") (rReprL C R) := by
  intro pins s σ H xs us Q I r h
  obtain ⟨l, as, ts, rfl, hl, hT, hlen, hsz, hQ⟩ := h
  cases r with
  | cons rx rr =>
    cases rr
    cases rx
    obtain ⟨_, its, z, rv, e⟩ := I.hok l _ hl
    have hlI : its.length = as.length := by rw [← rv.length, List.length_map]
    have ty : s.TypeIs (.ref l) "list" := ⟨_, e, rfl⟩
    refine call_repr_slot (T := "list") (idr := "list.__repr__") (by have := hr.un; omega) ty PySem.F.slot_list_repr.toG ?_
    cases its with
    | nil =>
      have ha : as = [] := List.length_eq_zero_iff.mp hlI.symm
      have htn : ts = [] := List.length_eq_zero_iff.mp (by rw [hlen, ha]; rfl)
      subst ha htn
      refine call_list_repr_empty ty e rfl ?_
      refine ⟨_, _, rfl, .str (listText []), H, I.tok _, ⟨_, by rw [listText_nil]⟩, hQ H Ext.rfl'⟩
    | cons y ys =>
      refine GQ.call_here PySem.F.slot_list_repr ty PySem.F.entry_list_repr (PySem.F.args_list_repr_1 _) ?_
      show wpAny _ _ (Builtin.listReprAt 0 ⟨[.ref l], []⟩) _ _ s
      refine wpAny_list_repr_head (g := []) hg (fun v rest kw hm => by cases hm) e rfl ?_
      refine wpAny_bind (m := newList []) (wpAny_newObj_type ?_)
      have hP : (s.heap.push { cls := .type "list", data := .seq #[] }).get? s.heap.objs.size = some { cls := .type "list", data := .seq #[] } := Heap.get?_push_size _ rfl
      have I1 := ClX.pin_new (t' := s.toks) I (fun b u q => Heap.get?_push_of_some _ q) (Nat.le_refl _) hP (fun v q => by cases q)
      refine wpAny_pure ⟨PySem.F.quiet_list_repr_loop _, ?_⟩
      have hr1 : Room (n + 1) X.A.in1 := hr.in1
      exact loop_own (A := X.A.in1) Fr hb hx hs hf ⟨hr1, rfl⟩ hR I.sz (fun p hp => Nat.ne_of_lt (Heap.lt_size (I.pin p hp).1)) hl hT hlen hsz hQ _ 0 _ H #[] _ [] rfl (Nat.zero_le _) Ext.rfl' I1 rfl (by simp)
end
end Rp
/-! xs != ys where the items are equal by an own ==: False. -/
namespace No
open PySem PySem.SeqAt
open AutoSeq1 (wpAny_loadPart')
open MeetsSeq MeetsSeq2 MeetsSeq3 SeqRoads2
section
variable {prog : Program} {w : World} {A : Around} {R : Result → Shared → Prop}
theorem ne_walk (l b : Addr) (N : Nat) (I : Nat → Shared → Prop) (hl : GQ.ListI prog w A (fun e s' => R (.error e) s') l b N I) (fin : ∀ s, I N s → R (.ok (.ret (.bool false))) s) :
    ∀ (k i : Nat), i + k = N → ∀ s, I i s → wpAny (model prog w) A.in1 (Builtin.«list.__eq__.loop» ⟨[.ref l, .ref b, rawInt i, rawInt 3], []⟩) (GQ.FinOf prog w A R) (fun e s' => R (.error e) s') s
  | 0, i, hk, s, h => by
    have hi : i = N := hk
    subst hi
    obtain ⟨xs, ys, n, n2, h1, h2, z1, z2, _⟩ := hl _ _ h
    have hR := fin s h
    obtain ⟨hp, g, d, tk, os⟩ := s
    wp_walk using wpAny_loadPart' h1, wpAny_loadPart' h2
    rw [show xs[((i : Nat) : Int).toNat]? = none by simp [z1], show ys[((i : Nat) : Int).toNat]? = none by simp [z2]]
    wp_walk using wpAny_loadPart' h1, wpAny_loadPart' h2
    show R (.ok (.ret (.bool (xs.size != ys.size)))) _
    rw [z1, z2]
    simpa using hR
  | k + 1, i, hk, s, h => by
    obtain ⟨xs, ys, n, n2, h1, h2, z1, z2, turn⟩ := hl _ _ h
    have a1 : i < xs.size := by omega
    have a2 : i < ys.size := by omega
    have ht := turn a1 a2
    obtain ⟨hp, g, d, tk, os⟩ := s
    wp_walk using wpAny_loadPart' h1, wpAny_loadPart' h2
    rw [show xs[((i : Nat) : Int).toNat]? = some xs[i] by simp [a1], show ys[((i : Nat) : Int).toNat]? = some ys[i] by simp [a2]]
    refine wpAny_bind (wpAny_mono ht (fun r s2 q => ?_) fun _ _ x => x)
    obtain ⟨rfl, q⟩ := q
    have rec_ := ne_walk l b N I hl fin k (i + 1) (by omega) s2 q
    obtain ⟨hp2, g2, d2, tk2, os2⟩ := s2
    wp_walk
    rw [show ((i : Int) + 1) = ((i + 1 : Nat) : Int) by omega]
    exact ⟨plainId_quiet plain_eq_loop _, codeAny_builtin entry_eq_loop (by rw [Around.under_plainId plain_eq_loop _]; exact rec_)⟩
theorem ne_list (l b : Addr) (N : Nat) (I : Nat → Shared → Prop) (hl : GQ.ListI prog w A (fun e s' => R (.error e) s') l b N I) (fin : ∀ s, I N s → R (.ok (.ret (.bool false))) s) {s : Shared} (h : I 0 s) :
    wpAny (model prog w) A.in1 (Builtin.«list.__ne__» ⟨[.ref l, .ref b], []⟩) (GQ.FinOf prog w A R) (fun e s' => R (.error e) s') s := by
  obtain ⟨xs, ys, n, n2, h1, h2, z1, z2, _⟩ := hl _ _ h
  have rec_ := ne_walk l b N I hl fin N 0 (by omega) s h
  obtain ⟨hp, g, d, tk, os⟩ := s
  have f3 := AutoSeq1.sub_list_list
  have hne : ¬ (xs.size != ys.size) = true := by simp [z1, z2]
  wp_walk using wpAny_loadPart' h1, wpAny_loadPart' h2
  exact ⟨plainId_quiet plain_eq_loop _, codeAny_builtin entry_eq_loop (by rw [Around.under_plainId plain_eq_loop _]; exact rec_)⟩
end
theorem rich_ne {prog : Program} {w : World} {A : Around} {E : Value → Shared → Prop} {s : Shared} {l b : Addr} {N : Nat} {Q : Value → Shared → Prop} (hu : A.units < cLine) (I : Nat → Shared → Prop) (hl : GQ.ListI prog w A E l b N I)
    (fin : ∀ s, I N s → Q (.bool false) s) (h : I 0 s) : wpAny (model prog w) A (richCompare .NotEq (.ref l) (.ref b)) Q E s := by
  obtain ⟨xs, ys, n, n2, h1, h2, _, _, _⟩ := hl _ _ h
  refine wpAny_richCompare_same_room (op := .NotEq) ⟨_, h1, rfl⟩ ⟨_, h2, rfl⟩ F.slot_list_ne (GQ.call_here F.slot_list_ne ⟨_, h1, rfl⟩ F.entry_list_ne (F.args_list_ne_2 _ _) ?_) hu
  exact ne_list (R := wants (fun v s' => v ≠ .notImplemented ∧ Q v s') E) l b N I hl (fun s' q => ⟨(fun x => nomatch x), fin s' q⟩) h
end No
namespace No
open PySem PySem.Spec PyProof.Rows L2
section
variable {X : Cx} {n : Nat} {D : Eqv}
/-- xs != ys, all items equal -/
def rNeOwn (D : Eqv) : R2 := fun x y H Q => (∃ a b xs ys, x = .ref a ∧ y = .ref b ∧ H a = some (.lst xs) ∧ H b = some (.lst ys) ∧ Prs D xs ys H) ∧ ∀ H', Ext H H' → Q (.bl false) H'
theorem op_neOwn (hD : Mon D) (h : EqG X n D) (hr : Room (n + 1) X.A) : OpR X (compareOp .NotEq) (rNeOwn D) := by
  intro pins s σ H x y v u Q I rx ry hq
  obtain ⟨⟨a, b, xs, ys, rfl, rfl, ha, hb, p⟩, q⟩ := hq
  obtain rfl : v = Value.ref a := rx
  obtain rfl : u = Value.ref b := ry
  have sb : Sub X (n + 1) X.A := ⟨hr, rfl⟩
  show wpAny (model X.prog X.w) X.A (richCompare .NotEq (.ref a) (.ref b)) (EP X pins σ Q) X.xe s
  refine rich_ne (N := xs.length) hr.units0 (fun _ s' => LoopI X pins σ H s') (fun i s' z => ?_) (fun s' z => ?_) ⟨H, I, Ext.rfl'⟩
  · obtain ⟨H1, I1, e1⟩ := id z
    obtain ⟨y1, its, k, r, e⟩ := I1.hok a _ (e1 _ _ ha)
    obtain ⟨y2, its2, k2, r2, e2⟩ := I1.hok b _ (e1 _ _ hb)
    exact ⟨its.toArray, its2.toArray, k, k2, e, e2, by rw [List.size_toArray, ← r.length], by rw [List.size_toArray, ← r2.length, ← p.1], fun h1 h2 => turnG hD h sb p r r2 i h1 h2 s' z⟩
  · obtain ⟨H1, I1, e1⟩ := z
    exact ⟨.bl false, H1, I1, rfl, q H1 e1⟩
end
end No
/-! A law's end where the run at the very top is wanted: nothing is under way above the law. -/
namespace Tp
open PySem PySem.Spec PyProof.Rows L2
section
variable {P : Program} {w : World} {K : PySem.W.Frag} {mg mb : Str → Option Value} {fa a : Addr} {s₁ : Shared} {vs : List Value} {ns : List Int} {H : Hp}
/-- where no entry of a dict is tracked -/
theorem env_top (KX : K.In s₁.heap) (hns : s₁.heap.Ns mainGlobals mg) (hb : s₁.heap.Ns builtinsNs mb) (hbb : ∀ x : Str, x ≠ "__name__" → mb x = bootBuiltins x) (hlim : s₁.heap.NoLimit) (hg : s₁.gens = #[])
    (ha : s₁.heap.get? a = some { cls := .type "list", data := .seq vs.toArray }) (hok : HOk P w H s₁.heap) (only : ∀ b, H b ≠ none → b = a) (hK : H a ≠ none → K.lookup a = none) :
    K.In (hidT s₁.heap H) ∧ (hidT s₁.heap H).Ns mainGlobals mg ∧ Env0 P w K mg (hidT s₁.heap H) callerA [] s₁ H := by
  have notA : ∀ {b : Addr}, b ≠ a → H b = none := fun {b} ne => by
    cases q : H b with
    | none => rfl
    | some u => exact absurd (only b (by rw [q]; exact fun z => nomatch z)) ne
  have dct : ∀ {b : Addr} {m : Str → Option Value}, s₁.heap.Ns b m → (hidT s₁.heap H).Ns b m := fun {b m} n => by
    obtain ⟨o, es, ep, e, d, r⟩ := n
    refine ⟨o, es, ep, hidT_get e (notA fun z => ?_), d, r⟩
    subst z
    rw [ha] at e
    cases e
    cases d
  have inK : K.In (hidT s₁.heap H) := fun b o e => hidT_get (KX b o e) (by
    by_cases z : b = a
    · subst z
      cases q : H b with
      | none => rfl
      | some u =>
        have := hK (by rw [q]; exact fun z => nomatch z)
        rw [this] at e
        cases e
    · exact notA z)
  obtain ⟨mc, l1, l2⟩ := hlim
  exact ⟨inK, dct hns, ⟨rfl, ⟨inK, dct hns, ⟨mb, dct hb, hbb⟩, ⟨mc, dct l1, l2⟩⟩, fun b o e => of_hidT e, Nat.le_of_eq (hidT_size _ _), trivial, fun b z => (by cases z), hok, .of_eq hg⟩⟩
/-- the answer True -/
theorem end_top (only : Only H) (hok : HOk P w H s₁.heap) {r : Result} {s' : Shared} (h : CR C8.CX0 [] P w H s₁ (fun v _ => v = .bl true) (fun _ _ _ => False) r s') :
    r = .ok (.ret (.bool true)) ∧ OldK s₁.heap s'.heap ∧ s'.os = s₁.os ∧ AllBare s'.gens := by
  cases r with
  | error e => exact (show False from h).elim
  | ok fl =>
    cases fl with
    | ret u =>
      obtain ⟨v, H', h1, h2, un, hok', rv, hv⟩ := h
      have hv : v = .bl true := hv
      subst hv
      cases rv
      refine ⟨rfl, OldK.of_keep fun b o e => ?_, h1, h2⟩
      rcases only b with q | ⟨ob, xs, q⟩
      · exact un.keep b o e q (fun z => by cases z) (fun z => by cases z)
      · obtain ⟨g1, _⟩ := hok b _ q
        obtain ⟨g2, _⟩ := hok' b _ (un.frzs b ob _ q)
        rw [e] at g1
        cases g1
        exact g2
    | next => exact (show False from h).elim
    | brk => exact (show False from h).elim
    | cont => exact (show False from h).elim
/-- the run of the law's def at the top, its answer True -/
def TopOk (P : Program) (w : World) (K : PySem.W.Frag) (mg : Str → Option Value) (fa : Addr) (n : Nat) : Prop :=
  ∀ (base : Heap) (s : Shared) (H : Hp) (a : Addr) (ns : List Int), ns.length ≤ n → K.In base → base.Ns mainGlobals mg → Env0 P w K mg base callerA [] s H → SqL K H a (ns.map V.int) →
    codeAny (model P w) callerA (.call (.ref fa) ⟨[.ref a], []⟩) (CR C8.CX0 [] P w H s (fun v _ => v = .bl true) fun _ _ _ => False) s
theorem top_call {n : Nat} (KX : K.In s₁.heap) (hns : s₁.heap.Ns mainGlobals mg) (hb : s₁.heap.Ns builtinsNs mb) (hbb : ∀ x : Str, x ≠ "__name__" → mb x = bootBuiltins x) (hlim : s₁.heap.NoLimit) (hg : s₁.gens = #[])
    (ha : s₁.heap.get? a = some { cls := .type "list", data := .seq vs.toArray }) (hi : IntsAre vs ns) (hl : ns.length ≤ n) (hn : n ≤ sizeLine) (F : TopOk P w K mg fa n) :
    codeAny (model P w) callerA (.call (.ref fa) ⟨[.ref a], []⟩) (fun r s' => r = .ok (.ret (.bool true)) ∧ OldK s₁.heap s'.heap ∧ s'.os = s₁.os ∧ AllBare s'.gens) s₁ := by
  have rv := vals_ints hi
  have sz : vs.length ≤ sizeLine := by rw [hi.length]; omega
  cases hk : K.lookup a with
  | some o =>
    have e := KX a o hk
    rw [ha] at e
    cases e
    have ok0 : HOk P w (fun _ => none) s₁.heap := fun b u z => nomatch (show (none : Option HO) = some u from z)
    obtain ⟨e1, e2, e3⟩ := env_top KX hns hb hbb hlim hg ha ok0 (fun b z => absurd rfl z) (fun z => absurd rfl z)
    refine codeAny_mono (F _ s₁ _ a ns hl e1 e2 e3 (.inr ⟨_, vs.toArray, _, hk, rfl, rfl, rfl, by rw [List.size_toArray]; exact sz, by simpa using rv⟩)) fun r s' h => end_top (fun _ => .inl rfl) ok0 h
  | none =>
    generalize hH : (fun b : Addr => if b = a then some (HO.frz { cls := .type "list", data := .seq vs.toArray } (.lst (ns.map V.int))) else none) = Hf
    have at_ : Hf a = some (.frz { cls := .type "list", data := .seq vs.toArray } (.lst (ns.map V.int))) := by rw [← hH]; exact if_pos rfl
    have off : ∀ b, b ≠ a → Hf b = none := fun b ne => by rw [← hH]; exact if_neg ne
    have ok1 : HOk P w Hf s₁.heap := fun b u z => by
      by_cases q : b = a
      · subst q
        rw [at_] at z
        cases z
        exact ⟨ha, by rw [List.length_map]; omega, vs, _, rv, ha⟩
      · rw [off b q] at z
        cases z
    obtain ⟨e1, e2, e3⟩ := env_top KX hns hb hbb hlim hg ha ok1 (fun b z => Classical.byContradiction fun q => z (off b q)) (fun _ => hk)
    refine codeAny_mono (F _ s₁ _ a ns hl e1 e2 e3 (.inl (.inr ⟨_, at_⟩))) fun r s' h => end_top (fun b => ?_) ok1 h
    by_cases q : b = a
    · subst q
      exact .inr ⟨_, _, at_⟩
    · exact .inl (off b q)
end
theorem walk_top {l : PySem.W.OpenLaw} {n : Nat} {q : Program} {loose : List Str} {XP : (Str → Option Value) → Heap → Prop} {YP : World → Heap → Prop} {d : DefRec} {K : Params → PySem.W.Frag}
    (hn : l.most = some n) (hn2 : n ≤ sizeLine) (hdf : d.params.defaults = []) (hY : ∀ (w : World) (h : Heap), YP w h → (K w.params).In h)
    (F : ∀ (w : World) (mg : Str → Option Value) (fa : Addr) (h : Heap), (K w.params).In h → h.Ns mainGlobals mg → mg d.name = some (.ref fa) → TopOk l.prog w (K w.params) mg fa n) :
    PySem.W.WalkO q loose XP YP l.row.toRowW d [] (fun f vs => PySem.call f vs) := by
  refine Att.attach_call hn hdf fun w s₀ s₁ mg mb fa o pm cd doc a vs ns G Y ho hd hcd hmg hobj hints hlen hg => ?_
  exact top_call (hY w _ Y) G.T.g G.T.b G.T.builtins G.T.nolimit hg hobj hints hlen hn2 (F w mg fa _ (hY w _ Y) G.T.g hmg)
end Tp
/-! Class methods and classes called by keywords alone; defs without defaults. -/
namespace Kc
open PySem PySem.Spec PyProof.Rows L2
section
variable {K : PySem.W.Frag} {x qual : Str} {st : Stmt} {f : Addr} {fd : FuncData}
/-- one value by its place, two by their names, the later one first -/
theorem kbn_swap {p0 p1 p2 : Str} (F : Fun K x qual st f fd)
    (h : ∀ (kV doc pm : Value) (an : Option Addr) (cdv ct : Value) (u a b : Value), bindArgs (PySem.W.fnOf x qual (defArgs st) (defBody st) (defScope st) .none kV doc pm an cdv ct) ⟨[u], [(p2, a), (p1, b)]⟩ = pure ([p0, p1, p2].zip [u, b, a])) :
    KBn K fd [p0, p1, p2] 1 [p2, p1] (fun us ws => us ++ ws.reverse) (fun vs zs => vs ++ zs.reverse) := by
  obtain ⟨oc, od, kV, doc, pm, an, cdv, ct, osl, rfl, _, _⟩ := F.ex
  refine ⟨fun s us ws _ l1 l2 => ?_, fun r1 r2 => r1.append r2.reverse⟩
  obtain ⟨u, rfl⟩ : ∃ u, us = [u] := List.length_eq_one_iff.mp l1
  obtain ⟨a, b, rfl⟩ : ∃ a b, ws = [a, b] := match ws, l2 with
    | [a, b], _ => ⟨a, b, rfl⟩
  exact .of_eq (h kV doc pm an cdv ct u a b)
end
/-- o.m(k = v, ..), o the class at C, m a classmethod -/
def tCMethK (C : Addr) (n : Nat) (sp : Sp) (gV : List V → List V → List V) (E : XK) (ta : TE) (tk : TA) : TE := fun σ H Q => ta σ H fun x H1 => x = .ref C ∧ tk σ H1 fun zs H2 => zs.length = n ∧ sp (gV [.ref C] zs) H2 Q E
section
variable {X : Cx} {CX : CXT} {k : Nat} {C p g : Addr} {mc : Value} {fd : FuncData} {ps ks : List Str} {sp : Sp} {E : XK} {o : Expr} {kws : List Keyword} {m : Str} {pos apos : Pos} {ta : TE} {tk : TA} {pl : Sem Bool} {gg : List Value → List Value → List Value} {gV : List V → List V → List V}
theorem pe_cmethK0 (he : PE X o ta) (r : ClX.CRead X.K C mc) (c : ClX.CMet X.K C mc m p g) (F : FnOk X.prog X.w X.K X.mg X.base CX k g fd ps sp) (hb : KBn X.K fd ps 1 ks gg gV) (hr : Room k X.A) (hx : Passes CX X E) (hkw : PK X kws tk)
    (hall : (backToKw pos (keywordEach kws X.env)).all (·.1.isSome) = true := by rfl) (hks : (backToKw pos (keywordEach kws X.env)).filterMap (·.1) = ks := by rfl)
    (hpl : ((backTo pos (starEach [] X.env)).any (·.1) || (backToKw pos (keywordEach kws X.env)).any (·.1.isNone)) = false := by rfl)
    (ht : eval (.Call (.Attribute o m apos) [] kws pos) X.env = (do
      let v ← eval o X.env
      standAt apos.atName
      let (fv, fst) ← holding [v] (getMethod v m pl)
      callWith pos fv fst (backTo pos (starEach [] X.env)) (backToKw pos (keywordEach kws X.env))) := by rfl) :
    PE X (.Call (.Attribute o m apos) [] kws pos) (tCMethK C ks.length sp gV E ta tk) := by
  refine ⟨fun pins s σ H Q I h => ?_⟩
  refine PySem.W.methodCall_KW (pl := pl) (thn (he.run pins s σ H _ I h) fun u s1 hh => ?_) ht
  obtain ⟨x, H1, I1, rx, ex, q⟩ := hh
  subst ex
  cases rx
  refine ClX.getmethcm_ok I1 r c fun s2 I2 => ?_
  refine PySem.W.callWith_of (first := []) hpl (PySem.W.keeps_M (K := X.K) (self := .ref C) c.fi) (evalArgs_kw2_nil hall (thn (hkw.run pos _ s2 σ H1 _ I2 q) fun ws s3 hh2 => ?_))
  obtain ⟨zs, H2, I3, rz, l2, q2⟩ := hh2
  refine ⟨⟨ClX.pin_at I3, I3.kIn⟩, ?_⟩
  rw [hks]
  have r2 : Vals (gV [.ref C] zs) (gg [.ref C] ws) := hb.rel (.cons rfl .nil) rz
  have z : wpAny (model X.prog X.w) X.A (call (.ref s1.heap.objs.size) [] (ks.zip ws)) (EP X ((s1.heap.objs.size, PySem.W.methodObj (.ref g) (.ref C)) :: pins) σ Q) X.xe s3 := by
    refine wpAny_call (PySem.W.method_call (ClX.pin_at I3) (codeAny_mono (F.run X.A X.stack s3 H2 ⟨[.ref C], ks.zip ws⟩ (gg [.ref C] ws) (gV [.ref C] zs) Q E hr I3.env0 (hb.to s3 [.ref C] ws I3.kIn rfl (rz.length.symm.trans l2)) r2 q2) fun r s' hq => ?_))
    cases r with
    | error e => exact hx _ σ H2 s3 e s' I3 hq
    | ok fl =>
      cases fl with
      | ret w => exact I3.after hq
      | next => exact False.elim hq
      | brk => exact False.elim hq
      | cont => exact False.elim hq
  exact thn z fun _ _ y => ClX.unpinE y
end
end Kc
/-! The first item of a generator that has not begun; `for` over it that does not come to a second turn. -/
namespace G1
open PySem PySem.Spec PyProof.Rows L2 GenW
/-- the arguments, the heap, what is wanted of the first item and the heap then -/
abbrev Sp1 := List V → Hp → (V → Hp → Prop) → Prop
def FEnd : GenEnd := fun n s₀ r s₁ => ((r = .ok (.ret .none) ∨ r = .ok .next) ∧ (fun (_ : Nat) (_ _ : Shared) => False) n s₀ s₁) ∨ ∃ e, r = .error e ∧ (fun (_ : Value) (_ : Shared) => False) e s₁
def Y1 (P : Program) (w : World) (outer : List Env) (H : Hp) (s : Shared) (Q : V → Hp → Prop) : Protocol := fun _ _ v s1 _ =>
  ∃ H' x, s1.os = s.os ∧ AllBare s1.gens ∧ Un (frs outer) [] H H' s.heap s1.heap ∧ HOk P w H' s1.heap ∧ RelV x v ∧ Q x H'
def GOne (P : Program) (w : World) (k : Nat) (outer : List Env) (H : Hp) (s : Shared) (Q : V → Hp → Prop) (u : Value) (s' : Shared) : Prop :=
  ∃ (a : Addr) (g : Nat) (c : Code), u = .ref a ∧ s'.heap.IsGen a g ∧ s'.gens[g]? = some (.fresh c) ∧ s'.os = s.os ∧ AllBare s'.gens ∧ s'.heap.NoLimit ∧
    ∀ (A : Around) (s2 : Shared), Room k A → A.frames = some outer → (∀ b o, s'.heap.get? b = some o → s2.heap.get? b = some o) → s2.os = s.os → AllBare s2.gens →
      Seg (model P w) A FEnd (Y1 P w outer H s Q) 1 s2 c ((model P w).den c) [] s2
structure GF1 (P : Program) (w : World) (K : PySem.W.Frag) (mg : Str → Option Value) (base : Heap) (k : Nat) (f : Addr) (fd : FuncData) (ps : List Str) (sp : Sp1) : Prop where
  len : ∀ vs H Q, sp vs H Q → vs.length = ps.length
  run : ∀ (A : Around) (outer : List Env) (s : Shared) (H : Hp) (args : Args) (us : List Value) (vs : List V) (Q : V → Hp → Prop), Room k A → Env0 P w K mg base A outer s H → BindsTo s fd args (ps.zip us) → Vals vs us → sp vs H Q →
    codeAny (model P w) A (.call (.ref f) args) (fun r s' => match r with | .ok (.ret u) => GOne P w k outer H s Q u s' | _ => False) s
/-- the context of the generator's body; nothing is raised in it -/
def gx (P : Program) (w : World) (K : PySem.W.Frag) (mg : Str → Option Value) (base : Heap) (N : List Str) (qual : Str) (scope : Scope) (f : Addr) (cd : Value) (A : Around) (outer : List Env) (s : Shared) (H : Hp) : Cx :=
  { gcxOf P w K mg base N qual scope f cd A outer s H (fun _ _ _ => False) [] with xe := fun _ _ => False }
theorem inv_gx {P : Program} {w : World} {K : PySem.W.Frag} {mg : Str → Option Value} {base : Heap} {N : List Str} {qual : Str} {scope : Scope} {f : Addr} {cd : Value} {A : Around} {outer : List Env} {s s1 : Shared} {H H' : Hp} {σ : L2.St}
    (I : Inv (gcxOf P w K mg base N qual scope f cd A outer s H (fun _ _ _ => False) []) [] σ H' s1) : Inv (gx P w K mg base N qual scope f cd A outer s H) [] σ H' s1 :=
  ⟨⟨I.ok.mod, I.ok.kind, I.ok.glob, I.ok.blt, I.ok.above, I.ok.inj, I.ok.has, I.ok.cab, I.ok.hd, I.ok.frames, I.ok.stk, I.ok.exf, I.ok.bs, I.ok.bsz, I.ok.noex, I.ok.exfs, I.ok.funs, I.ok.frf⟩, I.os, I.bare, I.base, I.loc, I.cell, I.free, I.freeC, I.pin, I.hok, I.len⟩

theorem gf1_of {P : Program} {w : World} {K : PySem.W.Frag} {mg : Str → Option Value} {base : Heap} {k : Nat} {f : Addr} {name qual : Str} {params : Arguments} {scope : Scope} {dV kV doc pm cdv ct oc : Value} {an od : Option Addr}
    {osl : Array (Option Value)} {N ps : List Str} {sp : Sp1} {tg iter e : Expr} {yp yq fp : Pos} {rb rest : List Stmt}
    (lk : K.lookup f = some ⟨oc, od, .func (PySem.W.fnOf name qual params (.For tg iter (.Expr (.Yield (some e) yp) yq :: rb) [] fp :: rest) scope dV kV doc pm an cdv ct), osl⟩) (hcd : PySem.W.codeIn K cdv qual = true) (S : GScope N ps scope)
    (len : ∀ vs H Q, sp vs H Q → vs.length = ps.length)
    (hbody : ∀ (A : Around) (outer : List Env) (s : Shared) (H : Hp) (vs : List V) (Q : V → Hp → Prop), Room k (A.deeper (envOfC qual scope s.heap.objs.size f cdv)) → sp vs H Q →
      ∃ wi g te, PI (gx P w K mg base N qual scope f cdv A outer s H) tg iter wi ∧ PG (gx P w K mg base N qual scope f cdv A outer s H) tg g ∧ PE (gx P w K mg base N qual scope f cdv A outer s H) e te ∧
        wi (start N vs) H fun J H1 => J.go 0 H1 ∧ ∀ x H', J.yld 0 H1 x H' → g x (start N vs) H' fun σ2 H2 => te σ2 H2 fun y H3 => Q y H3)
    (hs : ∀ env x, foldedSetIterable iter env x = pure x := by intro _ _; rfl) :
    GF1 P w K mg base (k + 1) f (PySem.W.fnOf name qual params (.For tg iter (.Expr (.Yield (some e) yp) yq :: rb) [] fp :: rest) scope dV kV doc pm an cdv ct) ps sp := by
  refine ⟨len, fun A outer s H args us vs Q hr e0 hb r hsp => ?_⟩
  have hl := len _ _ _ hsp
  have KX : K.In s.heap := e0.mod.kin.keeps fun b o e => (e0.bs b o e).1
  have lim : s.heap.NoLimit := e0.mod.nolimit.keeps fun b o e => (e0.bs b o e).1
  have hkind : ∀ y ∈ ps.zip us, scope.names.lookup y.1 = some .local ∨ (scope.names.lookup y.1 = some .cell ∧ ((cellsFrom (s.heap.objs.size + 1) scope.names []).lookup y.1).isSome = true) := fun ⟨n, v⟩ hy => by
    rcases S.par n (List.of_mem_zip hy).1 with q | q
    · exact .inl q
    · exact .inr ⟨q, PySem.W.cellsFrom_some _ _ _ (.inl q)⟩
  refine codeAny_call_generator hr.depth (KX _ _ lk) rfl S.co S.gen rfl (PySem.W.codeRec_of KX hcd) (hb _ _ _ _ ?_)
  refine wpAny_newFunctionEnv_cells S.kind hkind fun env he s1 x => ?_
  subst he
  have lim1 : s1.heap.NoLimit := lim.keeps x.toInCall.keep
  refine ⟨lim1, ?_⟩
  obtain ⟨h1, tk, es1, hk1⟩ := x.done
  have os1 : s1.os = s.os := by rw [es1]
  have gen1 : s1.gens = s.gens := by rw [es1]
  have main : ∀ (go : Obj) (nm qn : Value) (tk2 : Nat), go.cls = .type "generator" → go.data = .fields #[.int s1.gens.size 0, nm, qn] → go.slots = #[] → (∀ h : Heap, (h.push go).get? h.objs.size = some go) →
      GOne P w (k + 1) outer H s Q (.ref s1.heap.objs.size) { s1 with gens := s1.gens.push (.fresh (.func (.For tg iter (.Expr (.Yield (some e) yp) yq :: rb) [] fp :: rest) (envOfC qual scope s.heap.objs.size f cdv))), toks := tk2, heap := s1.heap.push go } := by
    intro go nm qn tk2 hgc hgd0 hgs hgp
    refine ⟨s1.heap.objs.size, s1.gens.size, _, rfl, ⟨go, nm, qn, hgp _, hgc, hgd0, hgs⟩, Array.getElem?_push_size .., os1, AllBare.push (by rw [gen1]; exact e0.bare) rfl, lim1.keeps fun b o e => Heap.get?_push_of_some _ e, ?_⟩
    intro Aw s2 hrw hfr hk2 hos hba
    have e0w : Env0 P w K mg base Aw outer s H := ⟨hfr, e0.mod, e0.bs, e0.bsz, e0.funs, e0.frf, e0.hok, e0.bare⟩
    obtain ⟨wi, g, te, hi, hg, he, hq⟩ := hbody Aw outer s H vs Q (hrw.deeper _) hsp
    have I1 := inv_startG (E := fun _ _ _ => False) S hrw.hd e0w hl r x
    have kp2 : ∀ b o, s1.heap.get? b = some o → s2.heap.get? b = some o := fun b o e => hk2 b o (Heap.get?_push_of_some _ e)
    have I2 := inv_gx (I1.call' (ch := []) (hos.trans os1.symm) (Un.kept kp2) (I1.hok.kept kp2) hba fun b z => by simp at z)
    refine seg_func ?_
    refine seg_execs_cons ?_
    refine Gf.seg_For (hs _) ?_
    rw [over_func]
    refine wpAny_mono (hi.run [] s2 _ H _ I2 hq) (fun v s3 h3 => wpAny_mono h3 (fun itv s4 h4 => ?_) fun x s' hx => False.elim hx) fun x s' hx => False.elim hx
    obtain ⟨it, fq, tn, J, H2, e, I3, T, st3, f3, go3, step⟩ := h4
    subst e
    intro p
    refine Gf.seg_forLoop ?_
    rw [over_loop rfl rfl, over_func]
    refine wpAny_mono (T.item (gx P w K mg base N qual scope f cdv Aw outer s H) rfl rfl rfl rfl 0 [] s4 _ H2 (fun _ _ => False) I3 f3 st3 go3) (fun r5 s5 ⟨u, hr5, h5⟩ => ?_) fun x s' hx => False.elim hx
    subst hr5
    refine wpAny_mono h5 (fun _ s6 ⟨y, H6, I6, r6, y6, _, _⟩ => ?_) fun x s' hx => False.elim hx
    refine wpAny_mono (hg.run [] s6 _ H6 y u _ I6 r6 (step y H6 y6)) (fun _ s7 ⟨σ7, H7, I7, q7⟩ => ?_) fun x s' hx => False.elim hx
    refine seg_execs_cons ?_
    refine seg_Expr_Yield rfl rfl rfl ?_ S.co (by simp only [interactive, S.kind, envOfC]; rfl)
    rw [over_loop rfl rfl, over_func]
    refine wpAny_mono (he.run [] s7 σ7 H7 _ I7 q7) (fun v s8 h8 => ?_) fun x s' hx => False.elim hx
    obtain ⟨z, H8, I8, r8, q8⟩ := h8
    intro kap _
    exact ⟨H8, z, I8.os, I8.bare, I8.base, I8.hok, r8, q8⟩
  exact main _ _ _ _ rfl rfl rfl fun h => Heap.get?_push_size _ rfl

section
variable {X : Cx} {k : Nat} {f C : Addr} {fd : FuncData} {ps : List Str} {sp : Sp1} {x m : Str} {p pos pos' apos : Pos} {o : Expr} {ta : TE}
abbrev TG1 := L2.St → Hp → (V → Hp → Prop) → Prop
structure P1 (X : Cx) (k : Nat) (e : Expr) (tg : TG1) : Prop where
  run : ∀ (pins : List (Addr × Obj)) (s : Shared) (σ : L2.St) (H : Hp) (cont : V → Hp → Prop), Inv X pins σ H s → tg σ H cont → wpAny (model X.prog X.w) X.A (eval e X.env)
    (fun u s' => ∃ H1 sc, Inv X pins σ H1 sc ∧ GOne X.prog X.w k X.stack H1 sc cont u s') X.xe s
def t1Meth (C : Addr) (m : Str) (sp : Sp1) (ta : TE) : TG1 := fun σ H cont => ta σ H fun x H1 => ∃ a dx fs, x = .ref a ∧ H1 a = some (.ins C dx fs) ∧ fs.lookup m = none ∧ sp [x] H1 cont
theorem p1_meth0 {pl : Sem Bool} (he : PE X o ta) (c : Cls X.K C) (hm : Meth X.K C m f) (F : GF1 X.prog X.w X.K X.mg X.base k f fd ps sp) (hr : Room k X.A) (hb : Binds X.K fd ps [])
    (ht : eval (.Call (.Attribute o m apos) [] [] pos') X.env = (do
      let ov ← eval o X.env
      standAt apos.atName
      let (f, first) ← holding [ov] (getMethod ov m pl)
      callWith pos' f first (backTo pos' (starEach [] X.env)) (backToKw pos' (keywordEach [] X.env))) := by rfl) :
    P1 X k (.Call (.Attribute o m apos) [] [] pos') (t1Meth C m sp ta) := by
  refine ⟨fun pins s σ H cont I h => ?_⟩
  refine PySem.W.methodCall_KW (pl := pl) (thn (he.run pins s σ H _ I h) fun u s1 ⟨x, H1, I1, rx, a, dx, fs, ex, ea, l, q⟩ => ?_) ht
  subst ex
  obtain rfl : u = Value.ref a := rx
  refine getmeth_ok I1 ea c hm l ?_
  refine PySem.W.callWith_K0 (first := [.ref a]) I1.kIn hm.kp ?_
  have hl2 : ([Value.ref a] ++ ([] : List Value)).length = ps.length := F.len _ _ _ q
  refine wpAny_call (codeAny_mono (F.run X.A X.stack s1 H1 ⟨[.ref a], []⟩ ([Value.ref a] ++ ([] : List Value)) [V.ref a] cont hr I1.env0 (hb s1 [Value.ref a] I1.kIn hl2) (show Vals [V.ref a] [Value.ref a] from .cons rfl .nil) q) fun r s' hq => ?_)
  cases r with
  | error e => exact False.elim hq
  | ok fl =>
    cases fl with
    | ret u => exact ⟨H1, s1, I1, hq⟩
    | next => exact False.elim hq
    | brk => exact False.elim hq
    | cont => exact False.elim hq
def tFor1 (t1 : TG1) (g : TG) (tb : TS) : TS := fun D σ H => t1 σ H fun x H1 => g x σ H1 fun σ2 H2 => tb { D with nx := fun _ _ => False, ct := fun _ _ => False, bk := D.nx } σ2 H2
/-- for v in g: .. that leaves in its first turn -/
theorem ps_for1 {v : Str} {vp : Pos} {iter : Expr} {body : List Stmt} {t1 : TG1} {g : TG} {tb : TS} (hp : PassesOwn (model X.prog X.w) X.A X.env X.xe) (h1 : P1 X k iter t1) (hr : Room (k + 1) X.A) (hg : PG X (.Name v vp) g) (hb : PSs X body tb)
    (hs : ∀ x, foldedSetIterable iter X.env x = pure x := by intro _; rfl) : PS X (.For (.Name v vp) iter body [] pos) (tFor1 t1 g tb) := by
  refine ⟨fun pins s σ H D I h => ?_⟩
  refine wpAny_For (thn (h1.run pins s σ H _ I h) fun u s1 ⟨H1, sc, I1, a, gi, c, eu, hgen, hgs, hos, hba, hl, wake⟩ => ?_) hs
  subst eu
  refine wpAny_pyIter_gen hgen ?_
  refine codeAny_forLoop_any (fun n s' => s' = s1) ?_ 0 rfl
  rintro n s3 rfl
  have hlt : gi < s3.gens.size := (Array.getElem?_eq_some_iff.mp hgs).1
  refine wpAny_passesOwn hp ?_
  refine next_genG (n := 1) hr.hd hl (by have := hr.dp; omega) hgen hgs (Y := Y1 X.prog X.w X.stack H1 sc _) ⟨rfl, wake X.A.in1 (s3.setGen gi .running) ⟨hr.hd, ?_, ?_⟩ I1.ok.frames (fun _ _ e => e) hos (allBare_setGen hba rfl)⟩ (fun u4 s4 gs' hbare hy => ?_) (fun _ z => False.elim z) (fun _ _ z => False.elim z)
  · have := hr.dp
    show X.A.depth + 3 * k + 5 < _
    omega
  · have := hr.un
    show X.A.units + 1 + 16 * k + 200 < _
    omega
  obtain ⟨H4, y, os4, ba4, un4, ok4, r4, q4⟩ := hy
  have I4 : Inv X pins σ H4 (s4.setGen gi gs') := I1.call' (ch := []) os4 un4 ok4 (allBare_setGen ba4 hbare) fun b z => by simp at z
  refine wpAny_passesOwn hp (wpAny_pure ?_)
  refine wpAny_passesOwn hp (thn (hg.run _ _ σ H4 y u4 _ I4 r4 q4) fun _ s6 ⟨σ6, H6, I6, q6⟩ => ?_)
  refine wpAny_passesOwn hp (thn (hb.run _ s6 σ6 H6 _ I6 q6) fun f s7 q7 => ?_)
  cases f with
  | next => obtain ⟨σ7, H7, I7, n7⟩ := q7; exact False.elim n7
  | cont => obtain ⟨σ7, H7, I7, n7⟩ := q7; exact False.elim n7
  | brk => exact q7
  | ret v => exact q7
end
end G1
/-! len(range(n)); repr of one instance with its own __repr__. -/
namespace Lr
open PySem PySem.Spec PyProof.Rows L2
section
variable {X : Cx} {e : Expr} {tr : L2.St → Hp → (Int → Int → Hp → Prop) → Prop} {p pos : Pos}
def tLenRg (tr : L2.St → Hp → (Int → Int → Hp → Prop) → Prop) : TE := fun σ H Q => tr σ H fun a b H1 => 0 ≤ b - a ∧ b - a < 2 ^ 63 ∧ Q (.int (b - a)) H1
theorem pe_lenRg (hg : Gl X "len") (hm : X.mg "len" = none) (he : PRg X e tr) (na : starEach [e] X.env = (false, eval e X.env) :: starEach [] X.env := by rfl) : PE X (.Call (.Name "len" p) [e] [] pos) (tLenRg tr) := by
  refine ⟨fun pins s σ H Q I h => ?_⟩
  refine Call_ (ld_blt I hg hm PySem.boot_len (PyProof.Rows.callWith_builtin1 (args_cons (thn (he pins s σ H _ I h) fun x s1 ⟨r, a, b, t, u, v, H1, ex, hr, I1, h0, h1, q⟩ => args_nil ?_) na) na))
  subst ex
  have e1 : Builtin.Range.rangeSize a b 1 = ((b - a).toNat : Nat) := by rw [rangeSize_one]; split <;> omega
  refine call_len_range hr e1 (by omega) ?_
  refine ⟨.int (b - a), H1, I1.tok _, ⟨_, by rw [Int.toNat_of_nonneg h0]⟩, q⟩
end
section
variable {X : Cx} {n : Nat}
/-- repr(o) -/
def rReprO (C : Addr) (R : Addr → Str → Hp → Prop) : List V → Hp → VK → Prop := fun xs H Q => ∃ (a : Addr) (t : Str) (dx : Addr) (fs : List (Str × V)), xs = [.ref a] ∧ H a = some (.ins C dx fs) ∧ R a t H ∧ ∀ H', Ext H H' → Q (.str t) H'
theorem call_reprO {CX : CXT} {C f : Addr} {fd : FuncData} {ps : List Str} {R : Addr → Str → Hp → Prop} {E : XK} (Fr : FnOk X.prog X.w X.K X.mg X.base CX n f fd ps (Rp.spRepr R)) (hb : Binds X.K fd ps []) (hx : Passes CX X E)
    (hs : PySem.W.findIn X.K (.ref C) "__repr__" = some (some (.ref f))) (hf : PySem.W.isFn X.K (.ref f) = true) (hr : Room (n + 1) X.A) : CallR X (.builtin "repr") (rReprO C R) := by
  intro pins s σ H xs us Q I r h
  obtain ⟨a, t, dx, fs, rfl, ha, hR, q⟩ := h
  obtain ⟨u, rfl, ru⟩ := vals1 r
  obtain rfl : u = Value.ref a := ru
  obtain ⟨mA, J, _⟩ := ins_get I.hok ha
  obtain ⟨od, J, _⟩ := J.look
  obtain ⟨m, hF⟩ := I.fr
  refine PySem.W.repr_K (C := C) (f := f) hr.in1.units0 hF I.ok.mod.kin J hs hf (wpAny_mono (Rp.run_repr (C := C) (dx := dx) (fs := fs) Fr hb hx ⟨hr.in1, rfl⟩ I hR) (fun v s' hq => ?_) fun _ _ z => z)
  obtain ⟨m, u, rfl, rfl, H', I', e⟩ := hq
  exact ⟨.str m, H', I', ⟨u, rfl⟩, q H' e⟩
end
end Lr
/-! A run that is promised whatever the suspended generators would do leaves them as they are. -/
namespace Gk
open PySem PySem.Sem
/-- a suspended generator that can't be woken, and looks alike -/
def stuckOf : GenState → GenState
  | .suspended _ l c p fs cl => .suspended (fun _ => .unsupported "") l c p fs cl
  | x => x
def isSus : GenState → Bool
  | .suspended .. => true
  | _ => false
/-- no generator's frame among a generator's frames -/
def ng : GenState → Prop
  | .suspended _ _ _ _ fs _ => splitAtGen fs = none
  | _ => True
theorem seen_stuck (x : GenState) : (stuckOf x).seen = x.seen := by cases x <;> rfl
theorem bare_stuck (x : GenState) : (stuckOf x).bare = x.bare := by cases x <;> rfl
theorem sus_stuck (x : GenState) : isSus (stuckOf x) = isSus x := by cases x <;> rfl
/-- G0: the generators at the beginning; S: the real ones; T: those in which G0's suspended ones are stuck -/
structure RG (G0 S T : Array GenState) : Prop where
  sz : S.size = T.size
  ge : G0.size ≤ S.size
  at_ : ∀ (i : Nat) (x : GenState), S[i]? = some x → (G0[i]? = some x ∧ isSus x = true ∧ T[i]? = some (stuckOf x)) ∨ ((∀ y : GenState, G0[i]? = some y → isSus y = false) ∧ T[i]? = some x ∧ ng x)
def Rl (G0 : Array GenState) (s t : Shared) : Prop := ∃ T, t = { s with gens := T } ∧ RG G0 s.gens T
theorem RG.start (S : Array GenState) : RG S S (S.map stuckOf) := by
  refine ⟨by simp, Nat.le_refl _, fun i x h => ?_⟩
  have e : (S.map stuckOf)[i]? = some (stuckOf x) := by rw [Array.getElem?_map, h]; rfl
  cases hs : isSus x with
  | true => exact .inl ⟨h, hs ▸ rfl, e⟩
  | false =>
    refine .inr ⟨fun y hy => ?_, ?_, ?_⟩
    · rw [h] at hy; cases hy; exact hs
    · rw [e]; cases x <;> first | rfl | cases hs
    · cases x <;> first | trivial | cases hs
theorem RG.push {G0 S T : Array GenState} (r : RG G0 S T) {x : GenState} (hx : ng x) : RG G0 (S.push x) (T.push x) := by
  refine ⟨by simp [r.sz], by have := r.ge; simp; omega, fun i y h => ?_⟩
  rw [Array.getElem?_push] at h ⊢
  by_cases hi : i = S.size
  · rw [if_pos hi] at h
    cases h
    refine .inr ⟨fun z hz => ?_, by rw [if_pos (by rw [hi, r.sz])], hx⟩
    have := (Array.getElem?_eq_some_iff.mp hz).1
    have := r.ge
    omega
  · rw [if_neg hi] at h
    rw [if_neg (by rw [← r.sz]; exact hi)]
    exact r.at_ i y h
theorem RG.set {G0 S T : Array GenState} (r : RG G0 S T) {g : Nat} {x : GenState} (hn : ∀ y, G0[g]? = some y → isSus y = false) (hx : ng x) : RG G0 (S.setIfInBounds g x) (T.setIfInBounds g x) := by
  refine ⟨by simp [r.sz], by have := r.ge; simp; omega, fun i y h => ?_⟩
  by_cases hi : g = i
  · subst hi
    rw [Array.getElem?_setIfInBounds_self] at h ⊢
    by_cases hlt : g < S.size
    · rw [if_pos hlt] at h
      cases h
      exact .inr ⟨hn, by rw [if_pos (by rw [← r.sz]; exact hlt)], hx⟩
    · rw [if_neg hlt] at h; cases h
  · rw [Array.getElem?_setIfInBounds_ne hi] at h ⊢
    exact r.at_ i y h
/-- what stands at an index of T stands in S, or is stuck -/
theorem RG.back {G0 S T : Array GenState} (r : RG G0 S T) {g : Nat} {x : GenState} (h : T[g]? = some x) : ∃ y, S[g]? = some y ∧ ((isSus y = true ∧ x = stuckOf y) ∨ ((∀ z, G0[g]? = some z → isSus z = false) ∧ y = x ∧ ng x)) := by
  have hlt := (Array.getElem?_eq_some_iff.mp h).1
  have hS : S[g]? = some (S[g]'(by rw [r.sz]; exact hlt)) := Array.getElem?_eq_getElem _
  refine ⟨_, hS, ?_⟩
  rcases r.at_ g _ hS with ⟨_, h2, h3⟩ | ⟨h1, h2, h3⟩
  · rw [h] at h3
    exact .inl ⟨h2, Option.some.inj h3⟩
  · rw [h] at h2
    have e := Option.some.inj h2
    refine .inr ⟨h1, e.symm, ?_⟩
    rw [e]; exact h3
theorem RG.seen {G0 S T : Array GenState} (r : RG G0 S T) {g : Nat} {x : GenState} (h : T[g]? = some x) : ∃ y, S[g]? = some y ∧ y.seen = x.seen := by
  obtain ⟨y, hy, z⟩ := r.back h
  rcases z with ⟨_, e⟩ | ⟨_, e, _⟩
  · exact ⟨y, hy, by rw [e, seen_stuck]⟩
  · exact ⟨y, hy, by rw [e]⟩
theorem RG.plain {G0 S T : Array GenState} (r : RG G0 S T) {g : Nat} {x : GenState} (h : T[g]? = some x) (hx : isSus x = false) : S[g]? = some x ∧ ∀ z, G0[g]? = some z → isSus z = false := by
  obtain ⟨y, hy, z⟩ := r.back h
  rcases z with ⟨e1, e⟩ | ⟨e1, e, _⟩
  · rw [e, sus_stuck, e1] at hx; cases hx
  · exact ⟨by rw [hy, e], e1⟩
theorem split_app : ∀ {a b : List Frame}, splitAtGen a = none → splitAtGen b = none → splitAtGen (a ++ b) = none
  | [], _, _, hb => hb
  | .gen .. :: _, _, ha, _ => by simp [splitAtGen] at ha
  | .ret .. :: a, b, ha, hb => by
    have ha' : splitAtGen a = none := by
      simp only [splitAtGen, Option.map_eq_none_iff] at ha
      exact ha
    simp only [List.cons_append, splitAtGen, Option.map_eq_none_iff]
    exact split_app ha' hb
theorem no_unsup {M : Model} {Γ : Ctx} {p : Pos} {w : String} {s s' : Shared} {e : End} : ¬ Runs M Γ p (.unsupported w) [] s e s' := fun h => by cases h
theorem no_unsup' {M : Model} {Γ : Ctx} {p : Pos} {w : String} {fs : List Frame} {s s' : Shared} {e : End} (h : Runs M Γ p (.unsupported w) fs s e s') : False := by
  cases h with
  | segRet h1 _ => exact no_unsup h1
  | segGen h1 _ => exact no_unsup h1
  | segSuspOut _ h1 => exact no_unsup h1
  | segSuspGen _ h1 _ _ => exact no_unsup h1
/-- its frames are free of generators -/
def Fre : End → Prop
  | .susp _ _ _ _ _ _ fs => splitAtGen fs = none
  | _ => True
theorem Fre.ng {e : End} (h : Fre e) : Gk.ng e.genState := by cases e <;> exact h
theorem fr {M : Model} {Γ : Ctx} {p : Pos} {t : Sem Fin} {fs : List Frame} {tS tS' : Shared} {e : End} (h : Runs M Γ p t fs tS e tS') (G0 : Array GenState) :
    ∀ s, Rl G0 s tS → splitAtGen fs = none → (∃ s', Rl G0 s' tS' ∧ Runs M Γ p t fs s e s') ∧ Fre e := by
  induction h with
  | done => intro s r _; exact ⟨⟨s, r, .done⟩, trivial⟩
  | raise => intro s r _; exact ⟨⟨s, r, .raise⟩, trivial⟩
  | again hq _ ih => intro s r hf; obtain ⟨⟨s', r', h'⟩, z⟩ := ih s r hf; exact ⟨⟨s', r', .again hq h'⟩, z⟩
  | rule _ ih => intro s r hf; obtain ⟨⟨s', r', h'⟩, z⟩ := ih s r hf; exact ⟨⟨s', r', .rule h'⟩, z⟩
  | «at» _ ih => intro s r hf; obtain ⟨⟨s', r', h'⟩, z⟩ := ih s r hf; exact ⟨⟨s', r', .at h'⟩, z⟩
  | load ho _ ih => intro s r hf; obtain ⟨T, rfl, q⟩ := r; obtain ⟨⟨s', r', h'⟩, z⟩ := ih s ⟨T, rfl, q⟩ hf; exact ⟨⟨s', r', .load ho h'⟩, z⟩
  | update ho _ ih => intro s r hf; obtain ⟨T, rfl, q⟩ := r; obtain ⟨⟨s', r', h'⟩, z⟩ := ih { s with heap := _ } ⟨T, rfl, q⟩ hf; exact ⟨⟨s', r', .update ho h'⟩, z⟩
  | loadIfAlive _ ih => intro s r hf; obtain ⟨T, rfl, q⟩ := r; obtain ⟨⟨s', r', h'⟩, z⟩ := ih s ⟨T, rfl, q⟩ hf; exact ⟨⟨s', r', .loadIfAlive h'⟩, z⟩
  | point _ ih => intro s r hf; obtain ⟨⟨s', r', h'⟩, z⟩ := ih s r hf; exact ⟨⟨s', r', .point h'⟩, z⟩
  | alloc _ ih => intro s r hf; obtain ⟨T, rfl, q⟩ := r; obtain ⟨⟨s', r', h'⟩, z⟩ := ih { s with heap := _ } ⟨T, rfl, q⟩ hf; exact ⟨⟨s', r', .alloc h'⟩, z⟩
  | fresh _ ih => intro s r hf; obtain ⟨T, rfl, q⟩ := r; obtain ⟨⟨s', r', h'⟩, z⟩ := ih { s with toks := _ } ⟨T, rfl, q⟩ hf; exact ⟨⟨s', r', .fresh h'⟩, z⟩
  | ask _ ih => intro s r hf; obtain ⟨⟨s', r', h'⟩, z⟩ := ih s r hf; exact ⟨⟨s', r', .ask h'⟩, z⟩
  | choose hn _ ih => intro s r hf; obtain ⟨T, rfl, q⟩ := r; obtain ⟨⟨s', r', h'⟩, z⟩ := ih { s with drawn := _ } ⟨T, rfl, q⟩ hf; exact ⟨⟨s', r', .choose hn h'⟩, z⟩
  | os _ ih => intro s r hf; obtain ⟨T, rfl, q⟩ := r; obtain ⟨⟨s', r', h'⟩, z⟩ := ih { s with os := _ } ⟨T, rfl, q⟩ hf; exact ⟨⟨s', r', .os h'⟩, z⟩
  | handled _ ih => intro s r hf; obtain ⟨⟨s', r', h'⟩, z⟩ := ih s r hf; exact ⟨⟨s', r', .handled h'⟩, z⟩
  | genState hg _ ih =>
    intro s r hf; obtain ⟨T, rfl, q⟩ := r
    obtain ⟨⟨s', r', h'⟩, z⟩ := ih s ⟨T, rfl, q⟩ hf
    obtain ⟨y, hy, e⟩ := q.seen hg
    rw [← e] at h'
    exact ⟨⟨s', r', .genState hy h'⟩, z⟩
  | stack _ ih => intro s r hf; obtain ⟨⟨s', r', h'⟩, z⟩ := ih s r hf; exact ⟨⟨s', r', .stack h'⟩, z⟩
  | thread _ ih => intro s r hf; obtain ⟨⟨s', r', h'⟩, z⟩ := ih s r hf; exact ⟨⟨s', r', .thread h'⟩, z⟩
  | newGen _ ih =>
    intro s r hf; obtain ⟨T, rfl, q⟩ := r
    have e : T.size = s.gens.size := q.sz.symm
    obtain ⟨⟨s', r', h'⟩, z⟩ := ih { s with gens := s.gens.push _ } ⟨_, rfl, q.push trivial⟩ hf
    rw [show (({ s with gens := T } : Shared).gens.size) = s.gens.size from e] at h'
    exact ⟨⟨s', r', .newGen h'⟩, z⟩
  | call _ _ ih1 ih2 =>
    intro s r hf
    obtain ⟨⟨s1, r1, h1⟩, _⟩ := ih1 s r rfl
    obtain ⟨⟨s', r', h'⟩, z⟩ := ih2 s1 r1 hf
    exact ⟨⟨s', r', .call h1 h'⟩, z⟩
  | callSusp _ ih =>
    intro s r hf
    obtain ⟨⟨s', r', h'⟩, z⟩ := ih s r rfl
    exact ⟨⟨s', r', .callSusp h'⟩, split_app z rfl⟩
  | yield => intro s r _; exact ⟨⟨s, r, .yield⟩, rfl⟩
  | resumeFresh hg _ hq _ ih1 ih2 =>
    intro s r hf; obtain ⟨T, rfl, q⟩ := r
    obtain ⟨hs, hn⟩ := q.plain hg rfl
    obtain ⟨⟨s1, r1, h1⟩, z1⟩ := ih1 (s.setGen _ .running) ⟨_, rfl, q.set hn trivial⟩ rfl
    obtain ⟨T1, rfl, q1⟩ := r1
    obtain ⟨⟨s', r', h'⟩, z⟩ := ih2 (s1.setGen _ _) ⟨_, rfl, q1.set hn z1.ng⟩ hf
    exact ⟨⟨s', r', .resumeFresh hs h1 hq h'⟩, z⟩
  | resumeSuspended hg hrun hq _ ih1 ih2 =>
    intro s r hf; obtain ⟨T, rfl, q⟩ := r
    obtain ⟨y, hy, w⟩ := q.back hg
    rcases w with ⟨h1, h2⟩ | ⟨hn, e, hng⟩
    · cases y <;> simp only [stuckOf] at h2 <;> cases h2
      exact (no_unsup' hrun).elim
    · subst e
      obtain ⟨⟨s1, r1, h1⟩, z1⟩ := ih1 (s.setGen _ .running) ⟨_, rfl, q.set hn trivial⟩ hng
      obtain ⟨T1, rfl, q1⟩ := r1
      obtain ⟨⟨s', r', h'⟩, z⟩ := ih2 (s1.setGen _ _) ⟨_, rfl, q1.set hn z1.ng⟩ hf
      exact ⟨⟨s', r', .resumeSuspended hy h1 hq h'⟩, z⟩
  | resumeJustStarted hg hv _ ih =>
    intro s r hf; obtain ⟨T, rfl, q⟩ := r
    obtain ⟨hs, hn⟩ := q.plain hg rfl
    obtain ⟨⟨s', r', h'⟩, z⟩ := ih s ⟨T, rfl, q⟩ hf
    exact ⟨⟨s', r', .resumeJustStarted hs hv h'⟩, z⟩
  | resumeThrowFresh hg _ ih =>
    intro s r hf; obtain ⟨T, rfl, q⟩ := r
    obtain ⟨hs, hn⟩ := q.plain hg rfl
    obtain ⟨⟨s', r', h'⟩, z⟩ := ih (s.setGen _ .finished) ⟨_, rfl, q.set hn trivial⟩ hf
    exact ⟨⟨s', r', .resumeThrowFresh hs h'⟩, z⟩
  | resumeRunning hg _ ih =>
    intro s r hf; obtain ⟨T, rfl, q⟩ := r
    obtain ⟨hs, hn⟩ := q.plain hg rfl
    obtain ⟨⟨s', r', h'⟩, z⟩ := ih s ⟨T, rfl, q⟩ hf
    exact ⟨⟨s', r', .resumeRunning hs h'⟩, z⟩
  | resumeFinished hg _ ih =>
    intro s r hf; obtain ⟨T, rfl, q⟩ := r
    obtain ⟨hs, hn⟩ := q.plain hg rfl
    obtain ⟨⟨s', r', h'⟩, z⟩ := ih s ⟨T, rfl, q⟩ hf
    exact ⟨⟨s', r', .resumeFinished hs h'⟩, z⟩
  | segRet _ _ ih1 ih2 =>
    intro s r hf
    have hf' := hf
    simp only [splitAtGen, Option.map_eq_none_iff] at hf'
    obtain ⟨⟨s1, r1, h1⟩, _⟩ := ih1 s r rfl
    obtain ⟨⟨s', r', h'⟩, z⟩ := ih2 s1 r1 hf'
    exact ⟨⟨s', r', .segRet h1 h'⟩, z⟩
  | segGen _ _ _ _ => intro s r hf; simp [splitAtGen] at hf
  | segSuspOut hs _ ih =>
    intro s r hf
    obtain ⟨⟨s', r', h'⟩, z⟩ := ih s r rfl
    exact ⟨⟨s', r', .segSuspOut hs h'⟩, split_app z hs⟩
  | segSuspGen hs _ _ _ _ _ => intro s r hf; rw [hf] at hs; cases hs
theorem wp_fr {α : Type} {M : Model} {Γ : Ctx} (G0 : Array GenState) (m : Sem α) : ∀ {Q : α → Pos → Shared → Prop} {E : Value → Pos → Shared → Prop} {p : Pos} {tS : Shared} (s : Shared), Rl G0 s tS → wp M Γ m Q E p tS →
    wp M Γ m (fun a p' s' => ∃ t', Rl G0 s' t' ∧ Q a p' t') (fun e p' s' => ∃ t', Rl G0 s' t' ∧ E e p' t') p s := by
  induction m with
  | pure a => intro Q E p tS s r h; exact ⟨tS, r, h⟩
  | raise x => intro Q E p tS s r h; exact ⟨tS, r, h⟩
  | unsupported what => intro Q E p tS s r h; exact h.elim
  | finish x => intro Q E p tS s r h; exact h.elim
  | register a k => intro Q E p tS s r h; exact h.elim
  | yield v g l k => intro Q E p tS s r h; exact h.elim
  | fork c k => intro Q E p tS s r h; exact h.elim
  | await a f d l k => intro Q E p tS s r h; exact h.elim
  | rule tag k ih => intro Q E p tS s r h; exact ih () s r h
  | «at» p' k ih => intro Q E p tS s r h; exact ih () s r h
  | load a part k ih => intro Q E p tS s r h; obtain ⟨T, rfl, q⟩ := r; obtain ⟨o, ho, h⟩ := h; exact ⟨o, ho, ih o s ⟨T, rfl, q⟩ h⟩
  | update a part f k ih => intro Q E p tS s r h; obtain ⟨T, rfl, q⟩ := r; obtain ⟨ho, h⟩ := h; exact ⟨ho, ih () { s with heap := _ } ⟨T, rfl, q⟩ h⟩
  | alloc o k ih => intro Q E p tS s r h; obtain ⟨T, rfl, q⟩ := r; exact ih _ { s with heap := _ } ⟨T, rfl, q⟩ h
  | loadIfAlive a k ih => intro Q E p tS s r h; obtain ⟨T, rfl, q⟩ := r; exact ih _ s ⟨T, rfl, q⟩ h
  | point l k ih => intro Q E p tS s r h; exact ih () s r h
  | fresh k ih => intro Q E p tS s r h; obtain ⟨T, rfl, q⟩ := r; exact ih _ { s with toks := _ } ⟨T, rfl, q⟩ h
  | ask k ih => intro Q E p tS s r h; exact ih _ s r h
  | choose src n k ih => intro Q E p tS s r h; obtain ⟨T, rfl, q⟩ := r; obtain ⟨hn, h⟩ := h; exact ⟨hn, ih _ { s with drawn := _ } ⟨T, rfl, q⟩ h⟩
  | os q l k ih => intro Q E p tS s r h; obtain ⟨T, rfl, q⟩ := r; exact ih _ { s with os := _ } ⟨T, rfl, q⟩ h
  | call c hd g l k ih =>
    intro Q E p tS s r h
    obtain ⟨res, s1, hr, h⟩ := h
    obtain ⟨⟨s', r', h'⟩, _⟩ := fr hr G0 s r rfl
    exact ⟨res, s', h', ih res s' r' h⟩
  | handled own k ih => intro Q E p tS s r h; exact ih _ s r h
  | newGen c k ih =>
    intro Q E p tS s r h; obtain ⟨T, rfl, q⟩ := r
    have e : T.size = s.gens.size := q.sz.symm
    have h' := ih _ { s with gens := s.gens.push _ } ⟨_, rfl, q.push (x := .fresh c) trivial⟩ h
    rw [show (({ s with gens := T } : Shared).gens.size) = s.gens.size from e] at h'
    exact h'
  | genState g k ih =>
    intro Q E p tS s r h; obtain ⟨T, rfl, q⟩ := r
    obtain ⟨st, hg, h⟩ := h
    obtain ⟨y, hy, e⟩ := q.seen hg
    have h' := ih _ s ⟨T, rfl, q⟩ h
    rw [← e] at h'
    exact ⟨y, hy, h'⟩
  | resume g rs l k ih =>
    intro Q E p tS s r h; obtain ⟨T, rfl, q⟩ := r
    obtain ⟨res, s1, hw, h⟩ := h
    have lem : ∃ s', Wakes M Γ p g rs s res s' ∧ Rl G0 s' s1 := by
      unfold Wakes at hw ⊢
      cases hg : T[g]? with
      | none =>
        rw [show (({ s with gens := T } : Shared).gens[g]?) = none from hg] at hw
        exact hw.elim
      | some x =>
        rw [show (({ s with gens := T } : Shared).gens[g]?) = some x from hg] at hw
        obtain ⟨y, hy, w⟩ := q.back hg
        rcases w with ⟨h1, h2⟩ | ⟨hn, e, hng⟩
        · subst h2
          cases y <;> first | (cases h1; done) | skip
          simp only [stuckOf] at hw
          obtain ⟨e1, s2, hrun, _⟩ := hw
          exact (no_unsup' hrun).elim
        · subst e
          simp only [hy]
          cases y with
          | fresh c =>
            cases rs with
            | send v =>
              cases v <;> simp only at hw ⊢
              case none =>
                obtain ⟨e1, s2, hrun, hq, e2, e3⟩ := hw
                obtain ⟨⟨s', r', h'⟩, z⟩ := fr hrun G0 (s.setGen g .running) ⟨_, rfl, q.set hn trivial⟩ rfl
                obtain ⟨T1, rfl, q1⟩ := r'
                exact ⟨s'.setGen g e1.genState, ⟨e1, s', h', hq, e2, rfl⟩, by rw [e3]; exact ⟨_, rfl, q1.set hn z.ng⟩⟩
              all_goals
                obtain ⟨e2, e3⟩ := hw
                exact ⟨s, ⟨e2, rfl⟩, by rw [e3]; exact ⟨_, rfl, q⟩⟩
            | throw v =>
              simp only at hw ⊢
              obtain ⟨e2, e3⟩ := hw
              exact ⟨s.setGen g .finished, ⟨e2, rfl⟩, by rw [e3]; exact ⟨_, rfl, q.set hn trivial⟩⟩
          | suspended k0 l0 c0 p0 fs0 cl =>
            simp only at hw ⊢
            obtain ⟨e1, s2, hrun, hq, e2, e3⟩ := hw
            obtain ⟨⟨s', r', h'⟩, z⟩ := fr hrun G0 (s.setGen g .running) ⟨_, rfl, q.set hn trivial⟩ hng
            obtain ⟨T1, rfl, q1⟩ := r'
            exact ⟨s'.setGen g e1.genState, ⟨e1, s', h', hq, e2, rfl⟩, by rw [e3]; exact ⟨_, rfl, q1.set hn z.ng⟩⟩
          | running =>
            simp only at hw ⊢
            obtain ⟨e2, e3⟩ := hw
            exact ⟨s, ⟨e2, rfl⟩, by rw [e3]; exact ⟨_, rfl, q⟩⟩
          | finished =>
            simp only at hw ⊢
            obtain ⟨e2, e3⟩ := hw
            exact ⟨s, ⟨e2, rfl⟩, by rw [e3]; exact ⟨_, rfl, q⟩⟩
    obtain ⟨s', hw', r'⟩ := lem
    exact ⟨res, s', hw', ih res s' r' h⟩
  | stack k ih => intro Q E p tS s r h; exact ih _ s r h
  | thread k ih => intro Q E p tS s r h; exact ih _ s r h
/-- what stands suspended stays -/
def Kept (S : Array GenState) (s' t' : Shared) : Prop := Rl S s' t'
theorem wpAny_keep {α : Type} {M : Model} {A : Around} {m : Sem α} {Q : α → Shared → Prop} {E : Value → Shared → Prop} {s : Shared} (h : wpAny M A m Q E { s with gens := s.gens.map stuckOf }) :
    wpAny M A m (fun a s' => ∃ t', Rl s.gens s' t' ∧ Q a t') (fun e s' => ∃ t', Rl s.gens s' t' ∧ E e t') s := fun Γ p hΓ =>
  wp_fr s.gens m s ⟨_, rfl, RG.start _⟩ (h Γ p hΓ)
theorem Rl.at_ {S : Array GenState} {s' t' : Shared} (h : Rl S s' t') {i : Nat} {x : GenState} (hx : S[i]? = some x) (hs : isSus x = true) : s'.gens[i]? = some x := by
  obtain ⟨T, rfl, q⟩ := h
  have hlt : i < s'.gens.size := Nat.lt_of_lt_of_le (Array.getElem?_eq_some_iff.mp hx).1 q.ge
  have e := Array.getElem?_eq_getElem hlt
  rcases q.at_ i _ e with ⟨h1, _, _⟩ | ⟨h1, _, _⟩
  · rw [hx] at h1
    rw [e, ← Option.some.inj h1]
  · rw [h1 x hx] at hs; cases hs
end Gk
namespace Gk
open PySem PySem.Spec PyProof.Rows L2 GenW
theorem bare_map {G : Array GenState} (h : AllBare G) : AllBare (G.map stuckOf) := fun x hx => by
  obtain ⟨y, hy, rfl⟩ := Array.mem_map.mp hx
  rw [bare_stuck]; exact h y hy
theorem Rl.bare {S : Array GenState} {s' t' : Shared} (h : Rl S s' t') (b : AllBare t'.gens) : AllBare s'.gens := fun x hx => by
  obtain ⟨T, rfl, q⟩ := h
  obtain ⟨i, hi, e⟩ := Array.mem_iff_getElem.mp hx
  have e1 : s'.gens[i]? = some x := by rw [Array.getElem?_eq_getElem hi, e]
  rcases q.at_ i x e1 with ⟨_, _, h3⟩ | ⟨_, h3, _⟩
  · rw [← bare_stuck]; exact b _ (Array.mem_of_getElem? h3)
  · exact b _ (Array.mem_of_getElem? h3)
/-- the generators may be others, if they are bare -/
theorem inv_gens {X : Cx} {pins : List (Addr × Obj)} {σ : L2.St} {H : Hp} {s : Shared} {G : Array GenState} (I : Inv X pins σ H s) (b : AllBare G) : Inv X pins σ H { s with gens := G } :=
  ⟨I.ok, I.os, b, I.base, I.loc, I.cell, I.free, I.freeC, I.pin, I.hok, I.len⟩
/-- AN EXPRESSION leaves the suspended generators as they are -/
theorem pe_keep {X : Cx} {e : Expr} {te : TE} (h : PE X e te) {pins : List (Addr × Obj)} {σ : L2.St} {H : Hp} {s : Shared} {Q : VK} (I : Inv X pins σ H s) (hq : te σ H Q) (hx : ∀ e s' t', Rl s.gens s' t' → X.xe e t' → X.xe e s') :
    wpAny (model X.prog X.w) X.A (eval e X.env) (fun u s' => EP X pins σ Q u s' ∧ ∀ (i : Nat) (x : GenState), s.gens[i]? = some x → isSus x = true → s'.gens[i]? = some x) X.xe s := by
  refine wpAny_mono (wpAny_keep (h.run pins _ σ H Q (inv_gens I (bare_map I.bare)) hq)) (fun u s' hu => ?_) fun e s' he => ?_
  · obtain ⟨t', r, x, H', I', rx, q⟩ := hu
    refine ⟨⟨x, H', ?_, rx, q⟩, fun i y hy hs => r.at_ hy hs⟩
    have b := r.bare I'.bare
    obtain ⟨T, rfl, _⟩ := r
    have z := inv_gens I' b
    exact z
  · obtain ⟨t', r, he⟩ := he
    exact hx e s' t' r he
end Gk
/-! All items of a generator `for x in range(..): yield x`, asked for one by one. -/
namespace Ga
open PySem PySem.Spec PyProof.Rows L2 GenW
section
variable {M : Model} {A : Around} {Φ : End → Shared → Prop} {c : Code} {fs : List Frame} {s : Shared} {env : Env}
/-- a stretch of a generator, by what is wanted of its end -/
def SegF (M : Model) (A : Around) (Φ : End → Shared → Prop) (c : Code) (t : Sem PySem.Fin) (fs : List Frame) (s : Shared) : Prop := ∀ (Γ : PySem.Ctx) (p : Pos), Γ.code = c → Γ.Woken A → ∃ e s', Runs M Γ p t fs s e s' ∧ Φ e s'
theorem segF_of {R : GenEnd} {Y : Protocol} {n : Nat} {s₀ : Shared} {t : Sem PySem.Fin} (h : Seg M A R Y n s₀ c t fs s) (k : ∀ e s', SegEnd R Y n (Seg.next M A R Y n) s₀ e s' → Φ e s') : SegF M A Φ c t fs s := fun Γ p h1 h2 =>
  let ⟨e, s', hr, he⟩ := seg_iff.mp h Γ p h1 h2
  ⟨e, s', hr, k e s' he⟩
theorem segF_wrap {α : Type} {m : Sem α} {K : α → Sem PySem.Fin} {H : Value → Sem PySem.Fin} {gd lv} (h : wpAny M (A.over c fs) m (fun a s' => SegF M A Φ c (K a) fs s') (fun x s' => SegF M A Φ c (H x) fs s') s) : SegF M A Φ c (m.wrap K H gd lv) fs s := by
  rintro Γ p rfl hΓ
  exact runs_wrap_of_wp K H gd lv m (h (Γ.over fs) p (hΓ.over fs)) (fun a p' s' h' => h' Γ p' rfl hΓ) (fun x p' s' h' => h' Γ p' rfl hΓ)
theorem segF_bind {α : Type} {m : Sem α} {f : α → Sem Flow} {K : Flow → Sem PySem.Fin} {H : Value → Sem PySem.Fin} {gd lv} (h : wpAny M (A.over c fs) m (fun a s' => SegF M A Φ c ((f a).wrap K H gd lv) fs s') (fun x s' => SegF M A Φ c (H x) fs s') s) : SegF M A Φ c ((m >>= f).wrap K H gd lv) fs s := by
  rw [Sem.bind_eq_wrap', Sem.wrap_wrap]
  exact segF_wrap h
theorem segF_point {l : List Value} {k : Unit → Sem PySem.Fin} (h : SegF M A Φ c (k ()) fs s) : SegF M A Φ c (.point l k) fs s :=
  segF_wrap (m := point) (K := k) (H := .raise) (gd := id) (lv := fun _ => l) (wpAny_point h)
theorem segF_call {c' : Code} {h g l} {k : Result → Sem PySem.Fin} (hc : ∀ p, SegF M A Φ c' (M.den c') (.ret k h g l c p [] :: fs) s) : SegF M A Φ c (.call c' h g l k) fs s := by
  rintro Γ p rfl hΓ
  obtain ⟨e, s', hr, he⟩ := hc p (Γ.goto c') p rfl (hΓ.goto c')
  exact ⟨e, s', runs_call_seg hr, he⟩
theorem segF_cons {st : Stmt} {rest : List Stmt} {K : Flow → Sem PySem.Fin} {H : Value → Sem PySem.Fin} {gd lv}
    (h : SegF M A Φ c ((exec st env).wrap (fun f => match f with | .next => (execs rest env).wrap K H gd lv | f => K f) H gd lv) fs s) : SegF M A Φ c ((execs (st :: rest) env).wrap K H gd lv) fs s := by rw [execs_cons_wrap]; exact h
theorem segF_For {tg iter : Expr} {body : List Stmt} {pos : Pos} {K : Flow → Sem PySem.Fin} {H : Value → Sem PySem.Fin} {gd : Bool → Bool} {lv : List Value → List Value} (hs : ∀ x, foldedSetIterable iter env x = pure x)
    (h : wpAny M (A.over c fs) (eval iter env) (fun v s1 => wpAny M (A.over c fs) (pyIter v) (fun itv s2 => ∀ p, SegF M A Φ (.forLoop tg itv body [] env) (M.den (.forLoop tg itv body [] env))
      (.ret (fun r => ((match r with | .ok f => (.pure f : Sem Flow) | .error e => .raise e).onRaise (cameBack env)).wrap K H gd lv) none (gd false) (lv []) c p [] :: fs) s2) (fun x s' => SegF M A Φ c (H x) fs s') s1) (fun x s' => SegF M A Φ c (H x) fs s') s) :
    SegF M A Φ c ((exec (.For tg iter body [] pos) env).wrap K H gd lv) fs s := by
  show SegF M A Φ c ((standAt pos >>= fun _ => eval iter env >>= fun a => foldedSetIterable iter env a >>= fun x => standAt iter.pos >>= fun _ => holding [x] (pyIter x) >>= fun it => runOwn (.forLoop tg it body [] env) env).wrap K H gd lv) fs s
  refine segF_bind (wpAny_standAt (segF_bind (wpAny_mono h (fun v s1 h1 => ?_) fun _ _ z => z)))
  rw [hs]
  refine segF_bind (wpAny_pure (segF_bind (wpAny_standAt (segF_bind (wpAny_holding (wpAny_mono h1 (fun it s2 h2 => ?_) fun _ _ z => z))))))
  exact segF_call h2
end
theorem segF_func {prog : Program} {w : World} {A : Around} {Φ : End → Shared → Prop} {fs : List Frame} {s : Shared} {env : Env} {body : List Stmt}
    (h : SegF (model prog w) A Φ (.func body env) ((execs body env).wrap (fun f => .pure (.done (.ret (match f with | .ret v => v | _ => .none)))) (fun e => (leaving env e).wrap (fun _ => .raise e) .raise id id) id id) fs s) :
    SegF (model prog w) A Φ (.func body env) ((model prog w).den (.func body env)) fs s := by
  show SegF _ A Φ _ (.point [] fun _ => ((execs body env).onRaise (leaving env)) >>= _) fs s
  refine segF_point ?_
  rw [Sem.onRaise_eq_wrap, Sem.bind_eq_wrap', Sem.wrap_wrap]
  rw [Sem.wrap_congr (execs body env) _ _ (K' := fun f => .pure (.done (.ret (match f with | .ret v => v | _ => .none))))
    (H' := fun e => (leaving env e).wrap (fun _ => .raise e) .raise id id) (fun f => by cases f <;> rfl)
    (fun e => by rw [Sem.bind_eq_wrap, Sem.wrap_wrap]; rfl)]
  exact h
/-! ### the turns behind the first -/
/-- only the generator's frame and its iterator change -/
structure Kp (L it : Addr) (s s' : Shared) : Prop where
  eq : s' = { s with heap := s'.heap, toks := s'.toks }
  keep : ∀ b o, b ≠ L → b ≠ it → s.heap.get? b = some o → s'.heap.get? b = some o
theorem Kp.refl {L it : Addr} {s : Shared} : Kp L it s s := ⟨rfl, fun _ _ _ _ e => e⟩
theorem Kp.trans {L it : Addr} {s s1 s2 : Shared} (a : Kp L it s s1) (b : Kp L it s1 s2) : Kp L it s s2 := by
  obtain ⟨e1, k1⟩ := a
  obtain ⟨e2, k2⟩ := b
  refine ⟨?_, fun c o h1 h2 e => k2 c o h1 h2 (k1 c o h1 h2 e)⟩
  rw [e2, e1]
/-- where the generator stands before its item j -/
def Lc (L it : Addr) (lo : Int) (n j : Nat) (h : Heap) : Prop := (∃ m, h.Ns L m) ∧ IsRangeIter h it (lo + (j : Nat) * 1) ((n : Int) - (j : Nat)) 1
def Yx (L it : Addr) (lo : Int) (n : Nat) : Protocol := fun k s₀ v s1 kap => ∃ j, j + k + 1 = n ∧ (∃ t, v = .int (lo + (j : Nat)) t) ∧ Kp L it s₀ s1 ∧ Lc L it lo n (j + 1) s1.heap ∧ ∀ s', Lc L it lo n (j + 1) s'.heap → kap (.send .none) s'
def Rx (L it : Addr) : GenEnd := fun k s₀ r s1 => ((r = .ok (.ret .none) ∨ r = .ok .next) ∧ (fun k s₀ s1 => k = 0 ∧ Kp L it s₀ s1) k s₀ s1) ∨ ∃ e, r = .error e ∧ (fun (_ : Value) (_ : Shared) => False) e s1
section
variable {prog : Program} {w : World} {A : Around} {env : Env} {x : Str} {L it : Addr} {lo : Int} {n : Nat} {K : Result → Sem PySem.Fin} {c : Code} {p₁ px py yp yq : Pos} {lv : List Value}
theorem gloop (hL : env.locals = L) (hne : it ≠ L) (hk : env.scope.kind = .function) (hx : env.kindOf x = some .local) (hco : env.scope.isCoroutine = false) (hi : interactive env = false) (hd : (x == ("__debug__" : Str)) = false)
    (hh : (A.over (.forLoop (.Name x px) (.ref it) [.Expr (.Yield (some (.Name x py)) yp) yq] [] env) [.ret K none false lv c p₁ []]).handled = none)
    (hend : ∀ s₀ s, Kp L it s₀ s → Seg (model prog w) A (Rx L it) (Yx L it lo n) 0 s₀ c (K (.ok .next)) [] s) :
    ∀ (k j : Nat) (s₀ s : Shared), j + k = n → Kp L it s₀ s → Lc L it lo n j s.heap →
      Seg (model prog w) A (Rx L it) (Yx L it lo n) k s₀ (.forLoop (.Name x px) (.ref it) [.Expr (.Yield (some (.Name x py)) yp) yq] [] env) ((model prog w).den (.forLoop (.Name x px) (.ref it) [.Expr (.Yield (some (.Name x py)) yp) yq] [] env)) [.ret K none false lv c p₁ []] s := by
  subst hL
  have W := Walks.range (prog := prog) (w := w) hh it lo 1 n
  intro k
  induction k with
  | zero =>
    intro j s₀ s hj kp ⟨⟨m, hm⟩, hit⟩
    have ej : j = n := by omega
    subst ej
    refine Gf.seg_forLoop (W.done s _ _ hit fun h' tk kk => ?_)
    refine seg_again rfl (Gf.seg_blockNil (hend _ _ (kp.trans ⟨rfl, fun b o _ h2 e => kk b o (by simpa using h2) e⟩)))
  | succ k ih =>
    intro j s₀ s hj kp ⟨⟨m, hm⟩, hit⟩
    refine Gf.seg_forLoop (W.item j s _ _ (by omega) hit fun v h' tk hP hit' kk => ?_)
    obtain ⟨t, rfl⟩ := hP
    refine wpAny_pure ?_
    have hm' : h'.Ns env.locals m := hm.at' fun o e => kk _ o (by simpa using Ne.symm hne) e
    refine wpAny_assign_Name (wpAny_storeName_local hx hm' (fun h2 hn2 sb => ?_) (by rw [hk]; rfl))
    refine seg_execs_cons (seg_Expr_Yield rfl rfl rfl ?_ hco hi)
    refine wpAny_Name (wpAny_loadName_local hk hx hn2 (if_pos rfl) ?_) hd
    intro kap hkap
    have k2 : Kp env.locals it s { s with heap := h2, toks := tk + 1 } := ⟨rfl, fun b o h1 h2 e => (sb.2 b h1).trans (kk b o (by simpa using h2) e)⟩
    have hit2 : IsRangeIter h2 it (lo + ((j + 1 : Nat) : Int) * 1) ((n : Int) - ((j + 1 : Nat) : Int)) 1 := (sb.2 it hne).trans hit'
    refine ⟨j, by omega, ⟨t, by rw [Int.mul_one]⟩, kp.trans k2, ⟨⟨_, hn2⟩, hit2⟩, fun s' hl => hkap .none s' ?_⟩
    exact seg_execs_nil (seg_again rfl (ih (j + 1) s' s' (by omega) Kp.refl hl))
end
/-! ### the first turn, and what a call gives -/
/-- asleep before its item j -/
def Slp (P : Program) (w : World) (A : Around) (L it : Addr) (lo : Int) (n j : Nat) (gs : GenState) : Prop :=
  Gk.isSus gs = true ∧ ∀ s'', Lc L it lo n j s''.heap → gs.Goes (model P w) A (Rx L it) (Yx L it lo n) (n - j) (.send .none) s''
/-- the range's bounds: the first number, how many (at least one), the heap then -/
abbrev SpA := List V → Hp → (Int → Nat → Hp → Prop) → Prop
def F1 (P : Program) (w : World) (A : Around) (outer : List Env) (H : Hp) (s s2 : Shared) (pins : List (Addr × Obj)) (Q : Int → Nat → Hp → Prop) (e : End) (s1 : Shared) : Prop :=
  ∃ (it : Addr) (lo : Int) (n : Nat) (H' : Hp) (v : Value) (t : Tok), 1 ≤ n ∧ Q lo n H' ∧ e.quiet = true ∧ e.result = .yielded v ∧ v = .int lo t ∧ Slp P w A s.heap.objs.size it lo n 1 e.genState ∧ s1.os = s.os ∧ AllBare s1.gens ∧ Un (frs outer) [] H H' s.heap s1.heap ∧ HOk P w H' s1.heap ∧
    (∀ p ∈ pins, s1.heap.get? p.1 = some p.2) ∧ Lc s.heap.objs.size it lo n 1 s1.heap ∧ (∀ p ∈ pins, p.1 < it) ∧ it < s1.heap.objs.size ∧ H' it = none ∧ H' s.heap.objs.size = none
def GAll (P : Program) (w : World) (k : Nat) (outer : List Env) (H : Hp) (s : Shared) (Q : Int → Nat → Hp → Prop) (u : Value) (s' : Shared) : Prop :=
  ∃ (a : Addr) (g : Nat) (c : Code), u = .ref a ∧ s.heap.objs.size < a ∧ a < s'.heap.objs.size ∧ s'.heap.IsGen a g ∧ s'.gens[g]? = some (.fresh c) ∧ s'.os = s.os ∧ AllBare s'.gens ∧ s'.heap.NoLimit ∧ (∀ b o, s.heap.get? b = some o → s'.heap.get? b = some o) ∧ (∃ m, s'.heap.Ns s.heap.objs.size m) ∧
    ∀ (A : Around) (s2 : Shared) (pins : List (Addr × Obj)), Room k A → A.frames = some outer → (∀ b o, s'.heap.get? b = some o → s2.heap.get? b = some o) → s2.os = s.os → AllBare s2.gens → (∀ p ∈ pins, s2.heap.get? p.1 = some p.2 ∧ a ≤ p.1 ∧ ∀ v, p.2.data ≠ .cell v) →
      SegF (model P w) A (F1 P w A outer H s s2 pins Q) c ((model P w).den c) [] s2
structure GFA (P : Program) (w : World) (K : PySem.W.Frag) (mg : Str → Option Value) (base : Heap) (k : Nat) (f : Addr) (fd : FuncData) (ps : List Str) (sp : SpA) : Prop where
  len : ∀ vs H Q, sp vs H Q → vs.length = ps.length
  run : ∀ (A : Around) (outer : List Env) (s : Shared) (H : Hp) (args : Args) (us : List Value) (vs : List V) (Q : Int → Nat → Hp → Prop), Room k A → Env0 P w K mg base A outer s H → BindsTo s fd args (ps.zip us) → Vals vs us → sp vs H Q →
    codeAny (model P w) A (.call (.ref f) args) (fun r s' => match r with | .ok (.ret u) => GAll P w k outer H s Q u s' | _ => False) s
theorem un_kp {fs : List Addr} {H H' : Hp} {h h5 h' : Heap} (u : Un fs [] H H' h h5) (k : ∀ b o, b < h.objs.size → h5.get? b = some o → h'.get? b = some o) : Un fs [] H H' h h' :=
  ⟨fun b o e n hb hx => k b o (Heap.lt_size e) (u.keep b o e n hb hx), fun b o e n hb hx => let ⟨sl, z⟩ := u.slot b o e n hb hx; ⟨sl, k b _ (Heap.lt_size e) z⟩, fun b o e n hx => u.free b o e n hx,
   fun b o e hx => let ⟨o', z⟩ := u.there b o e hx; ⟨o', k b o' (Heap.lt_size e) z⟩, u.tups, u.frzs, u.tbls⟩
theorem hok_kp {P : Program} {w : World} {H : Hp} {s s' : Shared} {L it : Addr} (ok : HOk P w H s.heap) (k : Kp L it s s') (hL : H L = none) (hi : H it = none) : HOk P w H s'.heap := fun b u q => by
  have nt : ∀ {c v}, H c = some v → c ≠ L ∧ c ≠ it := fun {c v} z => ⟨ne_of_none z hL, ne_of_none z hi⟩
  refine (ok b u q).stay (fun c v hc y => ?_) (fun _ y => y) fun _ _ y => y
  rcases hc with z | z
  · rw [z] at y ⊢
    exact k.keep b v (nt q).1 (nt q).2 y
  · exact k.keep c v (nt z).1 (nt z).2 y
theorem gfa_of {P : Program} {w : World} {K : PySem.W.Frag} {mg : Str → Option Value} {base : Heap} {k : Nat} {f : Addr} {name qual : Str} {params : Arguments} {scope : Scope} {dV kV doc pm cdv ct oc : Value} {an od : Option Addr}
    {osl : Array (Option Value)} {N ps : List Str} {sp : SpA} {x : Str} {iter : Expr} {px py yp yq fp : Pos}
    (lk : K.lookup f = some ⟨oc, od, .func (PySem.W.fnOf name qual params [.For (.Name x px) iter [.Expr (.Yield (some (.Name x py)) yp) yq] [] fp] scope dV kV doc pm an cdv ct), osl⟩) (hcd : PySem.W.codeIn K cdv qual = true) (S : GScope N ps scope)
    (hx : scope.names.lookup x = some .local) (hdb : (x == ("__debug__" : Str)) = false)
    (len : ∀ vs H Q, sp vs H Q → vs.length = ps.length)
    (hbody : ∀ (A : Around) (outer : List Env) (s : Shared) (H : Hp) (vs : List V) (Q : Int → Nat → Hp → Prop), Room k (A.deeper (envOfC qual scope s.heap.objs.size f cdv)) → sp vs H Q →
      ∃ tr, PRg (G1.gx P w K mg base N qual scope f cdv A outer s H) iter tr ∧ tr (start N vs) H fun a b H1 => -(2 ^ 62) ≤ a ∧ a < b ∧ b < 2 ^ 62 ∧ Q a (b - a).toNat H1)
    (hs : ∀ env x, foldedSetIterable iter env x = pure x := by intro _ _; rfl) :
    GFA P w K mg base (k + 1) f (PySem.W.fnOf name qual params [.For (.Name x px) iter [.Expr (.Yield (some (.Name x py)) yp) yq] [] fp] scope dV kV doc pm an cdv ct) ps sp := by
  refine ⟨len, fun A outer s H args us vs Q hr e0 hb r hsp => ?_⟩
  have hl := len _ _ _ hsp
  have KX : K.In s.heap := e0.mod.kin.keeps fun b o e => (e0.bs b o e).1
  have lim : s.heap.NoLimit := e0.mod.nolimit.keeps fun b o e => (e0.bs b o e).1
  have hkind : ∀ y ∈ ps.zip us, scope.names.lookup y.1 = some .local ∨ (scope.names.lookup y.1 = some .cell ∧ ((cellsFrom (s.heap.objs.size + 1) scope.names []).lookup y.1).isSome = true) := fun ⟨n, v⟩ hy => by
    rcases S.par n (List.of_mem_zip hy).1 with q | q
    · exact .inl q
    · exact .inr ⟨q, PySem.W.cellsFrom_some _ _ _ (.inl q)⟩
  refine codeAny_call_generator hr.depth (KX _ _ lk) rfl S.co S.gen rfl (PySem.W.codeRec_of KX hcd) (hb _ _ _ _ ?_)
  refine wpAny_newFunctionEnv_cells S.kind hkind fun env he s1 xx => ?_
  subst he
  have lim1 : s1.heap.NoLimit := lim.keeps xx.toInCall.keep
  refine ⟨lim1, ?_⟩
  obtain ⟨h1, tk, es1, hk1⟩ := xx.done
  have os1 : s1.os = s.os := by rw [es1]
  have gen1 : s1.gens = s.gens := by rw [es1]
  have lt1 : s.heap.objs.size < s1.heap.objs.size := xx.toInCall.ns.lt
  have kp1 : ∀ b o, s.heap.get? b = some o → s1.heap.get? b = some o := xx.toInCall.keep
  have main : ∀ (go : Obj) (nm qn : Value) (tk2 : Nat), go.cls = .type "generator" → go.data = .fields #[.int s1.gens.size 0, nm, qn] → go.slots = #[] → (∀ h : Heap, (h.push go).get? h.objs.size = some go) →
      GAll P w (k + 1) outer H s Q (.ref s1.heap.objs.size) { s1 with gens := s1.gens.push (.fresh (.func [.For (.Name x px) iter [.Expr (.Yield (some (.Name x py)) yp) yq] [] fp] (envOfC qual scope s.heap.objs.size f cdv))), toks := tk2, heap := s1.heap.push go } := by
    intro go nm qn tk2 hgc hgd0 hgs hgp
    refine ⟨s1.heap.objs.size, s1.gens.size, _, rfl, lt1, by show _ < (s1.heap.push go).objs.size; rw [Heap.size_push]; exact Nat.lt_succ_self _, ⟨go, nm, qn, hgp _, hgc, hgd0, hgs⟩, Array.getElem?_push_size .., os1, AllBare.push (by rw [gen1]; exact e0.bare) rfl, lim1.keeps fun b o e => Heap.get?_push_of_some _ e, fun b o e => Heap.get?_push_of_some _ (kp1 b o e), ?_, ?_⟩
    · exact ⟨_, xx.toInCall.ns.at' fun o e => Heap.get?_push_of_some _ e⟩
    intro Aw s2 pins hrw hfr hk2 hos hba hpins
    have e0w : Env0 P w K mg base Aw outer s H := ⟨hfr, e0.mod, e0.bs, e0.bsz, e0.funs, e0.frf, e0.hok, e0.bare⟩
    obtain ⟨tr, hi, hq⟩ := hbody Aw outer s H vs Q (hrw.deeper _) hsp
    have I1 := inv_startG (E := fun _ _ _ => False) S hrw.hd e0w hl r xx
    have kp2 : ∀ b o, s1.heap.get? b = some o → s2.heap.get? b = some o := fun b o e => hk2 b o (Heap.get?_push_of_some _ e)
    have I2 := G1.inv_gx (I1.call' (ch := []) (hos.trans os1.symm) (Un.kept kp2) (I1.hok.kept kp2) hba fun b z => by simp at z)
    have sz12 : s1.heap.objs.size ≤ s2.heap.objs.size := by
      have q := hk2 s1.heap.objs.size go (hgp _)
      exact Nat.le_of_lt (Heap.lt_size q)
    have I3 : Inv (G1.gx P w K mg base N qual scope f cdv Aw outer s H) pins (start N vs) H s2 := I2.pins_of fun p hp => by
      obtain ⟨z1, z2, z3⟩ := hpins p (by simpa using hp)
      exact ⟨z1, I1.hok.fresh z2, Nat.ne_of_gt (Nat.lt_of_lt_of_le lt1 z2), I1.nofs z2, z3⟩
    refine segF_func (segF_cons (segF_For (hs _) ?_))
    rw [over_func]
    refine wpAny_mono (hi pins s2 _ H _ I3 hq) (fun v s3 h3 => ?_) fun x s' hx => False.elim hx
    obtain ⟨rr, a, b, t1, t2, t3, H3, rfl, hrg, I4, ha, hab, hb2, hQ⟩ := h3
    refine wpAny_pyIter_range hrg (small_one ha (by omega) (by omega) hb2) ?_
    intro p
    have kp3 : ∀ c o, s3.heap.get? c = some o → (s3.heap.push { cls := .type "range_iterator", data := .fields #[rawInt a, rawInt (Builtin.Range.rangeSize a b 1), rawInt 1] }).get? c = some o := fun c o e => Heap.get?_push_of_some _ e
    have I5 := I4.kept (t' := s3.toks) kp3
    have nL : H3 s.heap.objs.size = none := I4.free
    have nI : H3 s3.heap.objs.size = none := I4.hok.fresh (Nat.le_refl _)
    have hLlt : s.heap.objs.size < s3.heap.objs.size := by
      obtain ⟨m, hn, _⟩ := I4.loc
      exact hn.lt
    have hrs : Builtin.Range.rangeSize a b 1 = ((b - a).toNat : Nat) := by rw [rangeSize_one]; split <;> omega
    have hLc : Lc s.heap.objs.size s3.heap.objs.size a (b - a).toNat 0 (s3.heap.push { cls := .type "range_iterator", data := .fields #[rawInt a, rawInt (Builtin.Range.rangeSize a b 1), rawInt 1] }) := by
      obtain ⟨m, hn, _⟩ := I5.loc
      refine ⟨⟨m, hn⟩, ?_⟩
      have e1 : a + ((0 : Nat) : Int) * 1 = a := by simp
      have e2 : (((b - a).toNat : Nat) : Int) - ((0 : Nat) : Int) = Builtin.Range.rangeSize a b 1 := by rw [hrs]; simp
      show IsRangeIter _ _ (a + ((0 : Nat) : Int) * 1) ((((b - a).toNat : Nat) : Int) - ((0 : Nat) : Int)) 1
      rw [e1, e2]
      exact Heap.get?_push_size _ rfl
    have n1 : 1 ≤ (b - a).toNat := by omega
    refine segF_of (gloop (x := x) (env := envOfC qual scope s.heap.objs.size f cdv) (lv := id []) rfl (Nat.ne_of_gt hLlt) S.kind hx S.co (by simp only [interactive, S.kind, envOfC]; rfl) hdb ?_ (fun s₀ s' kp => ?_) (b - a).toNat 0 _ _ (by omega) Kp.refl hLc) fun e s' he => ?_
    · rw [over_loop rfl rfl, over_func]
      exact hrw.hd
    · exact seg_end (.ok (.ret .none)) (.inl ⟨.inl rfl, rfl, kp⟩)
    cases e with
    | ret rs =>
      rcases he with ⟨_, z, _⟩ | ⟨_, _, z⟩
      · omega
      · exact z.elim
    | susp v g l kk c q fs =>
      obtain ⟨hq1, j, hj, ⟨t, hv⟩, kp, hlc, nxt⟩ := he
      have ej : j = 0 := by omega
      subst ej
      obtain ⟨mm, hmm⟩ : ∃ mm, (b - a).toNat = mm + 1 := ⟨(b - a).toNat - 1, by omega⟩
      have szs : s3.heap.objs.size < s'.heap.objs.size := Heap.lt_size hlc.2
      refine ⟨s3.heap.objs.size, a, (b - a).toNat, H3, v, t, n1, hQ, hq1, rfl, by rw [hv]; simp, ⟨rfl, fun s'' hl => ?_⟩, ?_, ?_, ?_, ?_, ?_, hlc, ?_, szs, nI, nL⟩
      · have z := nxt s'' hl
        rw [hmm] at z ⊢
        exact z
      · rw [kp.eq]; exact I5.os
      · rw [kp.eq]; exact I5.bare
      · refine un_kp I5.base fun c o hc e => kp.keep c o (Nat.ne_of_lt hc) (Nat.ne_of_lt (Nat.lt_trans hc hLlt)) e
      · exact hok_kp I5.hok kp nL nI
      · intro pp hpp
        obtain ⟨z1, _, z3, _, _⟩ := I5.pin pp (List.mem_append_right _ hpp)
        exact kp.keep _ _ z3 (fun e => by
          have y := (I4.pin pp (List.mem_append_right _ hpp)).1
          rw [e] at y
          exact absurd (Heap.lt_size y) (Nat.lt_irrefl _)) z1
      · intro pp hpp
        exact Heap.lt_size (I4.pin pp (List.mem_append_right _ hpp)).1
  exact main _ _ _ _ rfl rfl rfl fun h => Heap.get?_push_size _ rfl
end Ga
/-! next of a generator over a range. -/
namespace Ga
open PySem PySem.Spec PyProof.Rows L2 GenW
def GoesF (M : Model) (A : Around) (Φ : End → Shared → Prop) (gs : GenState) (s : Shared) : Prop := match gs with
  | .fresh c => SegF M A Φ c (M.den c) [] s
  | .suspended k _ c _ fs _ => SegF M A Φ c (k (.send .none)) fs s
  | _ => False
theorem wpAny_resumeF {M : Model} {A : Around} {Φ : End → Shared → Prop} {E : Value → Shared → Prop} {s : Shared} {g : Nat} {gs : GenState} {l : List Value} {α : Type} {k : GenResult → Sem α} {Q : α → Shared → Prop} (hg : s.gens[g]? = some gs)
    (hgo : GoesF M A Φ gs (s.setGen g .running)) (hq : ∀ e s₁, Φ e s₁ → e.quiet = true) (h : ∀ e s₁, Φ e s₁ → wpAny M A (k e.result) Q E (s₁.setGen g e.genState)) : wpAny M A (.resume g (.send .none) l k) Q E s := by
  intro Γ p hΓ
  rw [Sem.wp_resume]
  have hB : ∀ c, (Γ.wake c p).Woken A := fun c => hΓ.wake c p
  cases gs with
  | fresh c =>
    obtain ⟨e₁, s₁, hr, he⟩ := hgo (Γ.wake c p) p rfl (hB c)
    exact ⟨_, _, by unfold Wakes; rw [hg]; exact ⟨e₁, s₁, hr, hq e₁ s₁ he, rfl, rfl⟩, h e₁ s₁ he Γ p hΓ⟩
  | suspended k₀ l₀ c₀ p₀ fs₀ cl =>
    obtain ⟨e₁, s₁, hr, he⟩ := hgo (Γ.wake c₀ p) p₀ rfl (hB c₀)
    exact ⟨_, _, by unfold Wakes; rw [hg]; exact ⟨e₁, s₁, hr, hq e₁ s₁ he, rfl, rfl⟩, h e₁ s₁ he Γ p hΓ⟩
  | running => exact hgo.elim
  | finished => exact hgo.elim
section
variable {P : Program} {w : World} {A : Around} {E : Value → Shared → Prop} {s : Shared}
theorem next_F {a : Addr} {g : Nat} {gs : GenState} {Φ : End → Shared → Prop} {Q : Option Value → Shared → Prop} (hh : A.handled = none)
    (hl : s.heap.NoLimit) (hroom : A.depth < recursionLimit) (hg : s.heap.IsGen a g) (hgs : s.gens[g]? = some gs) (hgo : GoesF (model P w) A.in1 Φ gs (s.setGen g .running))
    (hq : ∀ e s₁, Φ e s₁ → e.quiet = true ∧ ((∃ v, e.result = .yielded v ∧ Q (some v) (s₁.setGen g e.genState)) ∨ (e.result = .returned .none ∧ ∀ h', (∀ b o, s₁.heap.get? b = some o → h'.get? b = some o) → Q none { s₁.setGen g e.genState with heap := h' }))) :
    wpAny (model P w) A (pyNext (.ref a)) Q E s := by
  unfold pyNext
  refine wpAny_bind (wpAny_attempt (wpAny_callSpecial?_slot (name := Str.ofString "__next__") hg.typeIs slot_gen_next
    (wpAny_call_entry slot_gen_next hg.typeIs entry_gen_next ?_ (args_gen_next _))))
  show wpAny _ A.in1 (Builtin.Generator.genWake (.ref a) (.send .none)) _ _ s
  unfold Builtin.Generator.genWake
  refine wpAny_bind (wpAny_holding (wpAny_genNumber hg (wpAny_bind (wpAny_genState hgs ?_))))
  cases gs with
  | running => exact hgo.elim
  | finished => exact hgo.elim
  | _ =>
    refine wpAny_bind (wpAny_roomToWake hl hroom ?_)
    show wpAny _ A.in1 (.resume g (.send .none) [] _) _ _ s
    refine wpAny_resumeF hgs hgo (fun e s₁ h => (hq e s₁ h).1) fun e s₁ he => ?_
    obtain ⟨_, hv⟩ := hq e s₁ he
    rcases hv with ⟨v, hr, hQ⟩ | ⟨hr, hQ⟩
    · rw [hr]
      exact wpAny_pure ⟨v, rfl, wpAny_pure hQ⟩
    · rw [hr]
      show wpAny _ A.in1 (newExc (.type "StopIteration") [] >>= _) _ _ _
      refine wpAny_bind ?_
      simp only [newExc, newTuple]
      refine wpAny_bind (wpAny_newObj_type ?_ (by size_fits))
      refine wpAny_bind (m := firstArgMember _ _) (wpAny_of_eq (a := Value.none) (by first | rfl | (simp only [firstArgMember]; rfl)) ?_)
      refine wpAny_newObj_type ?_ (by size_fits)
      simp only [raiseNew]
      refine wpAny_bind (wpAny_bind (wpAny_handled ?_))
      first | rw [show A.in1.handled = none from hh] | rw [hh]
      refine wpAny_throw ?_
      refine wpAny_bind (wpAny_isInstance (T := "StopIteration") (b := true) ⟨_, Heap.get?_push_size _ rfl, rfl⟩ isSubtype_stop ?_)
      exact wpAny_pure (hQ _ fun b o hb => Heap.get?_push_of_some _ (Heap.get?_push_of_some _ hb))
/-- between two items, j of n are out -/
structure GT (P : Program) (w : World) (A : Around) (L it a : Addr) (g : Nat) (lo : Int) (n j : Nat) (s : Shared) : Prop where
  gen : s.heap.IsGen a g
  lc : Lc L it lo n j s.heap
  slp : ∃ gs, s.gens[g]? = some gs ∧ Slp P w A L it lo n j gs
/-- only what belongs to the generator has changed -/
structure Tk (L it : Addr) (s s' : Shared) : Prop where
  os : s'.os = s.os
  bare : AllBare s.gens → AllBare s'.gens
  keep : ∀ b o, b ≠ L → b ≠ it → s.heap.get? b = some o → s'.heap.get? b = some o
theorem slp_goes {L it : Addr} {lo : Int} {n j : Nat} {gs : GenState} {s : Shared} (h : Slp P w A L it lo n j gs) (hl : Lc L it lo n j s.heap) :
    GoesF (model P w) A (fun e s1 => SegEnd (Rx L it) (Yx L it lo n) (n - j) (Seg.next (model P w) A (Rx L it) (Yx L it lo n) (n - j)) s e s1) gs s := by
  obtain ⟨hs, hg⟩ := h
  have z := hg s hl
  cases gs with
  | suspended k l c p fs cl => exact segF_of z fun e s' he => he
  | _ => cases hs
theorem gt_item {L it a : Addr} {g : Nat} {lo : Int} {n j : Nat} {Q : Option Value → Shared → Prop} (hh : A.handled = none) (hl : s.heap.NoLimit) (hroom : A.depth < recursionLimit) (hne : a ≠ L ∧ a ≠ it) (T : GT P w A.in1 L it a g lo n j s) (hj : j < n)
    (hQ : ∀ t s', Tk L it s s' → GT P w A.in1 L it a g lo n (j + 1) s' → Q (some (.int (lo + (j : Nat)) t)) s') : wpAny (model P w) A (pyNext (.ref a)) Q E s := by
  obtain ⟨hg, lc, gs, hgs, sl⟩ := T
  have hlt : g < s.gens.size := (Array.getElem?_eq_some_iff.mp hgs).1
  refine next_F hh hl hroom hg hgs (slp_goes (s := s.setGen g .running) sl lc) fun e s1 he => ?_
  cases e with
  | ret rs =>
    rcases he with ⟨_, z, _⟩ | ⟨_, _, z⟩
    · omega
    · exact z.elim
  | susp v gd l kk c q fs =>
    obtain ⟨hq1, j', hj', ⟨t, hv⟩, kp, hlc, nxt⟩ := he
    have ej : j' = j := by omega
    subst ej
    refine ⟨hq1, .inl ⟨v, rfl, ?_⟩⟩
    rw [hv]
    obtain ⟨mm, hmm⟩ : ∃ mm, n - j' = mm + 1 := ⟨n - j' - 1, by omega⟩
    have ge : s1.gens = (s.setGen g .running).gens := by rw [kp.eq]
    have bq := End.bare_of_quiet hq1
    refine hQ t _ ⟨?_, fun hb => allBare_setGen ?_ bq, fun b o h1 h2 e => kp.keep b o h1 h2 e⟩ ⟨?_, hlc, _, setGen_at ?_, rfl, fun s'' hl' => ?_⟩
    · show s1.os = s.os
      rw [kp.eq]
      rfl
    · rw [ge]
      exact allBare_setGen hb rfl
    · obtain ⟨o, nm, qn, ho, r⟩ := hg
      exact ⟨o, nm, qn, kp.keep a o hne.1 hne.2 ho, r⟩
    · rw [ge, setGen_size]
      exact hlt
    · have z := nxt s'' hl'
      rw [hmm] at z
      rw [show n - (j' + 1) = mm by omega]
      exact z
theorem gt_done {L it a : Addr} {g : Nat} {lo : Int} {n : Nat} {Q : Option Value → Shared → Prop} (hh : A.handled = none) (hl : s.heap.NoLimit) (hroom : A.depth < recursionLimit) (T : GT P w A.in1 L it a g lo n n s)
    (hQ : ∀ s', Tk L it s s' → Q none s') : wpAny (model P w) A (pyNext (.ref a)) Q E s := by
  obtain ⟨hg, lc, gs, hgs, sl⟩ := T
  refine next_F hh hl hroom hg hgs (slp_goes (s := s.setGen g .running) sl lc) fun e s1 he => ?_
  cases e with
  | ret rs =>
    rcases he with ⟨hr, _, kp⟩ | ⟨_, _, z⟩
    · have hres : End.result (.ret rs) = .returned .none := by
        rcases hr with hr | hr <;> rw [hr] <;> rfl
      refine ⟨rfl, .inr ⟨hres, fun h' hk => hQ _ ⟨?_, fun hb => ?_, fun b o h1 h2 e => hk b o (kp.keep b o h1 h2 e)⟩⟩⟩
      · show s1.os = s.os
        rw [kp.eq]
        rfl
      · have ge : s1.gens = (s.setGen g .running).gens := by rw [kp.eq]
        exact allBare_setGen (s := s1) (x := .finished) (by rw [ge]; exact allBare_setGen hb rfl) rfl
    · exact z.elim
  | susp v gd l kk c q fs =>
    rw [Nat.sub_self] at he
    obtain ⟨_, j', hj', _, _, hlc, nxt⟩ := he
    exact (nxt s1 hlc).elim
end
end Ga
/-! What is dead stays dead. -/
namespace Dd
open PySem PySem.Sem
structure D (h h' : Heap) : Prop where
  sz : h.objs.size ≤ h'.objs.size
  de : ∀ b, b < h.objs.size → h.get? b = none → h'.get? b = none
theorem D.refl {h : Heap} : D h h := ⟨Nat.le_refl _, fun _ _ e => e⟩
theorem D.trans {a b c : Heap} (x : D a b) (y : D b c) : D a c := ⟨Nat.le_trans x.sz y.sz, fun i hi e => y.de i (Nat.lt_of_lt_of_le hi x.sz) (x.de i hi e)⟩
theorem D.push {h : Heap} {o : Obj} : D h (h.push o) := by
  refine ⟨by rw [Heap.size_push]; exact Nat.le_succ _, fun b hb e => ?_⟩
  cases q : (h.push o).get? b with
  | none => rfl
  | some u =>
    exfalso
    unfold Heap.get? at q e
    have z : (h.push o).objs[b]? = h.objs[b]? := by
      show (h.objs.push _)[b]? = _
      exact Array.getElem?_push_lt hb ▸ (Array.getElem?_eq_getElem hb).symm
    rw [z] at q
    rw [e] at q
    cases q
theorem D.update {h : Heap} {a : Addr} {f : Obj → Obj} (ha : (h.get? a).isSome) : D h (h.update a f) := by
  refine ⟨by rw [Heap.size_update]; exact Nat.le_refl _, fun b hb e => ?_⟩
  have ne : b ≠ a := fun z => by rw [z] at e; rw [e] at ha; cases ha
  exact (Heap.get?_update_other _ _ ne.symm).trans e
theorem dead {M : Model} {Γ : Ctx} {p : Pos} {t : Sem Fin} {fs : List Frame} {s s' : Shared} {e : End} (h : Runs M Γ p t fs s e s') : D s.heap s'.heap := by
  induction h with
  | done => exact .refl
  | raise => exact .refl
  | again _ _ ih => exact ih
  | rule _ ih => exact ih
  | «at» _ ih => exact ih
  | load _ _ ih => exact ih
  | update ho _ ih => exact (D.update ho).trans ih
  | loadIfAlive _ ih => exact ih
  | point _ ih => exact ih
  | alloc _ ih => exact D.push.trans ih
  | fresh _ ih => exact ih
  | ask _ ih => exact ih
  | choose _ _ ih => exact ih
  | os _ ih => exact ih
  | handled _ ih => exact ih
  | genState _ _ ih => exact ih
  | stack _ ih => exact ih
  | thread _ ih => exact ih
  | newGen _ ih => exact ih
  | call _ _ ih1 ih2 => exact ih1.trans ih2
  | callSusp _ ih => exact ih
  | yield => exact .refl
  | resumeFresh _ _ _ _ ih1 ih2 => exact D.trans (b := _) ih1 ih2
  | resumeSuspended _ _ _ _ ih1 ih2 => exact D.trans (b := _) ih1 ih2
  | resumeJustStarted _ _ _ ih => exact ih
  | resumeThrowFresh _ _ ih => exact ih
  | resumeRunning _ _ ih => exact ih
  | resumeFinished _ _ ih => exact ih
  | segRet _ _ ih1 ih2 => exact ih1.trans ih2
  | segGen _ _ ih1 ih2 => exact D.trans (b := _) ih1 ih2
  | segSuspOut _ _ ih => exact ih
  | segSuspGen _ _ _ _ ih1 ih2 => exact D.trans (b := _) ih1 ih2
theorem gsz {M : Model} {Γ : Ctx} {p : Pos} {t : Sem Fin} {fs : List Frame} {s s' : Shared} {e : End} (h : Runs M Γ p t fs s e s') : s.gens.size ≤ s'.gens.size := by
  induction h with
  | done => exact Nat.le_refl _
  | raise => exact Nat.le_refl _
  | again _ _ ih => exact ih
  | rule _ ih => exact ih
  | «at» _ ih => exact ih
  | load _ _ ih => exact ih
  | update ho _ ih => exact ih
  | loadIfAlive _ ih => exact ih
  | point _ ih => exact ih
  | alloc _ ih => exact ih
  | fresh _ ih => exact ih
  | ask _ ih => exact ih
  | choose _ _ ih => exact ih
  | os _ ih => exact ih
  | handled _ ih => exact ih
  | genState _ _ ih => exact ih
  | stack _ ih => exact ih
  | thread _ ih => exact ih
  | newGen _ ih => exact Nat.le_trans (by show _ ≤ (Array.push _ _).size; rw [Array.size_push]; exact Nat.le_succ _) ih
  | call _ _ ih1 ih2 => exact Nat.le_trans ih1 ih2
  | callSusp _ ih => exact ih
  | yield => exact Nat.le_refl _
  | resumeFresh _ _ _ _ ih1 ih2 => exact Nat.le_trans (by show _ ≤ (Array.setIfInBounds _ _ _).size; rw [Array.size_setIfInBounds]; exact Nat.le_refl _) (Nat.le_trans ih1 (Nat.le_trans (by show _ ≤ (Array.setIfInBounds _ _ _).size; rw [Array.size_setIfInBounds]; exact Nat.le_refl _) ih2))
  | resumeSuspended _ _ _ _ ih1 ih2 => exact Nat.le_trans (by show _ ≤ (Array.setIfInBounds _ _ _).size; rw [Array.size_setIfInBounds]; exact Nat.le_refl _) (Nat.le_trans ih1 (Nat.le_trans (by show _ ≤ (Array.setIfInBounds _ _ _).size; rw [Array.size_setIfInBounds]; exact Nat.le_refl _) ih2))
  | resumeJustStarted _ _ _ ih => exact ih
  | resumeThrowFresh _ _ ih => exact Nat.le_trans (by show _ ≤ (Array.setIfInBounds _ _ _).size; rw [Array.size_setIfInBounds]; exact Nat.le_refl _) ih
  | resumeRunning _ _ ih => exact ih
  | resumeFinished _ _ ih => exact ih
  | segRet _ _ ih1 ih2 => exact Nat.le_trans ih1 ih2
  | segGen _ _ ih1 ih2 => exact Nat.le_trans ih1 (Nat.le_trans (by show _ ≤ (Array.setIfInBounds _ _ _).size; rw [Array.size_setIfInBounds]; exact Nat.le_refl _) ih2)
  | segSuspOut _ _ ih => exact ih
  | segSuspGen _ _ _ _ ih1 ih2 => exact Nat.le_trans ih1 (Nat.le_trans (by show _ ≤ (Array.setIfInBounds _ _ _).size; rw [Array.size_setIfInBounds]; exact Nat.le_refl _) ih2)
theorem codeAny_dead {M : Model} {A : Around} {c : Code} {R : Result → Shared → Prop} {s : Shared} (h : codeAny M A c R s) : codeAny M A c (fun r s' => R r s' ∧ D s.heap s'.heap) s := fun Γ p h1 h2 =>
  let ⟨r, s', hr, q⟩ := h Γ p h1 h2
  ⟨r, s', hr, q, dead hr⟩
theorem D.back {h h' : Heap} (d : D h h') {b : Addr} {o : Obj} (hb : b < h.objs.size) (e : h'.get? b = some o) : ∃ o', h.get? b = some o' := by
  cases q : h.get? b with
  | none => rw [d.de b hb q] at e; cases e
  | some o' => exact ⟨o', rfl⟩
end Dd
/-! A list comprehension over a generator over a range; its element may call what it likes. -/
namespace Ga
open PySem PySem.Spec PyProof.Rows L2 GenW
/-- suspended generators stand as before -/
def Sus (s s' : Shared) : Prop := ∀ (i : Nat) (x : GenState), s.gens[i]? = some x → Gk.isSus x = true → s'.gens[i]? = some x
theorem Sus.trans {a b c : Shared} (h : Sus a b) (k : Sus b c) : Sus a c := fun i x e z => k i x (h i x e z) z
theorem keepI {X : Cx} {α : Type} {m : Sem α} {pins : List (Addr × Obj)} {s : Shared} {R : α → L2.St → Hp → Prop}
    (h : wpAny (model X.prog X.w) X.A m (fun a t => ∃ σ' H', Inv X pins σ' H' t ∧ R a σ' H') (fun _ _ => False) { s with gens := s.gens.map Gk.stuckOf }) :
    wpAny (model X.prog X.w) X.A m (fun a s' => (∃ σ' H', Inv X pins σ' H' s' ∧ R a σ' H') ∧ Sus s s') (fun _ _ => False) s := by
  refine wpAny_mono (Gk.wpAny_keep h) (fun a s' hu => ?_) fun e s' ⟨_, _, z⟩ => z
  obtain ⟨t', r, σ', H', I', q⟩ := hu
  refine ⟨⟨σ', H', ?_, q⟩, fun i y hy hs => r.at_ hy hs⟩
  have b := r.bare I'.bare
  obtain ⟨T, rfl, _⟩ := r
  have z := Gk.inv_gens I' b
  exact z
theorem hok_tk {P : Program} {w : World} {H : Hp} {h h' : Heap} {L it : Addr} (ok : HOk P w H h) (k : ∀ b o, b ≠ L → b ≠ it → h.get? b = some o → h'.get? b = some o) (hL : H L = none) (hi : H it = none) : HOk P w H h' := fun b u q => by
  have nt : ∀ {c v}, H c = some v → c ≠ L ∧ c ≠ it := fun {c v} z => ⟨ne_of_none z hL, ne_of_none z hi⟩
  refine (ok b u q).stay (fun c v hc y => ?_) (fun _ y => y) fun _ _ y => y
  rcases hc with z | z
  · rw [z] at y ⊢
    exact k b v (nt q).1 (nt q).2 y
  · exact k c v (nt z).1 (nt z).2 y
theorem inv_tk {X : Cx} {pins : List (Addr × Obj)} {σ : L2.St} {H : Hp} {s s' : Shared} {L it : Addr} (I : Inv X pins σ H s) (t : Tk L it s s') (fL : FpOk X pins H L) (fi : FpOk X pins H it) : Inv X pins σ H s' := by
  have nb : ∀ {b : Addr}, b ∉ [L, it] → b ≠ L ∧ b ≠ it := fun {b} h => ⟨fun e => h (by simp [e]), fun e => h (by simp [e])⟩
  refine I.call' (ch := [L, it]) t.os ⟨fun b o e _ _ hx => t.keep b o (nb hx).1 (nb hx).2 e, fun b o e _ _ hx => ⟨o.slots, t.keep b o (nb hx).1 (nb hx).2 e⟩, fun _ _ _ n _ => n, fun b o e hx => ⟨o, t.keep b o (nb hx).1 (nb hx).2 e⟩, fun _ _ e => e, fun _ _ _ e => e, fun b ps e => ⟨#[], by rw [e]; simp⟩⟩
    (hok_tk I.hok t.keep fL.1 fi.1) (t.bare I.bare) fun b hb => ?_
  rcases List.mem_cons.mp hb with z | z
  · rw [z]
    obtain ⟨_, f1, _, f3, f4, f5⟩ := fL
    exact ⟨f3, f1, f4, f5⟩
  · rw [List.mem_singleton.mp z]
    obtain ⟨_, f1, _, f3, f4, f5⟩ := fi
    exact ⟨f3, f1, f4, f5⟩
theorem segF_sz {M : Model} {A : Around} {Φ : End → Shared → Prop} {c : Code} {t : Sem PySem.Fin} {fs : List Frame} {s : Shared} (h : SegF M A Φ c t fs s) : SegF M A (fun e s' => Φ e s' ∧ s.gens.size ≤ s'.gens.size) c t fs s := fun Γ p h1 h2 =>
  let ⟨e, s', hr, he⟩ := h Γ p h1 h2
  ⟨e, s', hr, he, Dd.gsz hr⟩
abbrev TGA := L2.St → Hp → (Int → Nat → Hp → Prop) → Prop
structure PGA (X : Cx) (k : Nat) (e : Expr) (tg : TGA) : Prop where
  run : ∀ (pins : List (Addr × Obj)) (s : Shared) (σ : L2.St) (H : Hp) (cont : Int → Nat → Hp → Prop), Inv X pins σ H s → tg σ H cont → wpAny (model X.prog X.w) X.A (eval e X.env)
    (fun u s' => ∃ H1 sc lo n, Inv X pins σ H1 sc ∧ GAll X.prog X.w k X.stack H1 sc (fun l m H' => l = lo ∧ m = n ∧ H' = H1) u s' ∧ Dd.D sc.heap s'.heap ∧ cont lo n H1) X.xe s
def tLcG (tg : TGA) (i : Nat) (te : TE) : TE := fun σ H Q => tg σ H fun lo n H1 => ∀ D, H1 D = none → ∃ Pv : Nat → Hp → Prop, Pv 0 (upd H1 D (.lst [])) ∧
  (∀ j H2, j < n → Pv j H2 → te ((wipe σ [i]).set i (some (.int (lo + (j : Nat))))) H2 fun y H3 => ∃ acc, H3 D = some (.lst acc) ∧ acc.length < sizeLine ∧ Pv (j + 1) (upd H3 D (.lst (acc ++ [y])))) ∧ ∀ H2, Pv n H2 → Q (.ref D) H2
theorem lcG_core {X : Cx} {k i : Nat} {elt iter : Expr} {v : Str} {vp : Pos} {scope : Scope} {pos pos' : Pos} {tg : TGA} {te : TE} {pins : List (Addr × Obj)} {s : Shared} {σ : L2.St} {H : Hp} {Q : VK} {use : Option (Value → Sem Unit)} {Qf : Value → Shared → Prop}
    (hc : X.calm = true) (hN : X.N.Nodup) (I : Inv X pins σ H s) (hi : PGA X k iter tg) (hr : Room (k + 1) X.A) (ok : BlkOk X.N X.env.scope scope [(v, i)]) (hnc : ∀ y ∈ scope.names, y.2 ≠ .cell)
    (hv : scope.names.lookup v = some .local) (hvi : X.N[i]? = some v)
    (he : ∀ (s : Shared) (H : Hp) (C : Addr) (cl : List (Str × Addr)) (fp : List Addr), PE (X.blk s H scope (compEnvC scope cl C X.env) fp) elt te)
    (hg : ∀ (s : Shared) (H : Hp) (C : Addr) (cl : List (Str × Addr)) (fp : List Addr), PG (X.blk s H scope (compEnvC scope cl C X.env) fp) (.Name v vp) (gName i)) (hs : ∀ x, foldedSetIterable iter X.env x = pure x)
    (h : tLcG tg i te σ H Q)
    (hRR : ∀ D C s' m H', Inv X pins σ H' s' → Q (.ref D) H' → s'.heap.Ns C m → FpOk X pins H' C → compPost (model X.prog X.w) X.A X.xe use Qf (.ref D) C (.ok .next) s') :
    wpAny (model X.prog X.w) X.A (comprehension (.ListComp elt [⟨.Name v vp, iter, [], 0⟩] scope pos) scope X.env pos' (newList []) false (eval iter X.env) use) Qf X.xe s := by
  have hfree : ∀ y ∈ scope.names, y.2 = .free → ∃ c, X.env.cells.lookup y.1 = some c := fun y hy e => by
    rcases ok.free y hy e with k | k
    · exact I.ok.has _ (.inl k)
    · exact I.ok.has _ (.inr k)
  refine wpAny_comprehension_free (use := use) rfl hs (closure_ok hfree) ok.kind (fun y hy e => by rw [ok.uniq y hy, e])
    (thn (hi.run pins s σ H _ I h) fun xv s1 ⟨H1, sc, lo, n, I1, ⟨a, g, c, e, hLa, ha1, hgen, hgs, hos, hba, hlm, hkp, hLns, wake⟩, dd, q⟩ => ?_)
  subst e
  refine wpAny_pyIter_gen hgen (wpAny_newObj_type (newEnv_comp ?_) (by show 0 ≤ sizeLine; decide))
  have I2 : Inv X pins σ H1 s1 := I1.call' (ch := []) hos (Un.kept hkp) (I1.hok.kept hkp) hba fun b z => by simp at z
  have scs : sc.heap.objs.size ≤ s1.heap.objs.size := Nat.le_of_lt (Nat.lt_trans hLa ha1)
  generalize hD : s1.heap.objs.size = D
  have hDn : H1 D = none := I2.hok.fresh (Nat.le_of_eq hD)
  obtain ⟨Pv, p0, step, fin⟩ := q D hDn
  generalize hs3 : ({ s1 with heap := s1.heap.push { cls := .type "list", data := .seq ([] : List Value).toArray } } : Shared) = s3
  have h3 : s3.heap = s1.heap.push { cls := .type "list", data := .seq ([] : List Value).toArray } := by rw [← hs3]
  have g3 : s3.gens = s1.gens := by rw [← hs3]
  have o3 : s3.os = s1.os := by rw [← hs3]
  have z3 : s3.heap.objs.size = D + 1 := by rw [h3, Heap.size_push, hD]
  have eD3 : s3.heap.get? D = some (lstObj #[] 0) := by rw [h3, ← hD]; exact Heap.get?_push_size _ rfl
  have I3 : Inv X pins σ (upd H1 D (.lst [])) s3 := by
    rw [← hs3]
    refine I2.laid (t' := s1.toks) (fun b o e => Heap.get?_push_of_some _ e) (Nat.le_of_eq hD) ⟨Nat.zero_le _, [], 0, .nil, ?_⟩
    rw [← hD]
    exact Heap.get?_push_size _ rfl
  generalize hfp : (List.range s1.heap.objs.size).filter (fun b => decide (sc.heap.objs.size ≤ b)) = fp
  have mfp : ∀ b, b ∈ fp ↔ (b < s1.heap.objs.size ∧ sc.heap.objs.size ≤ b) := fun b => by
    rw [← hfp, List.mem_filter, List.mem_range, decide_eq_true_iff]
  have f3 : ∀ b ∈ fp, FpOk X pins (upd H1 D (.lst [])) b ∧ b < s3.heap.objs.size := fun b hb => by
    obtain ⟨b1, b2⟩ := (mfp b).mp hb
    have nD : b ≠ D := by omega
    have n1 : H1 b = none := I1.hok.fresh b2
    exact ⟨I1.fpOk b2 (by rw [upd_ne nD]; exact n1), by omega⟩
  have I4 := block_start I3 ok hN f3
  have pg := hg s3 (upd H1 D (.lst [])) s3.heap.objs.size (cellsFrom (s3.heap.objs.size + 1) scope.names (cloFrom X.env.cells scope.names [])) fp
  have pe := he s3 (upd H1 D (.lst [])) s3.heap.objs.size (cellsFrom (s3.heap.objs.size + 1) scope.names (cloFrom X.env.cells scope.names [])) fp
  show codeAny _ _ (.compStart (.ListComp elt [⟨.Name v vp, iter, [], 0⟩] scope pos) 0 (.ref a) (.ref D) (compEnvC scope (cellsFrom (s3.heap.objs.size + 1) scope.names (cloFrom X.env.cells scope.names [])) s3.heap.objs.size X.env)) (compPost (model X.prog X.w) X.A X.xe use Qf (.ref D) s3.heap.objs.size) { s3 with heap := pushCells (s3.heap.push { cls := .type "dict", data := .dict #[] }) scope.names }
  generalize hce : compEnvC scope (cellsFrom (s3.heap.objs.size + 1) scope.names (cloFrom X.env.cells scope.names [])) s3.heap.objs.size X.env = ce at I4 pg pe ⊢
  have cL : ce.locals = s3.heap.objs.size := by subst hce; rfl
  generalize hH3 : upd H1 D (.lst []) = H3 at I3 I4 pg pe p0 f3
  have pc : pushCells (s3.heap.push { cls := .type "dict", data := .dict #[] }) scope.names = s3.heap.push { cls := .type "dict", data := .dict #[] } := by
    have z : ∀ (ns : List (Str × NameKind)) (hp : Heap), (∀ y ∈ ns, y.2 ≠ .cell) → pushCells hp ns = hp := by
      intro ns
      induction ns with
      | nil => intro hp _; rfl
      | cons y ns ih =>
        intro hp hy
        obtain ⟨y1, y2⟩ := y
        have ne : y2 ≠ .cell := hy _ List.mem_cons_self
        unfold pushCells
        rw [if_neg (by simpa using ne)]
        exact ih hp fun z hz => hy z (List.mem_cons_of_mem _ hz)
    exact z _ _ hnc
  generalize hs4 : ({ s3 with heap := pushCells (s3.heap.push { cls := .type "dict", data := .dict #[] }) scope.names } : Shared) = s4 at I4 ⊢
  have h4 : s4.heap = s3.heap.push { cls := .type "dict", data := .dict #[] } := by rw [← hs4]; exact pc
  have g4 : s4.gens = s1.gens := by rw [← hs4]; exact g3
  have o4 : s4.os = s1.os := by rw [← hs4]; exact o3
  have k14 : ∀ b o, s1.heap.get? b = some o → s4.heap.get? b = some o := fun b o e => by
    rw [h4]
    refine Heap.get?_push_of_some _ ?_
    rw [h3]
    exact Heap.get?_push_of_some _ e
  have eD4 : s4.heap.get? D = some (lstObj #[] 0) := by rw [h4]; exact Heap.get?_push_of_some _ eD3
  have eC4 : s4.heap.get? s3.heap.objs.size = some { cls := .type "dict", data := .dict #[] } := by rw [h4]; exact Heap.get?_push_size _ rfl
  have loop : codeAny (model X.prog X.w) X.A (.compLoop (.ListComp elt [⟨.Name v vp, iter, [], 0⟩] scope pos) 0 (.ref a) (.ref D) ce) (compPost (model X.prog X.w) X.A X.xe use Qf (.ref D) s3.heap.objs.size) s4 := by
    obtain ⟨hr1, hr2⟩ : X.A.handled = none ∧ X.A.depth < recursionLimit := ⟨hr.hd, by have := hr.dp; omega⟩
    have z4 : s4.heap.objs.size = s3.heap.objs.size + 1 := by rw [h4, Heap.size_push]
    have hLm : sc.heap.objs.size ∈ fp := (mfp _).mpr ⟨Nat.lt_trans hLa ha1, Nat.le_refl _⟩
    have ham : a ∈ fp := (mfp _).mpr ⟨ha1, Nat.le_of_lt hLa⟩
    have stat : ∀ {σ' : L2.St} {H' : Hp} {s' : Shared} {b : Addr}, Inv (X.blk s3 H3 scope ce fp) [] σ' H' s' → b ∈ fp → H' b = none → FpOk (X.blk s3 H3 scope ce fp) [] H' b := fun {σ' H' s' b} I' hb hn =>
      ⟨hn, (I'.ok.exf b hb).1, I'.ok.exfs b hb, .inl hb, fun x c e => (I'.ok.exf b hb).2 x c e, fun p hp => absurd (show p ∈ ([] : List (Addr × Obj)) ++ [] from hp) (by simp)⟩
    have hne : ∀ {it : Addr}, s3.heap.objs.size < it → a ≠ sc.heap.objs.size ∧ a ≠ it := fun {it} h => ⟨Nat.ne_of_gt hLa, Nat.ne_of_lt (Nat.lt_trans (show a < s3.heap.objs.size by rw [z3, ← hD]; exact Nat.lt_succ_of_lt ha1) h)⟩
    generalize hSt : (fun (m : Nat) (s' : Shared) => ∃ j H', m = n - j ∧ j ≤ n ∧ Inv (X.blk s3 H3 scope ce fp) [] (wipe σ [i]) H' s' ∧ Pv j H' ∧ ((j = 0 ∧ s' = s4 ∧ H' = H3) ∨ (1 ≤ j ∧ H' sc.heap.objs.size = none ∧ H' a = none ∧ ∃ it, H' it = none ∧ s3.heap.objs.size < it ∧ GT X.prog X.w X.A.in1 sc.heap.objs.size it a g lo n j s'))) = St
    have common : ∀ (j : Nat) (it : Addr) (t : Tok) (s5 : Shared) (H5 : Hp), j < n → Inv (X.blk s3 H3 scope ce fp) [] (wipe σ [i]) H5 s5 → Pv j H5 → H5 sc.heap.objs.size = none → H5 a = none → H5 it = none → s3.heap.objs.size < it → GT X.prog X.w X.A.in1 sc.heap.objs.size it a g lo n (j + 1) s5 →
        wpAny (model X.prog X.w) X.A (assign (.Name v vp) ce (.int (lo + (j : Nat)) t)) (fun _ s₂ => wpAny (model X.prog X.w) X.A (forIn ([] : List Expr) true fun c r => if r = true then do let ok ← isTrue c ce (eval c ce); pure (ForInStep.yield ok) else pure (ForInStep.yield r)) (fun ok s₃ =>
          if ok = true then wpAny (model X.prog X.w) X.A (eval elt ce) (fun x s₄ => wpAny (model X.prog X.w) X.A (call (.builtin "list.append") [.ref D, x]) (fun _ s₅ => ∃ m, m < n - j ∧ St m s₅) (fun _ _ => False) s₄) (fun _ _ => False) s₃ else ∃ m, m < n - j ∧ St m s₃) (fun _ _ => False) s₂) (fun _ _ => False) s5 := by
      intro j it t s5 H5 hj I5 p5 nL na ni hit T5
      have fi : FpOk (X.blk s3 H3 scope ce fp) [] H5 it := I4.fpOk (by omega) ni
      have fL := stat I5 hLm nL
      have fa := stat I5 ham na
      obtain ⟨hgen5, ⟨⟨mL, hmL⟩, hit5⟩, gs5, hgs5, sl5⟩ := T5
      have oL : ∃ o, s5.heap.get? sc.heap.objs.size = some o ∧ ∀ v, o.data ≠ .cell v := by
        obtain ⟨o, es, ep, ho, hd, _⟩ := hmL
        exact ⟨o, ho, fun v z => by rw [hd] at z; cases z⟩
      have oi : ∃ o, s5.heap.get? it = some o ∧ ∀ v, o.data ≠ .cell v := ⟨_, hit5, fun v z => by cases (show Data.fields _ = Data.cell v from z)⟩
      have oa : ∃ o, s5.heap.get? a = some o ∧ ∀ v, o.data ≠ .cell v := by
        obtain ⟨o, nm, qn, ho, _, hd, _⟩ := hgen5
        exact ⟨o, ho, fun v z => by rw [hd] at z; cases z⟩
      have I5p := I5.pinned (fp := [sc.heap.objs.size, it, a]) (fun b hb => by
        simp only [List.mem_cons, List.not_mem_nil, or_false] at hb
        rcases hb with rfl | rfl | rfl
        · exact fL
        · exact fi
        · exact fa) (fun b hb => by
        simp only [List.mem_cons, List.not_mem_nil, or_false] at hb
        rcases hb with rfl | rfl | rfl
        · exact oL
        · exact oi
        · exact oa)
      refine wpAny_mono (keepI (X := X.blk s3 H3 scope ce fp) (R := fun _ σ' H' => σ' = (wipe σ [i]).set i (some (.int (lo + (j : Nat)))) ∧ H' = H5) (pg.run _ _ _ H5 (.int (lo + (j : Nat))) (.int (lo + (j : Nat)) t) (fun σ' H' => σ' = (wipe σ [i]).set i (some (.int (lo + (j : Nat)))) ∧ H' = H5) (Gk.inv_gens I5p (Gk.bare_map I5p.bare)) ⟨t, rfl⟩ ⟨rfl, rfl⟩)) (fun _ s6 h6 => ?_) fun _ _ z => z
      obtain ⟨⟨σ6, H6, I6, rfl, rfl⟩, k6⟩ := h6
      refine wpAny_tests_nil ?_
      rw [if_pos rfl]
      have he1 := pe.run _ _ _ H6 _ (Gk.inv_gens I6 (Gk.bare_map I6.bare)) (step j H6 hj p5)
      have he2 : wpAny (model X.prog X.w) X.A (eval elt ce) (fun u t => ∃ σ' H', Inv (X.blk s3 H3 scope ce fp) ([] ++ pinsAt [sc.heap.objs.size, it, a] s5.heap) σ' H' t ∧ (σ' = (wipe σ [i]).set i (some (.int (lo + (j : Nat)))) ∧ ∃ y, RelV y u ∧ ∃ acc, H' D = some (.lst acc) ∧ acc.length < sizeLine ∧ Pv (j + 1) (upd H' D (.lst (acc ++ [y]))))) (fun _ _ => False) { s6 with gens := s6.gens.map Gk.stuckOf } :=
        wpAny_mono he1 (fun u s' hu => by
          obtain ⟨y, H', I', ry, qy⟩ := hu
          exact ⟨_, H', I', rfl, y, ry, qy⟩) fun _ _ z => z
      refine wpAny_mono (keepI (X := X.blk s3 H3 scope ce fp) he2) (fun u s7 h7 => ?_) fun _ _ z => z
      obtain ⟨⟨σ7, H7, I7, rfl, y, ry, acc, hacc, hz, np⟩, k7⟩ := h7
      refine wpAny_mono (keepI (X := X.blk s3 H3 scope ce fp) (R := fun _ σ' H' => σ' = (wipe σ [i]).set i (some (.int (lo + (j : Nat)))) ∧ H' = upd H7 D (.lst (acc ++ [y]))) (app_ok (X := X.blk s3 H3 scope ce fp) (Gk.inv_gens I7 (Gk.bare_map I7.bare)) hacc hz ry fun s8 I8 => ⟨_, _, I8, rfl, rfl⟩)) (fun _ s8 h8 => ?_) fun _ _ z => z
      obtain ⟨⟨σ8, H8, I8, rfl, rfl⟩, k8⟩ := h8
      have kk := (k6.trans k7).trans k8
      have pin : ∀ b ∈ [sc.heap.objs.size, it, a], ∀ o, s5.heap.get? b = some o → s8.heap.get? b = some o ∧ (upd H7 D (.lst (acc ++ [y]))) b = none := fun b hb o e =>
        let z := I8.pin (b, o) (List.mem_append_right _ (List.mem_append_right _ (mem_pinsAt hb e)))
        ⟨z.1, z.2.1⟩
      obtain ⟨ooL, eL, _⟩ := oL
      obtain ⟨ooi, ei, _⟩ := oi
      obtain ⟨ooa, ea, _⟩ := oa
      refine ⟨n - (j + 1), by omega, ?_⟩
      rw [← hSt]
      refine ⟨j + 1, _, rfl, hj, (I8.unpinned (pins := [])).weak ?_ (fun jj vv e => ?_), np, .inr ⟨by omega, (pin _ (by simp) _ eL).2, (pin _ (by simp) _ ea).2, it, (pin _ (by simp) _ ei).2, hit, ?_, ⟨⟨mL, hmL.at' fun o e => (pin _ (by simp) _ e).1⟩, (pin _ (by simp) _ hit5).1⟩, gs5, kk _ _ hgs5 sl5.1, sl5⟩⟩
      · simp [wipe]
      · by_cases q : i = jj
        · subst q
          exact absurd List.mem_cons_self (wipe_some e).2
        · rw [List.getElem?_set_ne q]
          exact e
      · obtain ⟨o, nm, qn, ho, r⟩ := hgen5
        exact ⟨o, nm, qn, (pin _ (by simp) _ ho).1, r⟩
    have noted : ∀ {α : Type} {m : Sem α} {R : α → Shared → Prop} {s' : Shared} {E : Value → Shared → Prop}, wpAny (model X.prog X.w) X.A m R (fun _ _ => False) s' → wpAny (model X.prog X.w) X.A m R E s' := fun h => wpAny_mono h (fun _ _ z => z) fun _ _ z => z.elim
    refine compLoop_any St ?_ n (by rw [← hSt]; exact ⟨0, H3, by omega, Nat.zero_le _, I4, p0, .inl ⟨rfl, rfl, rfl⟩⟩)
    intro m s5 h5
    rw [← hSt] at h5
    obtain ⟨j, H5, rfl, hjn, I5, p5, hcase⟩ := h5
    have fire : ∀ (it : Addr) (t : Tok) (s6 : Shared) (H6 : Hp), j < n → Inv (X.blk s3 H3 scope ce fp) [] (wipe σ [i]) H6 s6 → Pv j H6 → H6 sc.heap.objs.size = none → H6 a = none → H6 it = none → s3.heap.objs.size < it → GT X.prog X.w X.A.in1 sc.heap.objs.size it a g lo n (j + 1) s6 →
        wpAny (model X.prog X.w) X.A (letOwnedTupleGo (.Name v vp) (.ref a) (.int (lo + (j : Nat)) t)) (fun _ s₁' => wpAny (model X.prog X.w) X.A (assign (.Name v vp) ce (.int (lo + (j : Nat)) t)) (fun _ s₂ => wpAny (model X.prog X.w) X.A (forIn ([] : List Expr) true fun c r => if r = true then do let ok ← isTrue c ce (eval c ce); pure (ForInStep.yield ok) else pure (ForInStep.yield r)) (fun ok s₃ =>
          if ok = true then wpAny (model X.prog X.w) X.A (eval elt ce) (fun x s₄ => wpAny (model X.prog X.w) X.A (call (.builtin "list.append") [.ref D, x]) (fun _ s₅ => ∃ m, m < n - j ∧ St m s₅) (notedBy (model X.prog X.w) X.A ce fun e s' => compPost (model X.prog X.w) X.A X.xe use Qf (.ref D) s3.heap.objs.size (.error e) s') s₄) (notedBy (model X.prog X.w) X.A ce fun e s' => compPost (model X.prog X.w) X.A X.xe use Qf (.ref D) s3.heap.objs.size (.error e) s') s₃ else ∃ m, m < n - j ∧ St m s₃) (notedBy (model X.prog X.w) X.A ce fun e s' => compPost (model X.prog X.w) X.A X.xe use Qf (.ref D) s3.heap.objs.size (.error e) s') s₂) (notedBy (model X.prog X.w) X.A ce fun e s' => compPost (model X.prog X.w) X.A X.xe use Qf (.ref D) s3.heap.objs.size (.error e) s') s₁') (notedBy (model X.prog X.w) X.A ce fun e s' => compPost (model X.prog X.w) X.A X.xe use Qf (.ref D) s3.heap.objs.size (.error e) s') s6 := by
      intro it t s6 H6 hj I6 p6 nL na ni hit T6
      refine wpAny_pure (noted (wpAny_mono (common j it t s6 H6 hj I6 p6 nL na ni hit T6) (fun _ s7 h7 => noted (wpAny_mono h7 (fun b s8 h8 => ?_) fun _ _ z => z)) fun _ _ z => z))
      cases b with
      | false => exact h8
      | true =>
        rw [if_pos rfl] at h8 ⊢
        exact noted (wpAny_mono h8 (fun u s9 h9 => noted h9) fun _ _ z => z)
    rcases hcase with ⟨ej, es, eH⟩ | ⟨j1, nL, na, it, ni, hit, T5⟩
    · subst ej
      obtain ⟨oa, nma, qna, hoa, hoc, hod, hos'⟩ := hgen
      rw [es, eH] at I5
      rw [eH] at p5
      rw [es]
      have hgs4 : s4.gens[g]? = some (.fresh c) := by rw [g4]; exact hgs
      have hb4 : AllBare s4.gens := by rw [g4]; exact hba
      have pinsOk : ∀ p ∈ [(D, lstObj #[] 0), (s3.heap.objs.size, { cls := .type "dict", data := .dict #[] }), (a, oa)], (s4.setGen g .running).heap.get? p.1 = some p.2 ∧ a ≤ p.1 ∧ ∀ v, p.2.data ≠ .cell v := fun p hp => by
        simp only [List.mem_cons, List.not_mem_nil, or_false] at hp
        rcases hp with rfl | rfl | rfl
        · exact ⟨eD4, by rw [← hD]; exact Nat.le_of_lt ha1, fun v z => by cases z⟩
        · exact ⟨eC4, by rw [z3, ← hD]; exact Nat.le_of_lt (Nat.lt_succ_of_lt ha1), fun v z => by cases z⟩
        · exact ⟨k14 _ _ hoa, Nat.le_refl _, fun v z => by rw [hod] at z; cases z⟩
      refine next_F (Φ := fun e s' => F1 X.prog X.w X.A.in1 X.stack H1 sc (s4.setGen g .running) [(D, lstObj #[] 0), (s3.heap.objs.size, { cls := .type "dict", data := .dict #[] }), (a, oa)] (fun l m H' => l = lo ∧ m = n ∧ H' = H1) e s' ∧ (s4.setGen g .running).gens.size ≤ s'.gens.size) hr1 I5.nolimit hr2 ⟨oa, nma, qna, k14 _ _ hoa, hoc, hod, hos'⟩ hgs4
        (segF_sz (wake X.A.in1 (s4.setGen g .running) _ ⟨hr1, ?_, ?_⟩ I1.ok.frames k14 (o4.trans hos) (allBare_setGen hb4 rfl) pinsOk)) fun e s6 he => ?_
      · have := hr.dp
        show X.A.depth + 3 * k + 5 < _
        omega
      · have := hr.un
        show X.A.units + 1 + 16 * k + 200 < _
        omega
      obtain ⟨⟨it, lo', n', H', uv, t, hn1, ⟨el, en, eH'⟩, hq1, hres, euv, hslp, hos6, hba6, hun, hok, hpin, hlc, hitp, hits, ni, nL1⟩, gsz⟩ := he
      subst lo' n' H'
      subst uv
      refine ⟨hq1, .inl ⟨_, hres, ?_⟩⟩
      have pD := hpin _ List.mem_cons_self
      have pC := hpin _ (List.mem_cons_of_mem _ List.mem_cons_self)
      have itC : s3.heap.objs.size < it := hitp _ (List.mem_cons_of_mem _ List.mem_cons_self)
      have itD : D < it := hitp _ List.mem_cons_self
      have old : ∀ {b : Addr} {o : Obj}, s4.heap.get? b = some o → b < sc.heap.objs.size → sc.heap.get? b = some o := fun {b o} e hb => by
        have hb1 : b < s1.heap.objs.size := Nat.lt_of_lt_of_le hb scs
        rw [h4] at e
        rcases Heap.get?_push_cases e with ⟨z, _⟩ | e
        · rw [z, z3, ← hD] at hb1
          exact absurd hb1 (Nat.not_lt_of_le (Nat.le_succ _))
        rw [h3] at e
        rcases Heap.get?_push_cases e with ⟨z, _⟩ | e
        · rw [z] at hb1
          exact absurd hb1 (Nat.lt_irrefl _)
        obtain ⟨o', e'⟩ := dd.back hb e
        have z := hkp b o' e'
        rw [e] at z
        cases z
        exact e'
      have cls : ∀ {b : Addr} {o : Obj}, s4.heap.get? b = some o → b ∉ fp → b < sc.heap.objs.size ∨ b = D ∨ b = s3.heap.objs.size := fun {b o} e hb => by
        have h1 := Heap.lt_size e
        rw [z4] at h1
        by_cases h2 : b < sc.heap.objs.size
        · exact .inl h2
        · have h3' : ¬ b < s1.heap.objs.size := fun z => hb ((mfp b).mpr ⟨z, Nat.le_of_not_lt h2⟩)
          rw [hD] at h3'
          rcases Nat.lt_or_ge b s3.heap.objs.size with q | q
          · rw [z3] at q
            exact .inr (.inl (Nat.le_antisymm (Nat.le_of_lt_succ q) (Nat.le_of_not_lt h3')))
          · exact .inr (.inr (Nat.le_antisymm (Nat.le_of_lt_succ h1) q))
      have hH1 : ∀ {b : Addr}, b ≠ D → H3 b = H1 b := fun {b} nb => by rw [← hH3, upd_ne nb]
      have hHD : H3 D = some (.lst []) := by rw [← hH3, upd_same]
      have n3 : ∀ {b : Addr}, H3 b = none → H1 b = none := fun {b} z => by
        rw [← hH1 (fun e => by rw [e, hHD] at z; cases z)]
        exact z
      have hset : (s6.setGen g e.genState).heap = s6.heap := rfl
      have sL : sc.heap.objs.size ≠ D := by rw [← hD]; exact Nat.ne_of_lt (Nat.lt_trans hLa ha1)
      have hok6 : HOk X.prog X.w H3 s6.heap := fun b u q => by
        by_cases qb : b = D
        · subst qb
          rw [hHD] at q
          cases q
          exact ⟨Nat.zero_le _, [], 0, .nil, pD⟩
        · rw [hH1 qb] at q
          refine (hok b u q).stay (fun _ _ _ z => z) (fun d z => ?_) fun d xs z => ?_
          · rw [hH1 (ne_of_none z hDn)]; exact z
          · rw [hH1 (ne_of_none z hDn)]; exact z
      have I6 : Inv (X.blk s3 H3 scope ce fp) [] (wipe σ [i]) H3 (s6.setGen g e.genState) := by
        have bq := End.bare_of_quiet hq1
        refine I5.call' (s' := s6.setGen g e.genState) (ch := fp) (hos6.trans (o4.trans hos).symm) ⟨fun b o eb nb hb hx => ?_, fun b o eb nb hb hx => ?_, fun _ _ _ nb _ => nb, fun b o eb hx => ?_, fun _ _ z => z, fun _ _ _ z => z, fun b ps z => ⟨#[], by rw [z]; simp⟩⟩ hok6 (allBare_setGen hba6 bq) fun b hb => ?_
        · rcases cls eb hx with q | q | q
          · refine hun.keep b o (old eb q) (n3 nb) (fun z => hb ?_) (by simp)
            exact z
          · rw [q, hHD] at nb; cases nb
          · rw [q] at eb ⊢
            rw [eC4] at eb
            cases eb
            exact pC
        · rcases cls eb hx with q | q | q
          · exact hun.any (old eb q) (n3 nb) (by simp)
          · rw [q, hHD] at nb; cases nb
          · rw [q] at eb ⊢
            rw [eC4] at eb
            cases eb
            exact ⟨_, pC⟩
        · rcases cls eb hx with q | q | q
          · exact hun.there b o (old eb q) (by simp)
          · rw [q]; exact ⟨_, pD⟩
          · rw [q]; exact ⟨_, pC⟩
        · exact ⟨.inl hb, (I5.ok.exf b hb).1, fun x c z => (I5.ok.exf b hb).2 x c z, fun p hp => absurd (show p ∈ ([] : List (Addr × Obj)) ++ [] from hp) (by simp)⟩
      have hgen6 : s6.heap.IsGen a g := ⟨oa, nma, qna, hpin (a, oa) (by simp), hoc, hod, hos'⟩
      have hg6 : (s6.setGen g e.genState).gens[g]? = some e.genState := setGen_at (by
        have q := (Array.getElem?_eq_some_iff.mp hgs4).1
        rw [setGen_size] at gsz
        exact Nat.lt_of_lt_of_le q gsz)
      have z := fire it t (s6.setGen g e.genState) H3 hn1 I6 p5 (by rw [hH1 sL]; exact nL1) (by rw [hH1 (by rw [← hD]; exact Nat.ne_of_lt ha1)]; exact I1.hok.fresh (Nat.le_of_lt hLa)) (by rw [hH1 (Nat.ne_of_gt itD)]; exact ni) itC ⟨hgen6, hlc, _, hg6, hslp⟩
      rw [show lo + ((0 : Nat) : Int) = lo from by omega] at z
      exact z
    · have fi : FpOk (X.blk s3 H3 scope ce fp) [] H5 it := I4.fpOk (by omega) ni
      have fL := stat I5 hLm nL
      have hlm5 := I5.nolimit
      by_cases hj : j < n
      · refine gt_item hr1 hlm5 hr2 (hne hit) T5 hj fun t s6 tk6 T6 => ?_
        exact fire it t s6 H5 hj (inv_tk I5 tk6 fL fi) p5 nL na ni hit T6
      · have ej : j = n := by omega
        subst ej
        refine gt_done hr1 hlm5 hr2 T5 fun s6 tk6 => ?_
        have I6 := inv_tk I5 tk6 fL fi
        have I7 : Inv X pins σ H5 s6 := I3.call' (ch := fp) I6.os I6.base I6.hok I6.bare fun b hb => ⟨(f3 b hb).1.2.2.2.1, (f3 b hb).1.2.1, (f3 b hb).1.2.2.2.2.1, (f3 b hb).1.2.2.2.2.2⟩
        have nC : H5 s3.heap.objs.size = none := by
          have z : H5 ce.locals = none := I6.free
          rw [cL] at z
          exact z
        obtain ⟨m, hn, _⟩ := I6.loc
        have hn : s6.heap.Ns ce.locals m := hn
        rw [cL] at hn
        exact hRR D s3.heap.objs.size s6 m H5 I7 (fin H5 p5) hn (I3.fpOk (Nat.le_refl _) nC)
  refine codeAny_compStart_list loop (wpAny_pyIter_gen (hgen.keeps k14) loop)
/-- as a value -/
theorem pe_lcG {X : Cx} {k i : Nat} {elt iter : Expr} {v : Str} {vp : Pos} {scope : Scope} {pos : Pos} {tg : TGA} {te : TE} (hc : X.calm = true) (hN : X.N.Nodup) (hi : PGA X k iter tg) (hr : Room (k + 1) X.A) (ok : BlkOk X.N X.env.scope scope [(v, i)]) (hnc : ∀ y ∈ scope.names, y.2 ≠ .cell)
    (hv : scope.names.lookup v = some .local) (hvi : X.N[i]? = some v)
    (he : ∀ (s : Shared) (H : Hp) (C : Addr) (cl : List (Str × Addr)) (fp : List Addr), PE (X.blk s H scope (compEnvC scope cl C X.env) fp) elt te)
    (hg : ∀ (s : Shared) (H : Hp) (C : Addr) (cl : List (Str × Addr)) (fp : List Addr), PG (X.blk s H scope (compEnvC scope cl C X.env) fp) (.Name v vp) (gName i)) (hs : ∀ x, foldedSetIterable iter X.env x = pure x := by intro _; rfl) :
    PE X (.ListComp elt [⟨.Name v vp, iter, [], 0⟩] scope pos) (tLcG tg i te) := by
  refine ⟨fun pins s σ H Q I h => ?_⟩
  rw [eval_ListComp]
  refine lcG_core hc hN I hi hr ok hnc hv hvi he hg hs h fun D C s' m H' I' q hn f => ⟨m, hn, fun h'' sb => ?_⟩
  obtain ⟨f0, f1, f2, f3, f4, f5⟩ := f
  exact ⟨.ref D, H', I'.turned (t' := s'.toks) (fun b o hb e => (sb.2 b hb).trans e) f0 f1 f3 f4 f5, rfl, q⟩
/-- name = [..] on one line, the name a local -/
theorem ps_setLcG {X : Cx} {k i j : Nat} {y : Str} {py : Pos} {elt iter : Expr} {v : Str} {vp : Pos} {scope : Scope} {pos spos : Pos} {tg : TGA} {te : TE} (hc : X.calm = true) (hN : X.N.Nodup) (hy : X.N[j]? = some y) (hyl : X.env.scope.names.lookup y = some .local)
    (hsw : swapsWith (.ListComp elt [⟨.Name v vp, iter, [], 0⟩] scope pos) (some (.Name y py)) spos.line X.env = pure true) (hi : PGA X k iter tg) (hr : Room (k + 1) X.A) (ok : BlkOk X.N X.env.scope scope [(v, i)]) (hnc : ∀ y ∈ scope.names, y.2 ≠ .cell)
    (hv : scope.names.lookup v = some .local) (hvi : X.N[i]? = some v)
    (he : ∀ (s : Shared) (H : Hp) (C : Addr) (cl : List (Str × Addr)) (fp : List Addr), PE (X.blk s H scope (compEnvC scope cl C X.env) fp) elt te)
    (hg : ∀ (s : Shared) (H : Hp) (C : Addr) (cl : List (Str × Addr)) (fp : List Addr), PG (X.blk s H scope (compEnvC scope cl C X.env) fp) (.Name v vp) (gName i)) (hs : ∀ x, foldedSetIterable iter X.env x = pure x := by intro _; rfl) :
    PS X (.Assign [.Name y py] (.ListComp elt [⟨.Name v vp, iter, [], 0⟩] scope pos) spos) (tAsg (tLcG tg i te) (gName j)) := by
  refine ⟨fun pins s σ H D I h => ?_⟩
  rw [exec_Assign_Name_used _ _ _ _ hsw]
  refine wpAny_bind (wpAny_standAt (wpAny_bind ?_))
  show wpAny _ X.A (do let _ ← comprehension (.ListComp elt [⟨.Name v vp, iter, [], 0⟩] scope pos) scope X.env (firstIterPos [⟨.Name v vp, iter, [], 0⟩] pos) (newList []) false (eval iter X.env) (some (assign (.Name y py) X.env))) _ _ s
  have h : tLcG tg i te σ H (fun x H1 => gName j x σ H1 D.nx) := h
  refine wpAny_bind (thn (lcG_core (Qf := fun _ s' => SP X pins D .next s') hc hN I hi hr ok hnc hv hvi he hg hs h fun L C s' m H' I' q hn f => ?_) fun _ s' hq => wpAny_pure (wpAny_pure hq))
  show wpAny _ _ (assign (.Name y py) X.env (.ref L)) _ _ _
  refine wpAny_assign_Name (store_ok2 (v := V.ref L) I' hN hy (.inl hyl) rfl (fun s2 I2 ⟨a, sb, ha⟩ => ?_) (.inr hyl))
  obtain ⟨f0, f1, f2, f3, f4, f5⟩ := f
  have haC : C ≠ a := by
    rcases ha with z | z
    · rw [z]; exact f1
    · exact fun e => f4 y a z e.symm
  refine ⟨m, hn.sameBut sb haC, fun h3 sb3 => ?_⟩
  exact ⟨_, H', I2.turned (t' := s2.toks) (fun b o hb e => (sb3.2 b hb).trans e) f0 f1 f3 f4 f5, q⟩
end Ga
/-! o.m() of a generator method over a range, for pe_lcG. -/
namespace Ga
open PySem PySem.Spec PyProof.Rows L2 GenW
section
variable {X : Cx} {k : Nat} {f C : Addr} {fd : FuncData} {ps : List Str} {sp : SpA} {x m : Str} {p pos pos' apos : Pos} {o : Expr} {ta : TE}
def tgMeth (C : Addr) (m : Str) (sp : SpA) (ta : TE) : TGA := fun σ H cont => ta σ H fun x H1 => ∃ a dx fs, x = .ref a ∧ H1 a = some (.ins C dx fs) ∧ fs.lookup m = none ∧ ∃ lo n, sp [x] H1 (fun l m H' => l = lo ∧ m = n ∧ H' = H1) ∧ cont lo n H1
theorem pga_meth0 {pl : Sem Bool} (he : PE X o ta) (c : Cls X.K C) (hm : Meth X.K C m f) (F : GFA X.prog X.w X.K X.mg X.base k f fd ps sp) (hr : Room k X.A) (hb : Binds X.K fd ps [])
    (ht : eval (.Call (.Attribute o m apos) [] [] pos') X.env = (do
      let ov ← eval o X.env
      standAt apos.atName
      let (f, first) ← holding [ov] (getMethod ov m pl)
      callWith pos' f first (backTo pos' (starEach [] X.env)) (backToKw pos' (keywordEach [] X.env))) := by rfl) :
    PGA X k (.Call (.Attribute o m apos) [] [] pos') (tgMeth C m sp ta) := by
  refine ⟨fun pins s σ H cont I h => ?_⟩
  refine PySem.W.methodCall_KW (pl := pl) (thn (he.run pins s σ H _ I h) fun u s1 ⟨x, H1, I1, rx, a, dx, fs, ex, ea, l, lo, n, q, hc⟩ => ?_) ht
  subst ex
  obtain rfl : u = Value.ref a := rx
  refine getmeth_ok I1 ea c hm l ?_
  refine PySem.W.callWith_K0 (first := [.ref a]) I1.kIn hm.kp ?_
  have hl2 : ([Value.ref a] ++ ([] : List Value)).length = ps.length := F.len _ _ _ q
  refine wpAny_call (codeAny_mono (Dd.codeAny_dead (F.run X.A X.stack s1 H1 ⟨[.ref a], []⟩ ([Value.ref a] ++ ([] : List Value)) [V.ref a] _ hr I1.env0 (hb s1 [Value.ref a] I1.kIn hl2) (show Vals [V.ref a] [Value.ref a] from .cons rfl .nil) q)) fun r s' hq => ?_)
  obtain ⟨hq, dd⟩ := hq
  cases r with
  | error e => exact False.elim hq
  | ok fl =>
    cases fl with
    | ret u => exact ⟨H1, s1, lo, n, I1, hq, dd, hc⟩
    | next => exact False.elim hq
    | brk => exact False.elim hq
    | cont => exact False.elim hq
end
end Ga
/-! == of lists of unlike length; None in a list of instances with their own ==. -/
namespace El
open PySem PySem.SeqAt
open AutoSeq1 (wpAny_loadPart')
open MeetsSeq MeetsSeq2 MeetsSeq3 SeqRoads2
section
variable {prog : Program} {w : World} {A : Around} {R : Result → Shared → Prop}
/-- no item is equal to x -/
def InI (prog : Program) (w : World) (A : Around) (E : Value → Shared → Prop) (l : Addr) (x : Value) (N : Nat) (I : Nat → Shared → Prop) : Prop :=
  ∀ i s, I i s → ∃ (xs : Array Value) (n : Nat), s.heap.get? l = some { cls := .type "list", data := .seq xs n } ∧ xs.size = N ∧
    ∀ (h1 : i < xs.size), wpAny (model prog w) A.in1 (eqBool xs[i] x) (fun r s' => r = false ∧ I (i + 1) s') E s
theorem in_walk (l : Addr) (x : Value) (N : Nat) (I : Nat → Shared → Prop) (hl : InI prog w A (fun e s' => R (.error e) s') l x N I) (fin : ∀ s, I N s → R (.ok (.ret (.bool false))) s) :
    ∀ (k i : Nat), i + k = N → ∀ s, I i s → wpAny (model prog w) A.in1 (Builtin.«list.__contains__.loop» ⟨[.ref l, x, rawInt i], []⟩) (GQ.FinOf prog w A R) (fun e s' => R (.error e) s') s
  | 0, i, hk, s, h => by
    have hi : i = N := hk
    subst hi
    obtain ⟨xs, n, h1, z1, _⟩ := hl _ _ h
    have hR := fin s h
    obtain ⟨hp, g, d, tk, os⟩ := s
    wp_walk using wpAny_loadPart' h1
    rw [show xs[((i : Nat) : Int).toNat]? = none by simp [z1]]
    wp_walk using wpAny_loadPart' h1
    exact hR
  | k + 1, i, hk, s, h => by
    obtain ⟨xs, n, h1, z1, turn⟩ := hl _ _ h
    have a1 : i < xs.size := by omega
    have ht := turn a1
    obtain ⟨hp, g, d, tk, os⟩ := s
    wp_walk using wpAny_loadPart' h1
    rw [show xs[((i : Nat) : Int).toNat]? = some xs[i] by simp [a1]]
    refine wpAny_bind (wpAny_mono ht (fun r s2 q => ?_) fun _ _ x => x)
    obtain ⟨rfl, q⟩ := q
    have rec_ := in_walk l x N I hl fin k (i + 1) (by omega) s2 q
    obtain ⟨hp2, g2, d2, tk2, os2⟩ := s2
    wp_walk
    rw [show ((i : Int) + 1) = ((i + 1 : Nat) : Int) by omega]
    exact ⟨plainId_quiet plain_contains_loop _, codeAny_builtin entry_contains_loop (by rw [Around.under_plainId plain_contains_loop _]; exact rec_)⟩
theorem in_list (l : Addr) (x : Value) (N : Nat) (I : Nat → Shared → Prop) (hl : InI prog w A (fun e s' => R (.error e) s') l x N I) (fin : ∀ s, I N s → R (.ok (.ret (.bool false))) s) {s : Shared} (h : I 0 s) :
    wpAny (model prog w) A.in1 (Builtin.«list.__contains__» ⟨[.ref l, x], []⟩) (GQ.FinOf prog w A R) (fun e s' => R (.error e) s') s := by
  obtain ⟨xs, n, h1, z1, _⟩ := hl _ _ h
  have rec_ := in_walk l x N I hl fin N 0 (by omega) s h
  obtain ⟨hp, g, d, tk, os⟩ := s
  wp_walk using wpAny_loadPart' h1
  exact ⟨plainId_quiet plain_contains_loop _, codeAny_builtin entry_contains_loop (by rw [Around.under_plainId plain_contains_loop _]; exact rec_)⟩
end
theorem op_in {prog : Program} {w : World} {A : Around} {E : Value → Shared → Prop} {s : Shared} {l : Addr} {x : Value} {N : Nat} {Q : Value → Shared → Prop} (I : Nat → Shared → Prop) (hl : InI prog w A E l x N I)
    (fin : ∀ s, I N s → Q (.bool false) s) (h : I 0 s) : wpAny (model prog w) A (compareOp .In x (.ref l)) Q E s := by
  obtain ⟨xs, n, h1, _, _⟩ := hl _ _ h
  show wpAny _ A (do return .bool (← contains (.ref l) x)) Q E s
  refine wpAny_bind (wpAny_contains_slot ⟨_, h1, rfl⟩ F.slot_list_contains (wpAny_mono (GQ.call_here F.slot_list_contains ⟨_, h1, rfl⟩ F.entry_list_contains (F.args_list_contains_2 _ _) (in_list (R := wants (fun v s' => v = .bool false ∧ Q (.bool false) s') E) l x N I hl (fun s' q => ⟨rfl, fin s' q⟩) h)) (fun v s' hv => ?_) fun _ _ e => e))
  obtain ⟨rfl, hq⟩ := hv
  exact wpAny_truthy_bool (wpAny_pure hq)
end El
namespace El
open PySem PySem.Spec PyProof.Rows L2
section
variable {X : Cx}
/-- xs == ys, lists of unlike length -/
def rEqLen (K : PySem.W.Frag) : R2 := fun x y H Q => ∃ a b xs ys, x = .ref a ∧ y = .ref b ∧ SqL K H a xs ∧ SqL K H b ys ∧ xs.length ≠ ys.length ∧ Q (.bl false) H
theorem op_eqLen (hu : X.A.units < cLine) : OpR X (compareOp .Eq) (rEqLen X.K) := by
  intro pins s σ H x y v u Q I rx ry h
  obtain ⟨a, b, xs, ys, rfl, rfl, ha, hb, hn, q⟩ := h
  cases rx
  cases ry
  obtain ⟨its, rv, hl, _⟩ := I.list ha
  obtain ⟨its2, rv2, hl2, _⟩ := I.list hb
  refine SeqAt.eq_list_lengthsAt hl.isList hl2.isList ?_ hu ⟨.bl false, H, I, rfl, q⟩
  rw [List.size_toArray, List.size_toArray, ← rv.length, ← rv2.length]
  simpa using hn
variable {CX : CXT} {k : Nat} {C f : Addr} {fd : FuncData} {ps : List Str} {sp : Sp} {E : XK}
/-- None in a list of instances of C, none of which is equal to None by its own == -/
def rNonIn (C : Addr) (sp : Sp) (E : XK) : R2 := fun x y H Q => ∃ l xs, x = .non ∧ y = .ref l ∧ H l = some (.lst xs) ∧
  (∀ z, z ∈ xs → ∃ a dx fs, z = .ref a ∧ H a = some (.ins C dx fs)) ∧ (∀ z, z ∈ xs → ∀ H1, Ext H H1 → sp [z, .non] H1 (fun v H2 => v = .bl false ∧ Ext H1 H2) E) ∧ ∀ H', Ext H H' → Q (.bl false) H'
theorem op_nonIn (F : FnOk X.prog X.w X.K X.mg X.base CX k f fd ps sp) (hr : Room (k + 1) X.A) (hn : PySem.W.notFirst X.K C (.type "NoneType") = true) (hs : PySem.W.findIn X.K (.ref C) "__eq__" = some (some (.ref f))) (hf : PySem.W.isFn X.K (.ref f) = true) (hb : Binds X.K fd ps []) (hx : Passes CX X E) :
    OpR X (compareOp .In) (rNonIn C sp E) := by
  intro pins s σ H x y v u Q I rx ry h
  obtain ⟨l, xs, rfl, rfl, ha, hi, hp, q⟩ := h
  obtain rfl : v = Value.none := rx
  obtain rfl : u = Value.ref l := ry
  refine op_in (N := xs.length) (fun _ s' => LoopI X pins σ H s') (fun i s' z => ?_) (fun s' z => ?_) ⟨H, I, Ext.rfl'⟩
  · obtain ⟨H1, I1, e1⟩ := z
    obtain ⟨y1, its, n, r, e⟩ := I1.hok l _ (e1 _ _ ha)
    refine ⟨its.toArray, n, e, by rw [List.size_toArray, ← r.length], fun h1 => ?_⟩
    have h1' : i < its.length := by simpa using h1
    have k1 : i < xs.length := by rw [r.length]; exact h1'
    obtain ⟨t, ht, rt⟩ := r.get (List.getElem?_eq_getElem k1)
    have g1 : its[i]? = some its.toArray[i] := by rw [List.getElem?_eq_getElem h1'] <;> simp
    rw [g1] at ht
    rw [Option.some.inj ht]
    obtain ⟨a, dx, fs, ez, hz⟩ := hi _ (List.getElem_mem k1)
    have sp1 := hp _ (List.getElem_mem k1) H1 e1
    rw [ez] at rt sp1
    obtain rfl : t = Value.ref a := rt
    have hz1 := e1 _ _ hz
    obtain ⟨mA, J, _⟩ := ins_get I1.hok hz1
    obtain ⟨od, J, _⟩ := J.look
    obtain ⟨m, hF⟩ := I1.fr
    obtain ⟨P, kx, hP, _⟩ := kit_of I1 (show RelV .non Value.none from rfl) (TyX.base .non)
    have hr1 : Room k X.A.in1 := hr.in1
    unfold eqBool
    refine wpAny_holding ?_
    refine wpAny_ite_split (fun hab => absurd (eq_of_beq hab) (fun z => nomatch z)) (fun _ => ?_)
    refine wpAny_bind (PySem.W.cmp_K (op := .Eq) (tb := .type "NoneType") hr1.units0 hF I1.ok.mod.kin J (kx.ty _ _ I1.kIn hP) hn hs hf (wpAny_mono (Ow.run_own F hr1 I1.env0.in1 hb hx I1 (vs := [.ref a, .non]) (.cons (show RelV (.ref a) (.ref a) from rfl) (.cons (show RelV .non Value.none from rfl) .nil)) sp1) (fun w s2 hq => ?_) fun _ _ z => z))
    obtain ⟨z, H2, I2, rw', rfl, e2⟩ := hq
    cases rw'
    exact wpAny_truthy_bool ⟨rfl, H2, I2, e1.trans e2⟩
  · obtain ⟨H1, I1, e1⟩ := z
    exact ⟨.bl false, H1, I1, rfl, q H1 e1⟩
end
end El
namespace Ru
open PySem L2
def top (i : Nat) : Stmt := PySem.Challenge.pw_devicewindows_k03_touched_lines_and_page.main.body.getD i (.Pass ⟨0, 0, 0, 0⟩)
abbrev sWhole : Stmt := top 5
abbrev sInteger : Stmt := top 4
abbrev sInit : Stmt := inClass (top 8) 2
abbrev sBetween : Stmt := inClass (top 8) 4
abbrev sEnd : Stmt := inClass (top 8) 5
abbrev sEq : Stmt := inClass (top 8) 6
abbrev sOfPage : Stmt := inClass (top 8) 3
abbrev sAnd : Stmt := inClass (top 8) 8
abbrev sLen : Stmt := inClass (top 8) 9
abbrev sTLines : Stmt := inClass (top 8) 12
abbrev sTPages : Stmt := inClass (top 8) 13
abbrev sTouched : Stmt := inClass (top 8) 14
abbrev sWords : Stmt := inClass (top 8) 11
abbrev sRepr : Stmt := inClass (top 8) 10
/-! ### a run -/
theorem n1 : ¬ (("first" : Str) = "many") := by decide +kernel
def rf (f m : Int) : List (Str × V) := putF "many" (.int m) (putF "first" (.int f) [])
theorem rf_f (f m : Int) : (rf f m).lookup ("first" : Str) = some (.int f) := by
  unfold rf
  rw [lookup_putF, if_neg n1, lookup_putF, if_pos rfl]
theorem rf_m (f m : Int) : (rf f m).lookup ("many" : Str) = some (.int m) := by
  unfold rf
  rw [lookup_putF, if_pos rfl]
theorem rf_no (f m : Int) {x : Str} (h1 : ¬ x = "many") (h2 : ¬ x = "first") : (rf f m).lookup x = none := by
  unfold rf
  rw [lookup_putF, if_neg h1, lookup_putF, if_neg h2]
  all_goals rfl
def RunAt (C : Addr) (H : Hp) (p : Addr) (f m : Int) : Prop := ∃ dx, H p = some (.ins C dx (rf f m))
abbrev Most : Int := 10 ^ 12
/-- what the walk asks of the class and the names -/
structure TR (K : PySem.W.Frag) (mg : Str → Option Value) (C : Addr) (mc : Value) (tM : Tok) : Prop where
  cl : Cls K C
  nF : NoAttr K C "first"
  nM : NoAttr K C "many"
  mgC : mg "Run" = some (.ref C)
  most : mg "_MOST" = some (.int (10 ^ 12) tM)
  isi : mg "isinstance" = none
  int : mg "int" = none
  bool : mg "bool" = none
  range : mg "range" = none
  rd : ClX.CRead K C mc
/-- integer(x): of an int; of a bool; of what is neither -/
def spInteger (K : PySem.W.Frag) : Sp := fun vs H Q _ => ∃ x : V, vs = [x] ∧ ((∃ v, x = .int v ∧ Q (.bl true) H) ∨ (∃ b, x = .bl b ∧ Q (.bl false) H) ∨ ∃ t, TyX K H x t ∧ PySem.W.kitOne K t (.type "int") = some false ∧ Q (.bl false) H)
/-- whole(x, least, most): of an int; of a bool; of what is neither -/
def spWhole (K : PySem.W.Frag) : Sp := fun vs H Q _ => ∃ (x : V) (lo hi : Int), vs = [x, .int lo, .int hi] ∧
  ((∃ v, x = .int v ∧ Q (.bl (decide (lo ≤ v ∧ v ≤ hi))) H) ∨ (∃ b, x = .bl b ∧ Q (.bl false) H) ∨ ∃ t, TyX K H x t ∧ PySem.W.kitOne K t (.type "int") = some false ∧ Q (.bl false) H)
/-- __init__, of numbers within the bounds -/
def spInit (C : Addr) : Sp := fun vs H Q _ => ∃ (p dx : Addr) (f m : Int), vs = [.ref p, .int f, .int m] ∧ H p = some (.ins C dx []) ∧ 0 ≤ f ∧ f ≤ Most ∧ 1 ≤ m ∧ m ≤ Most ∧ Q .non (upd H p (.ins C dx (rf f m)))
def spBetween (C : Addr) : Sp := fun vs H Q _ => ∃ (f e : Int), vs = [.ref C, .int f, .int e] ∧ 0 ≤ f ∧ f ≤ Most ∧ 1 ≤ e - f ∧ e - f ≤ Most ∧ ∀ p dx, H p = none → H dx = none → dx ≠ p → Q (.ref p) (upd (upd H dx (.own p)) p (.ins C dx (rf f (e - f))))
def spEnd (C : Addr) : Sp := fun vs H Q _ => ∃ (p : Addr) (f m : Int), vs = [.ref p] ∧ RunAt C H p f m ∧ Q (.int (f + m)) H
structure Def (K : PySem.W.Frag) (mg : Str → Option Value) (x : Str) (f : Addr) (fd : FuncData) (ps : List Str) : Prop where
  at_ : mg x = some (.ref f)
  kp : PySem.W.keepIn K (.ref f) = true
  bd : Binds K fd ps []
section
variable {P : Program} {w : World} {K : PySem.W.Frag} {mg : Str → Option Value} {base : Heap} {C : Addr} {mc : Value} {tM : Tok}
theorem scInteger : FnScope ["value"] ["value"] (defScope sInteger) := ⟨rfl, rfl, rfl, by decide +kernel, rfl, by decide +kernel, by decide +kernel⟩
theorem ok_integer {f : Addr} {fd : FuncData} (F : Fun K "integer" "integer" sInteger f fd) (T : TR K mg C mc tM) : FnOk P w K mg base CX0 1 f fd ["value"] (spInteger K) := by
  refine F.ok scInteger (fun vs H Q E h => ?_) (fun cdv A outer s H vs Q E hr h => ?_)
  · obtain ⟨x, rfl, _⟩ := h
    rfl
  · obtain ⟨x, rfl, h⟩ := h
    refine ⟨_, pss_one (ps_ret (pe_and (pe_callB call_isi (by rfl) T.isi (by decide +kernel) (pa_cons (pv 0) (pa_cons (pe_bltn (v := .ty "int") (by rfl) T.int (by decide +kernel) rfl) pa_nil)))
      (pe_one (pe_not (pe_callB call_isi (by rfl) T.isi (by decide +kernel) (pa_cons (pv 0) (pa_cons (pe_bltn (v := .ty "bool") (by rfl) T.bool (by decide +kernel) rfl) pa_nil))))))), ?_⟩
    rcases h with ⟨v, rfl, q⟩ | ⟨b, rfl, q⟩ | ⟨t, ty, hk, q⟩
    · refine ⟨_, rfl, _, _, .type "int", .type "int", true, rfl, .ty "int", .base (.int v), kit_ty (by decide +kernel), true, rfl, iteT ?_⟩
      exact ⟨_, rfl, _, _, .type "int", .type "bool", false, rfl, .ty "bool", .base (.int v), kit_ty (by decide +kernel), false, rfl, q⟩
    · refine ⟨_, rfl, _, _, .type "bool", .type "int", true, rfl, .ty "int", .base (.bl b), kit_ty (by decide +kernel), true, rfl, iteT ?_⟩
      exact ⟨_, rfl, _, _, .type "bool", .type "bool", true, rfl, .ty "bool", .base (.bl b), kit_ty (by decide +kernel), true, rfl, q⟩
    · exact ⟨_, rfl, _, _, t, .type "int", false, rfl, .ty "int", ty, hk, false, rfl, iteF q⟩
theorem scWhole : FnScope ["value", "least", "most"] ["value", "least", "most"] (defScope sWhole) := ⟨rfl, rfl, rfl, by decide +kernel, rfl, by decide +kernel, by decide +kernel⟩
theorem ok_whole {f fN : Addr} {fd fdN : FuncData} (F : Fun K "whole" "whole" sWhole f fd) (GN : FnOk P w K mg base CX0 1 fN fdN ["value"] (spInteger K)) (DN : Def K mg "integer" fN fdN ["value"]) : FnOk P w K mg base CX0 2 f fd ["value", "least", "most"] (spWhole K) := by
  refine F.ok scWhole (fun vs H Q E h => ?_) (fun cdv A outer s H vs Q E hr h => ?_)
  · obtain ⟨x, lo, hi, rfl, _⟩ := h
    rfl
  · obtain ⟨x, lo, hi, rfl, h⟩ := h
    refine ⟨_, pss_one (ps_ret (pe_and (pe_call GN hr (by rfl) DN.at_ DN.kp DN.bd .nil pass0 (pa_cons (pv 0) pa_nil)) (pe_one (pe_chain op_le op_le (pv 1) (pv 0) (pv 2))))), ?_⟩
    refine ⟨_, rfl, x, rfl, ?_⟩
    rcases h with ⟨v, rfl, q⟩ | ⟨b, rfl, q⟩ | ⟨t, ty, hk, q⟩
    · refine .inl ⟨v, rfl, true, rfl, iteT ?_⟩
      refine ⟨_, rfl, _, rfl, _, _, rfl, rfl, _, rfl, ite2 (fun h1 => ?_) fun h1 => ?_⟩
      · refine ⟨_, rfl, _, _, rfl, rfl, ?_⟩
        have h1' : lo ≤ v := of_decide_eq_true h1
        have e : decide (lo ≤ v ∧ v ≤ hi) = decide (v ≤ hi) := by
          by_cases z : v ≤ hi <;> simp [z, h1']
        rw [e] at q
        exact q
      · have h1' : ¬ lo ≤ v := of_decide_eq_false (by simpa using h1)
        have e : decide (lo ≤ v ∧ v ≤ hi) = false := decide_eq_false fun z => h1' z.1
        rw [e] at q
        exact q
    · exact .inr (.inl ⟨b, rfl, false, rfl, iteF q⟩)
    · exact .inr (.inr ⟨t, ty, hk, false, rfl, iteF q⟩)
theorem scInit : FnScope ["self", "first", "many"] ["self", "first", "many"] (defScope sInit) := ⟨rfl, rfl, rfl, by decide +kernel, rfl, by decide +kernel, by decide +kernel⟩
theorem ok_init {f fW : Addr} {fd fdW : FuncData} (F : Fun K "__init__" "Run.__init__" sInit f fd) (T : TR K mg C mc tM) (GW : FnOk P w K mg base CX0 2 fW fdW ["value", "least", "most"] (spWhole K)) (DW : Def K mg "whole" fW fdW ["value", "least", "most"]) :
    FnOk P w K mg base CX0 3 f fd ["self", "first", "many"] (spInit C) := by
  refine F.ok scInit (fun vs H Q E h => ?_) (fun cdv A outer s H vs Q E hr h => ?_)
  · obtain ⟨p, dx, f, m, rfl, _⟩ := h
    rfl
  · obtain ⟨p, dx, f, m, rfl, hp, f0, f1, m0, m1, k⟩ := h
    refine ⟨_, pss_cons (ps_if (PW.pt (pw_or (pt_not (pt_val (pe_call GW hr (by rfl) DW.at_ DW.kp DW.bd .nil pass0 (pa_cons (pv 1) (pa_cons pe_int (pa_cons (pe_glob (v := .int (10 ^ 12)) rfl T.most ⟨_, rfl⟩) pa_nil))))))
        (pw_or1 (pt_not (pt_val (pe_call GW hr (by rfl) DW.at_ DW.kp DW.bd .nil pass0 (pa_cons (pv 2) (pa_cons pe_int (pa_cons (pe_glob (v := .int (10 ^ 12)) rfl T.most ⟨_, rfl⟩) pa_nil))))))))) (pss_one ps_never) pss_nil)
      (pss_cons (ps_fld (pv 0) (pv 1) rfl) (pss_one (ps_fld (pv 0) (pv 2) rfl))), ?_⟩
    refine ⟨_, rfl, _, _, _, rfl, .inl ⟨_, rfl, _, rfl, ?_⟩⟩
    have e1 : decide (0 ≤ f ∧ f ≤ 10 ^ 12) = true := decide_eq_true ⟨f0, f1⟩
    have e2 : decide (1 ≤ m ∧ m ≤ 10 ^ 12) = true := decide_eq_true ⟨m0, m1⟩
    rw [e1]
    refine iteF ⟨_, rfl, _, _, _, rfl, .inl ⟨_, rfl, _, rfl, ?_⟩⟩
    rw [e2]
    refine iteF ?_
    refine ⟨_, rfl, _, rfl, p, C, dx, [], rfl, hp, T.cl, T.nF, (by show 0 < 1000; decide), _, rfl, _, rfl, p, C, dx, _, rfl, upd_same, T.cl, T.nM, (by show 1 < 1000; decide), ?_⟩
    rw [upd_upd]
    exact k
theorem scBetween : FnScope ["cls", "first", "end"] ["cls", "first", "end"] (defScope sBetween) := ⟨rfl, rfl, rfl, by decide +kernel, rfl, by decide +kernel, by decide +kernel⟩
theorem ok_between {f fW fI : Addr} {fd fdW fdI : FuncData} (F : Fun K "between" "Run.between" sBetween f fd) (T : TR K mg C mc tM) (GW : FnOk P w K mg base CX0 2 fW fdW ["value", "least", "most"] (spWhole K)) (DW : Def K mg "whole" fW fdW ["value", "least", "most"])
    (M : Mk K C fI) (GI : FnOk P w K mg base CX0 3 fI fdI ["self", "first", "many"] (spInit C)) (bI : Binds K fdI ["self", "first", "many"] []) : FnOk P w K mg base CX0 5 f fd ["cls", "first", "end"] (spBetween C) := by
  refine F.ok scBetween (fun vs H Q E h => ?_) (fun cdv A outer s H vs Q E hr h => ?_)
  · obtain ⟨f, e, rfl, _⟩ := h
    rfl
  · obtain ⟨f, e, rfl, f0, f1, m0, m1, k⟩ := h
    have hr1 : Room 2 _ := hr.mono (by decide)
    refine ⟨_, pss_cons (ps_if (PW.pt (pw_or (pt_not (pt_val (pe_call GW hr1 (by rfl) DW.at_ DW.kp DW.bd .nil pass0 (pa_cons (pv 1) (pa_cons pe_int (pa_cons (pe_glob (v := .int (10 ^ 12)) rfl T.most ⟨_, rfl⟩) pa_nil))))))
        (pw_or1 (pt_not (pt_val (pe_call GW hr1 (by rfl) DW.at_ DW.kp DW.bd .nil pass0 (pa_cons (pv 2) (pa_cons pe_int (pa_cons (pe_op op_mul pe_int (pe_glob (v := .int (10 ^ 12)) rfl T.most ⟨_, rfl⟩)) pa_nil))))))))) (pss_one ps_never) pss_nil)
      (pss_one (ps_ret (Ow.pe_makeL (i := 0) M GI hr rfl (Or.inl rfl) bI .nil pass0 (pa_cons (pv 1) (pa_cons (pe_op op_sub (pv 2) (pv 1)) pa_nil))))), ?_⟩
    refine ⟨_, rfl, _, _, _, rfl, .inl ⟨_, rfl, _, rfl, ?_⟩⟩
    have e1 : decide (0 ≤ f ∧ f ≤ 10 ^ 12) = true := decide_eq_true ⟨f0, f1⟩
    have e2 : decide (1 ≤ e ∧ e ≤ 2 * 10 ^ 12) = true := decide_eq_true (by unfold Most at *; omega)
    rw [e1]
    refine iteF ⟨_, rfl, _, _, rfl, rfl, .inl ⟨by decide, by decide⟩, _, _, _, rfl, .inl ⟨_, rfl, _, rfl, ?_⟩⟩
    rw [e2]
    refine iteF ⟨rfl, _, rfl, _, rfl, _, rfl, _, _, rfl, rfl, fun p dx hp hdx ne => ?_⟩
    refine ⟨p, dx, f, e - f, rfl, upd_same, f0, f1, m0, m1, rfl, ?_⟩
    rw [upd_upd]
    exact k p dx hp hdx ne
theorem scEnd : FnScope ["self"] ["self"] (defScope sEnd) := ⟨rfl, rfl, rfl, by decide +kernel, rfl, by decide +kernel, by decide +kernel⟩
theorem ok_end {f : Addr} {fd : FuncData} (F : Fun K "end" "Run.end" sEnd f fd) (T : TR K mg C mc tM) : FnOk P w K mg base CX0 2 f fd ["self"] (spEnd C) := by
  refine F.ok scEnd (fun vs H Q E h => ?_) (fun cdv A outer s H vs Q E hr h => ?_)
  · obtain ⟨p, f, m, rfl, _⟩ := h
    rfl
  · obtain ⟨p, f, m, rfl, ⟨dx, hp⟩, k⟩ := h
    refine ⟨_, pss_one (ps_ret (pe_op op_add (pe_fld (pv 0) rfl) (pe_fld (pv 0) rfl))), ?_⟩
    exact ⟨_, rfl, p, C, dx, _, _, rfl, hp, T.cl, T.nF, rf_f _ _, _, rfl, p, C, dx, _, _, rfl, hp, T.cl, T.nM, rf_m _ _, _, _, rfl, rfl, k⟩
end
end Ru
namespace Ru
open PySem L2
abbrev sBag : Stmt := top 10
abbrev sTake : Stmt := top 11
/-! ### drawn numbers -/
/-- all but b stands as before -/
def Off (b : Addr) (H H' : Hp) : Prop := ∀ c, c ≠ b → H' c = H c
/-- the bag's three numbers; at most N mixed numbers were taken so far -/
def BagAt (H : Hp) (b : Addr) (N : Nat) : Prop := ∃ l x c : Int, H b = some (.lst [.int l, .int x, .int c]) ∧ 0 ≤ l ∧ 0 ≤ x ∧ x < 6 * 10 ^ 18 ∧ 0 ≤ c ∧ c ≤ N
def spTake : Sp := fun vs H Q _ => ∃ (b : Addr) (m : Int) (N : Nat), vs = [.ref b, .int m] ∧ 1 ≤ m ∧ m < 1073741824 ∧ BagAt H b N ∧ N < 1000000 ∧
  ∀ (r : Int) (H' : Hp), 0 ≤ r → r < m → BagAt H' b (N + 1) → Off b H H' → Q (.int r) H'
theorem fmod_in {a m : Int} (h : 1 ≤ m) : 0 ≤ a.fmod m ∧ a.fmod m < m := by
  rw [Int.fmod_eq_emod_of_nonneg a (by omega)]
  exact ⟨Int.emod_nonneg _ (by omega), Int.emod_lt_of_pos _ (by omega)⟩
theorem fdiv_in {a m : Int} (h : 1 ≤ m) (ha : 0 ≤ a) : 0 ≤ a.fdiv m := by
  rw [Int.fdiv_eq_ediv_of_nonneg a (by omega)]
  exact Int.ediv_nonneg ha (by omega)
section
variable {P : Program} {w : World} {K : PySem.W.Frag} {mg : Str → Option Value} {base : Heap}
theorem scTake : FnScope ["_law_bag_here", "_law_many", "_law_digit", "_law_mixed"] ["_law_bag_here", "_law_many"] (defScope sTake) := ⟨rfl, rfl, rfl, by decide +kernel, rfl, by decide +kernel, by decide +kernel⟩
theorem sq_bd {c : Int} (h0 : 0 ≤ c) (h : c ≤ 1000001) : 0 ≤ 8081 * c * c ∧ 8081 * c * c ≤ 8081 * 1000001 * 1000001 := by
  have h1 : 0 ≤ 8081 * c := by omega
  refine ⟨Int.mul_nonneg h1 h0, ?_⟩
  exact Int.mul_le_mul (by omega) h h0 (by decide)
theorem ok_take {f : Addr} {fd : FuncData} (F : Fun K "_law_take" "_law_take" sTake f fd) : FnOk P w K mg base CX0 2 f fd ["_law_bag_here", "_law_many"] spTake := by
  refine F.ok scTake (fun vs H Q E h => ?_) (fun cdv A outer s H vs Q E hr h => ?_)
  · obtain ⟨b, m, N, rfl, _⟩ := h
    rfl
  · obtain ⟨b, m, N, rfl, m1, m2, ⟨l, x, c, hb, l0, x0, x1, c0, cN⟩, hN, k⟩ := h
    refine ⟨_, pss_cons (ps_if (pt_cmpR op_gt (pe_ix ix_list (pv 0) pe_int (fun _ _ => rfl)) pe_int (nomark _))
        (pss_cons (ps_set (i := 2) scTake.nd rfl (Or.inl rfl) (pe_op op_modN (pe_ix ix_list (pv 0) pe_int (fun _ _ => rfl)) (pv 1)))
        (pss_cons (ps_asg (pe_op op_fdivN (pe_ix ix_list (pv 0) pe_int (fun _ _ => rfl)) (pv 1)) (pg_sub (pv 0) pe_int set_list))
        (pss_one (ps_ret (pv 2))))) pss_nil)
      (pss_cons (ps_asg (pe_op op_add (pe_ix ix_list (pv 0) pe_int (fun _ _ => rfl)) pe_int) (pg_sub (pv 0) pe_int set_list))
      (pss_cons (ps_set (i := 3) scTake.nd rfl (Or.inl rfl) (pe_op op_mod (pe_op op_pow (pe_op op_add (pe_ix ix_list (pv 0) pe_int (fun _ _ => rfl))
          (pe_op op_mul (pe_op op_mul pe_int (pe_ix ix_list (pv 0) pe_int (fun _ _ => rfl))) (pe_ix ix_list (pv 0) pe_int (fun _ _ => rfl)))) pe_int) pe_int))
      (pss_one (ps_ret (pe_op op_modN (pe_op op_fdiv (pe_op op_mod (pe_op op_mul (pv 3) (pe_op op_add (pe_op op_fdiv (pv 3) pe_int) (pe_op op_mul pe_int (pe_ix ix_list (pv 0) pe_int (fun _ _ => rfl))))) pe_int) pe_int) (pv 1)))))), ?_⟩
    refine ⟨_, rfl, b, _, _, _, rfl, rfl, SqL.of hb, rfl, _, _, rfl, rfl, _, rfl, ?_⟩
    refine ite2 (fun hl => ?_) (fun hl => ?_)
    · have hl' : 0 < l := of_decide_eq_true hl
      refine ⟨_, rfl, b, _, _, _, rfl, rfl, SqL.of hb, rfl, _, rfl, _, _, rfl, rfl, by omega, ?_⟩
      refine ⟨_, rfl, b, _, _, _, rfl, rfl, SqL.of hb, rfl, _, rfl, _, _, rfl, rfl, ⟨by omega, by omega⟩, _, rfl, b, _, _, 0, rfl, rfl, hb, rfl, ?_⟩
      refine ⟨_, rfl, k _ _ (fmod_in m1).1 (fmod_in m1).2 ⟨_, x, c, upd_same, fdiv_in m1 l0, x0, x1, c0, by omega⟩ fun d hd => upd_ne hd⟩
    · obtain ⟨q0, q1⟩ := sq_bd (c := c + 1) (by omega) (by omega)
      refine ⟨_, rfl, b, _, _, _, rfl, rfl, SqL.of hb, rfl, _, _, rfl, rfl, _, rfl, b, _, _, 2, rfl, rfl, hb, rfl, ?_⟩
      have hb2 : (upd H b (.lst [.int l, .int x, .int (c + 1)])) b = some (.lst [.int l, .int x, .int (c + 1)]) := upd_same
      refine ⟨_, rfl, b, _, _, _, rfl, rfl, SqL.of hb2, rfl, _, rfl, b, _, _, _, rfl, rfl, SqL.of hb2, rfl, _, _, rfl, rfl, .inl ⟨by decide, by decide⟩, _, rfl, b, _, _, _, rfl, rfl, SqL.of hb2, rfl, _, _, rfl, rfl, .inr ⟨by omega, by omega⟩, _, _, rfl, rfl, _, _, rfl, rfl, ⟨by decide, by decide, by omega⟩, _, _, rfl, rfl, (by show (0 : Int) < 2147483563; decide), ?_⟩
      generalize hy : ((x + 8081 * (c + 1) * (c + 1)) ^ ((3 : Int)).toNat) % 2147483563 = y
      have y0 : 0 ≤ y := by rw [← hy]; exact Int.emod_nonneg _ (by decide)
      have y1 : y < 2147483563 := by rw [← hy]; exact Int.emod_lt_of_pos _ (by decide)
      refine ⟨_, rfl, _, rfl, _, _, rfl, rfl, ⟨by decide, by decide⟩, _, rfl, b, _, _, _, rfl, rfl, SqL.of hb2, rfl, _, _, rfl, rfl, .inl ⟨by decide, by decide⟩, _, _, rfl, rfl, _, _, rfl, rfl, .inl ⟨by omega, by omega⟩, _, _, rfl, rfl, (by show (0 : Int) < 2147483549; decide), _, _, rfl, rfl, ⟨by decide, by decide⟩, _, rfl, _, _, rfl, rfl, by omega, ?_⟩
      exact k _ _ (fmod_in m1).1 (fmod_in m1).2 ⟨l, x, c + 1, hb2, l0, x0, x1, by omega, by omega⟩ fun d hd => upd_ne hd
end
/-- what the walk asks of the built-ins -/
structure TB (mg : Str → Option Value) : Prop where
  len : mg "len" = none
  abs : mg "abs" = none
  range : mg "range" = none
  min : mg "min" = none
  max : mg "max" = none
  list : mg "list" = none
  sum : mg "sum" = none
theorem at_int {xs : List Int} {i : Int} (h0 : 0 ≤ i) (h1 : i < xs.length) : atI (xs.map V.int) i = some (.int (xs.getD i.toNat 0)) := by
  refine at_of (j := i.toNat) (by omega) ?_
  have q : i.toNat < xs.length := by omega
  rw [List.getElem?_map, List.getD_eq_getElem?_getD, List.getElem?_eq_getElem q]
  rfl
theorem eqv_self {d : PyData} (h : SeqAt.shaped d = true) : PyData.eqv d d = true := SeqAt.eqv_refl _ (SeqAt.canLay_of_shaped h)
abbrev g0 (l : List Int) (i : Nat) : Int := l.getD i 0
def dInts (xs : List Int) : PyData := .list (xs.map .int)
theorem canlay_ints : ∀ xs : List Int, PyData.canLayAll0 (xs.map .int) = true
  | [] => rfl
  | x :: xs => by
    rw [List.map_cons, PyData.canLayAll0, canlay_ints xs, PyData.canLay0]
    rfl
theorem depth_ints : ∀ xs : List Int, PyData.depthAll (xs.map .int) = 0
  | [] => rfl
  | x :: xs => by
    rw [List.map_cons, PyData.depthAll, depth_ints xs, PyData.depth]
    rfl
theorem shaped_ints (xs : List Int) : SeqAt.shaped (dInts xs) = true := by
  unfold SeqAt.shaped dInts
  rw [PyData.canLay0, canlay_ints, PyData.depth, depth_ints]
  rfl
theorem dpall_ints {K : PySem.W.Frag} {H : Hp} : ∀ xs : List Int, DpAll K H (xs.map V.int) (xs.map .int)
  | [] => .nil
  | x :: xs => .cons (.int x) (dpall_ints xs)
theorem dp_ints {K : PySem.W.Frag} {H : Hp} {a : Addr} {xs : List Int} (h : SqL K H a (xs.map V.int)) : Dp K H (.ref a) (dInts xs) := .lst h (dpall_ints xs)
theorem eqv_ints (xs : List Int) : PyData.eqv (dInts xs) (dInts xs) = true := eqv_self (shaped_ints xs)
def spBag (K : PySem.W.Frag) : Sp := fun vs H Q _ => ∃ (a : Addr) (ns : List Int) (i : Int), vs = [.ref a, .int i] ∧ SqL K H a (ns.map V.int) ∧ ns.length ≤ 63 ∧ 0 ≤ i ∧ i ≤ 63 ∧
  ∀ (p : Addr) (H' : Hp), H p = none → BagAt H' p 0 → Off p H H' → Q (.ref p) H'
section
variable {P : Program} {w : World} {K : PySem.W.Frag} {mg : Str → Option Value} {base : Heap}
theorem scBag : FnScope ["_law_script", "_law_at", "_law_number", "_law_large"] ["_law_script", "_law_at"] (defScope sBag) := ⟨rfl, rfl, rfl, by decide +kernel, rfl, by decide +kernel, by decide +kernel⟩
theorem ok_bag {f : Addr} {fd : FuncData} (F : Fun K "_law_bag" "_law_bag" sBag f fd) (T : TB mg) : FnOk P w K mg base CX0 2 f fd ["_law_script", "_law_at"] (spBag K) := by
  refine F.ok scBag (fun vs H Q E h => ?_) (fun cdv A outer s H vs Q E hr h => ?_)
  · obtain ⟨a, ns, i, rfl, _⟩ := h
    rfl
  · obtain ⟨a, ns, i, rfl, hS, hl, i0, i1, k⟩ := h
    refine ⟨_, pss_cons (ps_set (i := 2) scBag.nd rfl (Or.inl rfl) (pe_ifExp (pt_cmpR op_lt (pv 1) (pe_callB call_len_seq (by rfl) T.len PySem.boot_len (pa_cons (pv 0) pa_nil)) (nomark _)) (pe_ix ix_list (pv 0) (pv 1) (fun _ _ => rfl)) pe_int))
      (pss_cons (ps_set (i := 3) scBag.nd rfl (Or.inl rfl) (pe_ifExp (pt_cmpR op_ge (pe_callB call_abs (by rfl) T.abs (by decide +kernel) (pa_cons (pv 2) pa_nil)) (pe_op op_pow pe_int pe_int) (nomark _)) (pe_callB call_abs (by rfl) T.abs (by decide +kernel) (pa_cons (pv 2) pa_nil)) pe_int))
      (pss_one (ps_ret (pe_lst (pa_cons (pv 3) (pa_cons (pe_op op_add (pe_op op_add (pe_op op_mul (pe_op op_modN (pv 2) (pe_op op_add (pe_op op_pow pe_int pe_int) pe_int)) pe_int) (pe_op op_mul pe_int (pv 1))) pe_int) (pa_cons pe_int pa_nil))))))), ?_⟩
    refine ⟨_, rfl, _, rfl, a, _, rfl, .inl hS, _, _, rfl, rfl, _, rfl, ?_⟩
    have hw : ∀ z : Int, 0 ≤ z.fmod (10 ^ 18 + 9) * 5 + 7793 * i + 613 ∧ z.fmod (10 ^ 18 + 9) * 5 + 7793 * i + 613 < 6 * 10 ^ 18 := fun z => by
      obtain ⟨q1, q2⟩ := fmod_in (a := z) (m := 10 ^ 18 + 9) (by decide)
      omega
    have ha : ∀ z : Int, 0 ≤ (if z < 0 then -z else z) := fun z => by
      by_cases q : z < 0
      · rw [if_pos q]; omega
      · rw [if_neg q]; omega
    refine ite2 (fun h1 => ?_) (fun h1 => ?_)
    · have h2 : i < ((ns.map V.int).length : Int) := of_decide_eq_true h1
      rw [List.length_map] at h2
      have hn : i.toNat < ns.length := by omega
      refine ⟨_, rfl, _, rfl, a, _, _, .int ns[i.toNat], rfl, rfl, hS, ?_, ?_⟩
      · refine at_of (j := i.toNat) (by omega) ?_
        rw [List.getElem?_map, List.getElem?_eq_getElem hn] <;> rfl
      refine ⟨_, rfl, _, rfl, _, _, rfl, rfl, ⟨by decide, by decide, by decide⟩, _, _, rfl, rfl, _, rfl, ?_⟩
      refine ite2 (fun h3 => ?_) (fun h3 => ?_)
      · refine ⟨_, rfl, _, rfl, ?_⟩
        refine ⟨_, rfl, _, rfl, _, _, rfl, rfl, ⟨by decide, by decide, by decide⟩, _, _, rfl, rfl, _, _, rfl, rfl, (by show (10 ^ Int.toNat 18 + 9 : Int) ≠ 0; decide), _, _, rfl, rfl, .inr ⟨by decide, by decide⟩, _, rfl, _, _, rfl, rfl, .inl ⟨by decide, by decide⟩, _, _, rfl, rfl, _, _, rfl, rfl, (by show 3 ≤ sizeLine; decide), fun p hp => ?_⟩
        exact k p _ hp ⟨_, _, 0, upd_same, ha _, (hw _).1, (hw _).2, Int.le_refl _, Int.le_refl _⟩ fun c hc => upd_ne hc
      · refine ⟨_, rfl, _, rfl, _, _, rfl, rfl, ⟨by decide, by decide, by decide⟩, _, _, rfl, rfl, _, _, rfl, rfl, (by show (10 ^ Int.toNat 18 + 9 : Int) ≠ 0; decide), _, _, rfl, rfl, .inr ⟨by decide, by decide⟩, _, rfl, _, _, rfl, rfl, .inl ⟨by decide, by decide⟩, _, _, rfl, rfl, _, _, rfl, rfl, (by show 3 ≤ sizeLine; decide), fun p hp => ?_⟩
        exact k p _ hp ⟨_, _, 0, upd_same, Int.le_refl _, (hw _).1, (hw _).2, Int.le_refl _, Int.le_refl _⟩ fun c hc => upd_ne hc
    · refine ⟨_, rfl, _, rfl, _, _, rfl, rfl, ⟨by decide, by decide, by decide⟩, _, _, rfl, rfl, _, rfl, ?_⟩
      refine ite2 (fun h3 => ?_) (fun h3 => ?_)
      · refine ⟨_, rfl, _, rfl, ?_⟩
        refine ⟨_, rfl, _, rfl, _, _, rfl, rfl, ⟨by decide, by decide, by decide⟩, _, _, rfl, rfl, _, _, rfl, rfl, (by show (10 ^ Int.toNat 18 + 9 : Int) ≠ 0; decide), _, _, rfl, rfl, .inr ⟨by decide, by decide⟩, _, rfl, _, _, rfl, rfl, .inl ⟨by decide, by decide⟩, _, _, rfl, rfl, _, _, rfl, rfl, (by show 3 ≤ sizeLine; decide), fun p hp => ?_⟩
        exact k p _ hp ⟨_, _, 0, upd_same, ha _, (hw _).1, (hw _).2, Int.le_refl _, Int.le_refl _⟩ fun c hc => upd_ne hc
      · refine ⟨_, rfl, _, rfl, _, _, rfl, rfl, ⟨by decide, by decide, by decide⟩, _, _, rfl, rfl, _, _, rfl, rfl, (by show (10 ^ Int.toNat 18 + 9 : Int) ≠ 0; decide), _, _, rfl, rfl, .inr ⟨by decide, by decide⟩, _, rfl, _, _, rfl, rfl, .inl ⟨by decide, by decide⟩, _, _, rfl, rfl, _, _, rfl, rfl, (by show 3 ≤ sizeLine; decide), fun p hp => ?_⟩
        exact k p _ hp ⟨_, _, 0, upd_same, Int.le_refl _, (hw _).1, (hw _).2, Int.le_refl _, Int.le_refl _⟩ fun c hc => upd_ne hc
end
end Ru
namespace Ru
open PySem L2
theorem put_same {H : Hp} {p : Addr} {o : HO} (h : H p = none) : Same H (upd H p o) := fun b u e => by rw [upd_ne (ne_of_none e h)]; exact e
/-- what was there stands, but for b -/
def OffN (b : Addr) (H H' : Hp) : Prop := ∀ c, H c ≠ none → c ≠ b → H' c = H c
theorem OffN.refl {b : Addr} {H : Hp} : OffN b H H := fun _ _ _ => rfl
theorem OffN.put {b l : Addr} {H H' : Hp} {o : HO} (h : OffN b H H') (hl : H l = none) : OffN b H (upd H' l o) := fun c hc hb => by
  rw [upd_ne (fun z => hc (by rw [z]; exact hl))]
  exact h c hc hb
theorem OffN.step {b : Addr} {H H' H'' : Hp} (h : OffN b H H') (o : Off b H' H'') : OffN b H H'' := fun c hc hb => (o c hb).trans (h c hc hb)
theorem OffN.same {b : Addr} {H H' : Hp} (h : OffN b H H') {c : Addr} {o : HO} (e : H c = some o) (hb : c ≠ b) : H' c = some o := (h c (by rw [e]; simp) hb).trans e
theorem OffN.free {b : Addr} {H H' : Hp} (h : OffN b H H') {c : Addr} (e : H' c = none) (hb : c ≠ b) : H c = none := by
  cases z : H c with
  | none => rfl
  | some o => rw [h.same z hb] at e; cases e
def PairsAt (H : Hp) (ts : List Addr) (rs : List (Int × Int)) : Prop := Paired (fun (t : Addr) (r : Int × Int) => H t = some (.tup [.int r.1, .int r.2])) ts rs
theorem at4 {x0 x1 x2 x3 : Int} {r : Int} (h0 : 0 ≤ r) (h1 : r < 4) : ∃ z, atI [V.int x0, V.int x1, V.int x2, V.int x3] r = some (V.int z) ∧ (z = x0 ∨ z = x1 ∨ z = x2 ∨ z = x3) := by
  rcases (show r = 0 ∨ r = 1 ∨ r = 2 ∨ r = 3 by omega) with q | q | q | q <;> rw [q]
  · exact ⟨x0, rfl, .inl rfl⟩
  · exact ⟨x1, rfl, .inr (.inl rfl)⟩
  · exact ⟨x2, rfl, .inr (.inr (.inl rfl))⟩
  · exact ⟨x3, rfl, .inr (.inr (.inr rfl))⟩
theorem BagAt.le {H : Hp} {b : Addr} {N M : Nat} (h : BagAt H b N) (hn : N ≤ M) : BagAt H b M := by
  obtain ⟨l, x, c, e, a1, a2, a3, a4, a5⟩ := h
  exact ⟨l, x, c, e, a1, a2, a3, a4, by omega⟩
theorem BagAt.put {H : Hp} {b l : Addr} {N : Nat} {o : HO} (h : BagAt H b N) (hl : b ≠ l) : BagAt (upd H l o) b N := by
  obtain ⟨l', x, c, e, r⟩ := h
  exact ⟨l', x, c, by rw [upd_ne hl]; exact e, r⟩
theorem BagAt.ne {H : Hp} {b l : Addr} {N : Nat} (h : BagAt H b N) (hl : H l = none) : b ≠ l := fun z => by
  obtain ⟨_, _, _, e, _⟩ := h
  rw [z, hl] at e
  cases e
theorem BagAt.sameN {H H' : Hp} {b : Addr} {N : Nat} (h : BagAt H b N) (k : Same H H') : BagAt H' b N := by
  obtain ⟨l, x, c, e, r⟩ := h
  exact ⟨l, x, c, k _ _ e, r⟩
theorem offN_same {b : Addr} {H H' : Hp} (k : Same H H') : OffN b H H' := fun c hc _ => by
  cases h : H c with
  | none => exact absurd h hc
  | some o => exact k _ _ h
theorem offN_of {b : Addr} {H H' : Hp} (k : Off b H H') : OffN b H H' := fun c _ hb => k c hb
theorem offN_put {b l : Addr} {H : Hp} {o : HO} (h : H l = none) : OffN b H (upd H l o) := offN_same (put_same h)
theorem OffN.trans {b : Addr} {H H' H'' : Hp} (h : OffN b H H') (k : OffN b H' H'') : OffN b H H'' := fun c hc hb => (k c (by rw [h c hc hb]; exact hc) hb).trans (h c hc hb)
end Ru
namespace Ru
open PySem L2
theorem gfor_range {lo : Int} {n : Nat} {g : TG} {tb : TGn} {D : GEnds} {ys : List V} {σ : L2.St} {H : Hp} (Pv : Nat → List V → L2.St → Hp → Prop) (h0 : Pv 0 ys σ H)
    (hs : ∀ i ys σ H, i < n → Pv i ys σ H → g (.int (lo + i)) σ H fun σ2 H2 => tb { D with nx := Pv (i + 1), ct := Pv (i + 1), bk := D.nx } ys σ2 H2) (hd : ∀ ys σ H, Pv n ys σ H → D.nx ys σ H) :
    ∃ W : Nat → Nat → List V → L2.St → Hp → Prop, (∃ m, W 0 m ys σ H) ∧ ∀ i m ys σ H, W i m ys σ H →
      ((Itr lo n).stop i H ∧ D.nx ys σ H) ∨ ((Itr lo n).go i H ∧ ∃ N : List V → L2.St → Hp → Prop, (∀ ys' σ' H', N ys' σ' H' → ∃ m', m' < m ∧ W (i + 1) m' ys' σ' H') ∧ ∀ x H', (Itr lo n).yld i H x H' → g x σ H' fun σ2 H2 => tb { D with nx := N, ct := N, bk := D.nx } ys σ2 H2) := by
  refine ⟨fun i m ys σ H => m = n - i ∧ i ≤ n ∧ Pv i ys σ H, ⟨n, by simp, Nat.zero_le _, h0⟩, ?_⟩
  rintro i m ys σ H ⟨rfl, hi, p⟩
  by_cases hlt : i < n
  · refine .inr ⟨hlt, Pv (i + 1), fun ys' σ' H' p' => ⟨n - (i + 1), by omega, rfl, hlt, p'⟩, fun x H' y => ?_⟩
    obtain ⟨e, y⟩ := y
    subst e
    subst y
    exact hs i ys σ H' hlt p
  · have e : i = n := by omega
    subst e
    exact .inl ⟨Nat.le_refl _, hd ys σ H p⟩
def wordsI (f : Int) (n : Nat) : List Int := (List.range n).map fun (j : Nat) => f + (j : Int)
theorem wordsI_succ (f : Int) (n : Nat) : (wordsI f (n + 1)).map V.int = (wordsI f n).map V.int ++ [V.int (f + (n : Int))] := by
  unfold wordsI
  rw [List.range_succ, List.map_append, List.map_append]
  rfl
theorem wordsI_len (f : Int) (n : Nat) : (wordsI f n).length = n := by unfold wordsI; rw [List.length_map, List.length_range]
/-- words(): a generator; all that it hands out, if it is drained -/
def spWords (C : Addr) : SpG := fun vs H cont _ => ∃ (p : Addr) (f m : Int), vs = [.ref p] ∧ RunAt C H p f m ∧ 0 ≤ f ∧ f ≤ 2 ^ 60 ∧ 0 ≤ m ∧ m ≤ 100000 ∧ cont ((wordsI f m.toNat).map V.int) H
section
variable {P : Program} {w : World} {K : PySem.W.Frag} {mg : Str → Option Value} {base : Heap} {C : Addr} {mc : Value} {tM : Tok}
theorem scWords : GScope ["self", "word"] ["self"] (defScope sWords) := ⟨rfl, rfl, rfl, by decide +kernel, rfl, by decide +kernel, by decide +kernel⟩
theorem ok_words {f fE pp : Addr} {fd fdE : FuncData} (F : Fun K "words" "Run.words" sWords f fd) (T : TR K mg C mc tM) (GE : FnOk P w K mg base CX0 2 fE fdE ["self"] (spEnd C)) (bE : Binds K fdE ["self"] []) (pE : PropOf K C "end" pp fE) : GFn P w K mg base 4 f fd ["self"] (spWords C) := by
  obtain ⟨oc, od, kV, doc, pm, an, cdv, ct, osl, rfl, lk, hcd⟩ := F.ex
  refine gfn_of lk hcd scWords (fun vs H Q E h => ?_) (fun A outer s H vs Q E pn hr h => ?_)
  · obtain ⟨p, f, m, rfl, _⟩ := h
    rfl
  · obtain ⟨p, f, m, rfl, ⟨dx, hp⟩, f0, f1, m0, m1, k⟩ := h
    refine ⟨_, gss_cons (Gf.gs_for owns_gcx rfl (pi_range2 (by rfl) T.range (pa_cons (pe_fld (pv 0) rfl) (pa_cons (pe_prop (pv 0) T.cl pE GE hr bE .nil pass0 rfl) pa_nil))) (pg_name (i := 1) scWords.nd rfl (Or.inl rfl)) (gss_cons (gs_yield (pv 1)) gss_nil)) gss_nil, ?_⟩
    refine ⟨_, rfl, p, C, dx, _, _, rfl, hp, T.cl, T.nF, rf_f _ _, _, rfl, p, dx, _, rfl, hp, p, f, m, rfl, ⟨dx, hp⟩, ?_⟩
    refine ⟨f, f + m, rfl, ⟨by omega, by omega, by omega, by omega⟩, ?_⟩
    refine gfor_range (lo := f) (n := (f + m - f).toNat) (fun i ys σ H' => ∃ v1 : Option V, σ = [some (.ref p), v1] ∧ ys = (wordsI f i).map V.int ∧ H' = H) ⟨none, rfl, rfl, rfl⟩ ?_ ?_
    · rintro i ys σ H' hi ⟨v1, rfl, rfl, rfl⟩
      refine ⟨?_, _, rfl, _, rfl, (wordsI_succ f i).symm, rfl⟩
      rw [List.length_map, wordsI_len]
      exact Nat.lt_of_lt_of_le (show i < 100000 by omega) (by decide)
    · rintro ys σ H' ⟨v1, rfl, rfl, rfl⟩
      have e : (f + m - f).toNat = m.toNat := by omega
      rw [e]
      exact k
end
end Ru
namespace Ru
open PySem L2
def spOfPage (C : Addr) : Sp := fun vs H Q _ => ∃ (g : Int), vs = [.int g] ∧ 0 ≤ g ∧ 4 * g ≤ Most ∧ ∀ p dx, H p = none → H dx = none → dx ≠ p → Q (.ref p) (upd (upd H dx (.own p)) p (.ins C dx (rf (4 * g) 4)))
/-- the blocks of z words that the run touches -/
def spTouched (C : Addr) : Sp := fun vs H Q _ => ∃ (a : Addr) (f m z : Int), vs = [.ref a, .int z] ∧ RunAt C H a f m ∧ 0 ≤ f ∧ f ≤ Most ∧ 1 ≤ m ∧ m ≤ Most ∧ (z = 2 ∨ z = 4) ∧
  ∀ p dx, H p = none → H dx = none → dx ≠ p → Q (.ref p) (upd (upd H dx (.own p)) p (.ins C dx (rf (f / z) ((f + m - 1) / z + 1 - f / z))))
def spBlocks (C : Addr) (z : Int) : Sp := fun vs H Q _ => ∃ (a : Addr) (f m : Int), vs = [.ref a] ∧ RunAt C H a f m ∧ 0 ≤ f ∧ f ≤ Most ∧ 1 ≤ m ∧ m ≤ Most ∧
  ∀ p dx, H p = none → H dx = none → dx ≠ p → Q (.ref p) (upd (upd H dx (.own p)) p (.ins C dx (rf (f / z) ((f + m - 1) / z + 1 - f / z))))
/-- words(): every item in its turn -/
def spWordsA (C : Addr) : Ga.SpA := fun vs H Q => ∃ (p : Addr) (f m : Int), vs = [.ref p] ∧ RunAt C H p f m ∧ 0 ≤ f ∧ f ≤ 2 ^ 60 ∧ 1 ≤ m ∧ m ≤ 2 ^ 60 ∧ Q f m.toNat H
section
variable {P : Program} {w : World} {K : PySem.W.Frag} {mg : Str → Option Value} {base : Heap} {C : Addr} {mc : Value} {tM : Tok}
theorem scWordsA : GScope ["self", "word"] ["self"] (defScope sWords) := ⟨rfl, rfl, rfl, by decide +kernel, rfl, by decide +kernel, by decide +kernel⟩
theorem ok_wordsA {f fE pp : Addr} {fd fdE : FuncData} (F : Fun K "words" "Run.words" sWords f fd) (T : TR K mg C mc tM) (GE : FnOk P w K mg base CX0 2 fE fdE ["self"] (spEnd C)) (bE : Binds K fdE ["self"] []) (pE : PropOf K C "end" pp fE) : Ga.GFA P w K mg base 4 f fd ["self"] (spWordsA C) := by
  obtain ⟨oc, od, kV, doc, pm, an, cdv, ct, osl, rfl, lk, hcd⟩ := F.ex
  refine Ga.gfa_of (N := ["self", "word"]) lk hcd scWordsA rfl (by decide +kernel) (fun vs H Q h => ?_) (fun A outer s H vs Q hr h => ?_)
  · obtain ⟨p, f, m, rfl, _⟩ := h
    rfl
  · obtain ⟨p, f, m, rfl, ⟨dx, hp⟩, f0, f1, m0, m1, k⟩ := h
    refine ⟨_, prg_2 (by rfl) T.range (pe_fld (pv 0) rfl) (pe_prop (pv 0) T.cl pE GE (hr.mono (by decide)) bE .nil pass0 rfl), ?_⟩
    refine ⟨_, rfl, p, C, dx, _, _, rfl, hp, T.cl, T.nF, rf_f _ _, _, rfl, p, dx, _, rfl, hp, p, f, m, rfl, ⟨dx, hp⟩, f, f + m, rfl, rfl, by omega, by omega, by omega, ?_⟩
    rw [show f + m - f = m by omega]
    exact k
theorem scOfPage : FnScope ["page"] ["page"] (defScope sOfPage) := ⟨rfl, rfl, rfl, by decide +kernel, rfl, by decide +kernel, by decide +kernel⟩
theorem ok_ofpage {f fI : Addr} {fd fdI : FuncData} {u4 : Value} (F : Fun K "of_page" "Run.of_page" sOfPage f fd) (T : TR K mg C mc tM) (cP : ClX.CVal K C mc "PAGE" (.int 4) u4) (M : Mk K C fI) (GI : FnOk P w K mg base CX0 3 fI fdI ["self", "first", "many"] (spInit C)) (bI : Binds K fdI ["self", "first", "many"] []) : FnOk P w K mg base CX0 5 f fd ["page"] (spOfPage C) := by
  refine F.ok scOfPage (fun vs H Q E h => ?_) (fun cdv A outer s H vs Q E hr h => ?_)
  · obtain ⟨g, rfl, _⟩ := h
    rfl
  · obtain ⟨g, rfl, g0, g1, k⟩ := h
    refine ⟨_, pss_one (ps_ret (pe_make M GI hr (by rfl) T.mgC bI .nil pass0 (pa_cons (pe_op op_mul (ClX.pe_cval (pe_glob (v := .ref C) rfl T.mgC rfl)) (pv 0)) (pa_cons (ClX.pe_cval (pe_glob (v := .ref C) rfl T.mgC rfl)) pa_nil)))), ?_⟩
    have e12 : Most = 1000000000000 := by decide
    refine ⟨C, mc, _, _, rfl, T.rd, cP, _, rfl, _, _, rfl, rfl, .inr ⟨by omega, by omega⟩, C, mc, _, _, rfl, T.rd, cP, fun p dx hp hdx ne => ?_⟩
    refine ⟨p, dx, _, _, rfl, upd_same, by omega, g1, by decide, by decide, rfl, ?_⟩
    rw [upd_upd]
    exact k p dx hp hdx ne
theorem scTouched : FnScope ["self", "size"] ["self", "size"] (defScope sTouched) := ⟨rfl, rfl, rfl, by decide +kernel, rfl, by decide +kernel, by decide +kernel⟩
theorem touched_bd {f m z : Int} (f0 : 0 ≤ f) (f1 : f ≤ Most) (m0 : 1 ≤ m) (m1 : m ≤ Most) (hz : z = 2 ∨ z = 4) : 0 ≤ f / z ∧ f / z ≤ Most ∧ 1 ≤ (f + m - 1) / z + 1 - f / z ∧ (f + m - 1) / z + 1 - f / z ≤ Most := by
  have e12 : Most = 1000000000000 := by decide
  rcases hz with rfl | rfl <;> omega
theorem ok_touched {f fE pp fB pB : Addr} {fd fdE : FuncData} (F : Fun K "_touched" "Run._touched" sTouched f fd) (T : TR K mg C mc tM) (GE : FnOk P w K mg base CX0 2 fE fdE ["self"] (spEnd C)) (bE : Binds K fdE ["self"] []) (pE : PropOf K C "end" pp fE) (GB : FnR P w K mg base CX0 5 fB (spBetween C)) (cB : ClX.CMet K C mc "between" pB fB) :
    FnOk P w K mg base CX0 6 f fd ["self", "size"] (spTouched C) := by
  refine F.ok scTouched (fun vs H Q E h => ?_) (fun cdv A outer s H vs Q E hr h => ?_)
  · obtain ⟨a, f, m, z, rfl, _⟩ := h
    rfl
  · obtain ⟨a, f, m, z, rfl, ⟨dx, ha⟩, f0, f1, m0, m1, hz, k⟩ := h
    refine ⟨_, pss_one (ps_ret (ClX.pe_cmeth (pe_glob (v := .ref C) rfl T.mgC rfl) T.rd cB GB hr pass0 (pa_cons (pe_op op_fdiv (pe_fld (pv 0) rfl) (pv 1)) (pa_cons (pe_op op_add (pe_op op_fdiv (pe_op op_sub (pe_prop (pv 0) T.cl pE GE (hr.mono (by decide)) bE .nil pass0 rfl) pe_int) (pv 1)) pe_int) pa_nil)))), ?_⟩
    have bd := touched_bd f0 f1 m0 m1 hz
    have zp : 0 < z ∧ z < 1073741824 := by omega
    refine ⟨rfl, _, rfl, a, C, dx, _, _, rfl, ha, T.cl, T.nF, rf_f _ _, _, rfl, _, _, rfl, rfl, zp, _, rfl, a, dx, _, rfl, ha, a, f, m, rfl, ⟨dx, ha⟩, _, _, rfl, rfl, _, rfl, _, _, rfl, rfl, zp, _, _, rfl, rfl, ?_⟩
    exact ⟨_, _, rfl, bd.1, bd.2.1, bd.2.2.1, bd.2.2.2, k⟩
theorem scTL : FnScope ["self"] ["self"] (defScope sTLines) := ⟨rfl, rfl, rfl, by decide +kernel, rfl, by decide +kernel, by decide +kernel⟩
theorem scTP : FnScope ["self"] ["self"] (defScope sTPages) := ⟨rfl, rfl, rfl, by decide +kernel, rfl, by decide +kernel, by decide +kernel⟩
theorem ok_tlines {f fT : Addr} {fd fdT : FuncData} {u2 : Value} (F : Fun K "touched_lines" "Run.touched_lines" sTLines f fd) (T : TR K mg C mc tM) (cL : ClX.CVal K C mc "LINE" (.int 2) u2) (GT : FnOk P w K mg base CX0 6 fT fdT ["self", "size"] (spTouched C)) (bT : Binds K fdT ["self", "size"] []) (hm : Meth K C "_touched" fT) : FnOk P w K mg base CX0 7 f fd ["self"] (spBlocks C 2) := by
  refine F.ok scTL (fun vs H Q E h => ?_) (fun cdv A outer s H vs Q E hr h => ?_)
  · obtain ⟨a, f, m, rfl, _⟩ := h
    rfl
  · obtain ⟨a, f, m, rfl, ⟨dx, ha⟩, f0, f1, m0, m1, k⟩ := h
    refine ⟨_, pss_one (ps_ret (pe_meth (pv 0) T.cl hm GT hr bT .nil pass0 (pa_cons (ClX.pe_cval (pe_glob (v := .ref C) rfl T.mgC rfl)) pa_nil))), ?_⟩
    exact ⟨_, rfl, a, dx, _, rfl, ha, rf_no _ _ (by decide +kernel) (by decide +kernel), C, mc, _, _, rfl, T.rd, cL, a, f, m, 2, rfl, ⟨dx, ha⟩, f0, f1, m0, m1, .inl rfl, k⟩
theorem ok_tpages {f fT : Addr} {fd fdT : FuncData} {u4 : Value} (F : Fun K "touched_pages" "Run.touched_pages" sTPages f fd) (T : TR K mg C mc tM) (cP : ClX.CVal K C mc "PAGE" (.int 4) u4) (GT : FnOk P w K mg base CX0 6 fT fdT ["self", "size"] (spTouched C)) (bT : Binds K fdT ["self", "size"] []) (hm : Meth K C "_touched" fT) : FnOk P w K mg base CX0 7 f fd ["self"] (spBlocks C 4) := by
  refine F.ok scTP (fun vs H Q E h => ?_) (fun cdv A outer s H vs Q E hr h => ?_)
  · obtain ⟨a, f, m, rfl, _⟩ := h
    rfl
  · obtain ⟨a, f, m, rfl, ⟨dx, ha⟩, f0, f1, m0, m1, k⟩ := h
    refine ⟨_, pss_one (ps_ret (pe_meth (pv 0) T.cl hm GT hr bT .nil pass0 (pa_cons (ClX.pe_cval (pe_glob (v := .ref C) rfl T.mgC rfl)) pa_nil))), ?_⟩
    exact ⟨_, rfl, a, dx, _, rfl, ha, rf_no _ _ (by decide +kernel) (by decide +kernel), C, mc, _, _, rfl, T.rd, cP, a, f, m, 4, rfl, ⟨dx, ha⟩, f0, f1, m0, m1, .inr rfl, k⟩
end
end Ru
namespace Ru
open PySem L2
/-- what isinstance asks of the class -/
structure IsR (K : PySem.W.Frag) (C : Addr) : Prop where
  ha : PySem.W.findIn K (.ref C) "__class__" = some (some (.builtin "object.__class__"))
  hn : PySem.W.specialIn K (.builtin "object.__class__") "__get__" = some (some (.builtin "getset_descriptor.__get__"))
  htk : PySem.W.takesIn K (.builtin "object.__class__") = some true
  hm : PySem.W.mroIn K C (.type "object") = some true
theorem kit_self {K : PySem.W.Frag} {C : Addr} : PySem.W.kitOne K (.ref C) (.ref C) = some true := by
  unfold PySem.W.kitOne
  rw [if_pos (by simp)]
/-- a run beside anything -/
def spEqA (K : PySem.W.Frag) (C : Addr) : Sp := fun vs H Q _ => ∃ (a : Addr) (f m : Int) (y : V), vs = [.ref a, y] ∧ RunAt C H a f m ∧
  ((∃ (b : Addr) (g n : Int), y = .ref b ∧ RunAt C H b g n ∧ Q (.bl (decide (f = g ∧ m = n))) H) ∨ ∃ t, TyX K H y t ∧ PySem.W.kitOne K t (.ref C) = some false ∧ Q (.bl false) H)
def spLen (C : Addr) : Sp := fun vs H Q _ => ∃ (a : Addr) (f m : Int), vs = [.ref a] ∧ RunAt C H a f m ∧ 0 ≤ m ∧ m < 2 ^ 62 ∧ Q (.int m) H
abbrev lo (f g : Int) : Int := if g > f then g else f
abbrev hi (e h : Int) : Int := if h < e then h else e
def spAnd (C : Addr) : Sp := fun vs H Q _ => ∃ (a b : Addr) (f m g n : Int), vs = [.ref a, .ref b] ∧ RunAt C H a f m ∧ RunAt C H b g n ∧ 0 ≤ f ∧ f ≤ Most ∧ m ≤ Most ∧ 0 ≤ g ∧ g ≤ Most ∧ n ≤ Most ∧
  (lo f g < hi (f + m) (g + n) → ∀ p dx, H p = none → H dx = none → dx ≠ p → Q (.ref p) (upd (upd H dx (.own p)) p (.ins C dx (rf (lo f g) (hi (f + m) (g + n) - lo f g))))) ∧ (¬ lo f g < hi (f + m) (g + n) → Q .non H)
section
variable {P : Program} {w : World} {K : PySem.W.Frag} {mg : Str → Option Value} {base : Heap} {C : Addr} {mc : Value} {tM : Tok}
theorem scEq : FnScope ["self", "other"] ["self", "other"] (defScope sEq) := ⟨rfl, rfl, rfl, by decide +kernel, rfl, by decide +kernel, by decide +kernel⟩
theorem ok_eq {f : Addr} {fd : FuncData} (F : Fun K "__eq__" "Run.__eq__" sEq f fd) (T : TR K mg C mc tM) (Z : IsR K C) : FnOk P w K mg base CX0 2 f fd ["self", "other"] (spEqA K C) := by
  refine F.ok scEq (fun vs H Q E h => ?_) (fun cdv A outer s H vs Q E hr h => ?_)
  · obtain ⟨a, f, m, y, rfl, _⟩ := h
    rfl
  · obtain ⟨a, f, m, y, rfl, ⟨dx, ha⟩, k⟩ := h
    refine ⟨_, pss_one (ps_ret (pe_and (pe_callB call_isi (by rfl) T.isi (by decide +kernel) (pa_cons (pv 1) (pa_cons (pe_glob (v := .ref C) rfl T.mgC rfl) pa_nil)))
      (pe_and (pe_cmpR op_eq (pe_fld (pv 0) rfl) (pe_fld (pv 1) rfl) (nomark _)) (pe_one (pe_cmpR op_eq (pe_fld (pv 0) rfl) (pe_fld (pv 1) rfl) (nomark _)))))), ?_⟩
    rcases k with ⟨b, g, n, rfl, ⟨dy, hb⟩, k⟩ | ⟨t, ty, hk, k⟩
    · refine ⟨_, rfl, _, _, .ref C, .ref C, true, rfl, .own C, .base (.ins hb T.cl Z.ha Z.hn Z.htk Z.hm), kit_self, true, rfl, iteT ?_⟩
      refine ⟨_, rfl, a, C, dx, _, _, rfl, ha, T.cl, T.nF, rf_f _ _, _, rfl, b, C, dy, _, _, rfl, hb, T.cl, T.nF, rf_f _ _, rfl, _, rfl, ?_⟩
      by_cases hfg : f = g
      · subst hfg
        rw [show decide (V.int f = V.int f) = true from decide_eq_true rfl]
        refine iteT ⟨_, rfl, a, C, dx, _, _, rfl, ha, T.cl, T.nM, rf_m _ _, _, rfl, b, C, dy, _, _, rfl, hb, T.cl, T.nM, rf_m _ _, rfl, ?_⟩
        have e : decide (f = f ∧ m = n) = decide (V.int m = V.int n) := by
          by_cases z : m = n
          · rw [z]; simp
          · rw [decide_eq_false (fun q => z q.2), decide_eq_false (fun q => z (by cases q; rfl))]
        rw [e] at k
        exact k
      · rw [show decide (V.int f = V.int g) = false from decide_eq_false (fun q => hfg (by cases q; rfl))]
        refine iteF ?_
        rw [show decide (f = g ∧ m = n) = false from decide_eq_false (fun q => hfg q.1)] at k
        exact k
    · refine ⟨_, rfl, _, _, t, .ref C, false, rfl, .own C, ty, hk, false, rfl, iteF ?_⟩
      exact k
theorem scLen : FnScope ["self"] ["self"] (defScope sLen) := ⟨rfl, rfl, rfl, by decide +kernel, rfl, by decide +kernel, by decide +kernel⟩
theorem ok_len {f : Addr} {fd : FuncData} (F : Fun K "__len__" "Run.__len__" sLen f fd) (T : TR K mg C mc tM) (hlen : mg "len" = none) : FnOk P w K mg base CX0 2 f fd ["self"] (spLen C) := by
  refine F.ok scLen (fun vs H Q E h => ?_) (fun cdv A outer s H vs Q E hr h => ?_)
  · obtain ⟨a, f, m, rfl, _⟩ := h
    rfl
  · obtain ⟨a, f, m, rfl, ⟨dx, ha⟩, m0, m1, k⟩ := h
    refine ⟨_, pss_one (ps_ret (Lr.pe_lenRg (by rfl) hlen (prg_1 (by rfl) T.range (pe_fld (pv 0) rfl)))), ?_⟩
    refine ⟨_, rfl, a, C, dx, _, _, rfl, ha, T.cl, T.nM, rf_m _ _, m, rfl, by omega, by omega, ?_⟩
    rw [Int.sub_zero]
    exact k
theorem scAnd : FnScope ["self", "other", "first", "end"] ["self", "other"] (defScope sAnd) := ⟨rfl, rfl, rfl, by decide +kernel, rfl, by decide +kernel, by decide +kernel⟩
theorem ok_and {f fI fE pp : Addr} {fd fdI fdE : FuncData} (F : Fun K "__and__" "Run.__and__" sAnd f fd) (T : TR K mg C mc tM) (hmax : mg "max" = none) (hmin : mg "min" = none) (M : Mk K C fI) (GI : FnOk P w K mg base CX0 3 fI fdI ["self", "first", "many"] (spInit C)) (bI : Binds K fdI ["self", "first", "many"] [])
    (GE : FnOk P w K mg base CX0 2 fE fdE ["self"] (spEnd C)) (bE : Binds K fdE ["self"] []) (pE : PropOf K C "end" pp fE) : FnOk P w K mg base CX0 5 f fd ["self", "other"] (spAnd C) := by
  refine F.ok scAnd (fun vs H Q E h => ?_) (fun cdv A outer s H vs Q E hr h => ?_)
  · obtain ⟨a, b, f, m, g, n, rfl, _⟩ := h
    rfl
  · obtain ⟨a, b, f, m, g, n, rfl, ⟨dx, ha⟩, ⟨dy, hb⟩, f0, f1, m1, g0, g1, n1, k1, k2⟩ := h
    have hr1 : Room 3 _ := hr.mono (by decide)
    refine ⟨_, pss_cons (ps_set (i := 2) scAnd.nd rfl (Or.inl rfl) (pe_callB (call_max2 rfl) (by rfl) hmax (by decide +kernel) (pa_cons (pe_fld (pv 0) rfl) (pa_cons (pe_fld (pv 1) rfl) pa_nil))))
      (pss_cons (ps_set (i := 3) scAnd.nd rfl (Or.inl rfl) (pe_callB (call_min2 rfl) (by rfl) hmin (by decide +kernel) (pa_cons (pe_prop (pv 0) T.cl pE GE hr1 bE .nil pass0 rfl) (pa_cons (pe_prop (pv 1) T.cl pE GE hr1 bE .nil pass0 rfl) pa_nil))))
      (pss_cons (ps_if (pt_cmpR op_lt (pv 2) (pv 3) (nomark _)) (pss_one (ps_ret (pe_make M GI hr (by rfl) T.mgC bI .nil pass0 (pa_cons (pv 2) (pa_cons (pe_op op_sub (pv 3) (pv 2)) pa_nil))))) pss_nil)
      (pss_one (ps_ret pe_non)))), ?_⟩
    refine ⟨_, rfl, a, C, dx, _, _, rfl, ha, T.cl, T.nF, rf_f _ _, _, rfl, b, C, dy, _, _, rfl, hb, T.cl, T.nF, rf_f _ _, _, _, rfl, ?_⟩
    refine ⟨_, rfl, a, dx, _, rfl, ha, a, f, m, rfl, ⟨dx, ha⟩, _, rfl, b, dy, _, rfl, hb, b, g, n, rfl, ⟨dy, hb⟩, _, _, rfl, ?_⟩
    refine ⟨_, rfl, _, rfl, _, _, rfl, rfl, _, rfl, ?_⟩
    refine ite2 (fun h1 => ?_) (fun h1 => ?_)
    · have h2 : lo f g < hi (f + m) (g + n) := of_decide_eq_true h1
      refine ⟨_, rfl, _, rfl, _, rfl, _, _, rfl, rfl, fun p dp hp hdp ne => ?_⟩
      have bb : 0 ≤ lo f g ∧ lo f g ≤ Most ∧ 1 ≤ hi (f + m) (g + n) - lo f g ∧ hi (f + m) (g + n) - lo f g ≤ Most := by
        by_cases q1 : g > f <;> by_cases q2 : g + n < f + m <;> simp only [lo, hi, q1, q2, if_true, if_false] at h2 ⊢ <;> omega
      refine ⟨p, dp, _, _, rfl, upd_same, bb.1, bb.2.1, bb.2.2.1, bb.2.2.2, rfl, ?_⟩
      rw [upd_upd]
      exact k1 h2 p dp hp hdp ne
    · have h2 : ¬ lo f g < hi (f + m) (g + n) := of_decide_eq_false (by simpa using h1)
      exact k2 h2
end
end Ru
namespace Ru
open PySem L2
abbrev sLShown : Stmt := top 12
abbrev sLBlocks : Stmt := top 13
def TupAt (H : Hp) (t : Addr) (f m : Int) : Prop := H t = some (.tup [.int f, .int m])
def RunsAt (C : Addr) (H : Hp) (as : List Addr) (rs : List (Int × Int)) : Prop := Paired (fun (a : Addr) (r : Int × Int) => RunAt C H a r.1 r.2) as rs
theorem RunAt.same {C p : Addr} {H H' : Hp} {f m : Int} (r : RunAt C H p f m) (s : Same H H') : RunAt C H' p f m := r.imp fun d e => s _ _ e
theorem RunsAt.same {C : Addr} {H H' : Hp} {as : List Addr} {rs : List (Int × Int)} (h : RunsAt C H as rs) (k : Same H H') : RunsAt C H' as rs := L2.Paired.mapP h fun a r z => RunAt.same z k
theorem PairsAt.same {H H' : Hp} {ts : List Addr} {rs : List (Int × Int)} (h : PairsAt H ts rs) (k : Same H H') : PairsAt H' ts rs := L2.Paired.mapP h fun a r z => k _ _ z
theorem paired_snoc {α β : Type} {F : α → β → Prop} {x : α} {y : β} (r : F x y) : ∀ {xs : List α} {ys : List β}, Paired F xs ys → Paired F (xs ++ [x]) (ys ++ [y])
  | _, _, .nil => .cons r .nil
  | _, _, .cons a t => .cons a (paired_snoc r t)
theorem paired_len {α β : Type} {F : α → β → Prop} : ∀ {xs : List α} {ys : List β}, Paired F xs ys → xs.length = ys.length
  | _, _, .nil => rfl
  | _, _, .cons _ t => by rw [List.length_cons, List.length_cons, paired_len t]
theorem paired_ith {α β : Type} {F : α → β → Prop} : ∀ {xs : List α} {ys : List β}, Paired F xs ys → ∀ {i : Nat} {x : α} {y : β}, xs[i]? = some x → ys[i]? = some y → F x y
  | _, _, .nil, i, x, y, h, _ => by simp at h
  | _, _, .cons r t, 0, x, y, h, k => by
    have e := Option.some.inj h
    have e2 := Option.some.inj k
    subst e; subst e2
    exact r
  | _, _, .cons r t, i + 1, x, y, h, k => paired_ith t (i := i) h k
theorem run_new {C p dx : Addr} {H : Hp} {f m : Int} (hp : H p = none) (hdx : H dx = none) (ne : dx ≠ p) : Same H (upd (upd H dx (.own p)) p (.ins C dx (rf f m))) ∧ RunAt C (upd (upd H dx (.own p)) p (.ins C dx (rf f m))) p f m := by
  refine ⟨fun c o e => ?_, dx, upd_same⟩
  rw [upd_ne (ne_of_none e hp), upd_ne (ne_of_none e hdx)]
  exact e
/-! ### pairs as data -/
theorem dp2 {K : PySem.W.Frag} {H : Hp} {t : Addr} {f m : Int} (h : TupAt H t f m) : Dp K H (.ref t) (.tuple [.int f, .int m]) := .tup (SqT.of h) (.cons (.int f) (.cons (.int m) .nil))
def dPr (r : Int × Int) : PyData := .tuple [.int r.1, .int r.2]
def dPairs (rs : List (Int × Int)) : PyData := .list (rs.map dPr)
theorem dpall_pairs {K : PySem.W.Frag} {H : Hp} : ∀ {ts : List Addr} {rs : List (Int × Int)}, PairsAt H ts rs → DpAll K H (ts.map V.ref) (rs.map dPr)
  | _, _, .nil => .nil
  | _, _, .cons h t => .cons (dp2 h) (dpall_pairs t)
theorem canlay_pairs : ∀ rs : List (Int × Int), PyData.canLayAll0 (rs.map dPr) = true
  | [] => rfl
  | x :: xs => by
    rw [List.map_cons, PyData.canLayAll0, canlay_pairs xs]
    rfl
theorem depth_pairs : ∀ rs : List (Int × Int), PyData.depthAll (rs.map dPr) ≤ 1
  | [] => Nat.zero_le _
  | x :: xs => by
    rw [List.map_cons, PyData.depthAll]
    exact Nat.max_le.mpr ⟨Nat.le_refl _, depth_pairs xs⟩
theorem shaped_pairs (rs : List (Int × Int)) : SeqAt.shaped (dPairs rs) = true := by
  unfold SeqAt.shaped dPairs
  rw [PyData.canLay0, canlay_pairs, PyData.depth, Bool.true_and]
  have := depth_pairs rs
  exact decide_eq_true (by omega)
theorem dp_pairs {K : PySem.W.Frag} {H : Hp} {a : Addr} {ts : List Addr} {rs : List (Int × Int)} (h : SqL K H a (ts.map V.ref)) (p : PairsAt H ts rs) : Dp K H (.ref a) (dPairs rs) := .lst h (dpall_pairs p)
/-! ### ints in a row -/
theorem rg_words (a b : Int) : rgV a b = (wordsI a (b - a).toNat).map V.int := by
  unfold rgV wordsI
  rw [List.map_map]
  rfl
theorem words_at {f : Int} {n j : Nat} (h : j < n) : ((wordsI f n).map V.int)[j]? = some (V.int (f + (j : Int))) := by
  unfold wordsI
  rw [List.getElem?_map, List.getElem?_map, List.getElem?_range h]
  rfl
theorem words_at' {f : Int} {n i : Nat} {x : V} (h : ((wordsI f n).map V.int)[i]? = some x) : i < n ∧ x = V.int (f + (i : Int)) := by
  have hi : i < n := by
    have := (List.getElem?_eq_some_iff.mp h).1
    rw [List.length_map, wordsI_len] at this
    exact this
  rw [words_at hi] at h
  exact ⟨hi, (Option.some.inj h).symm⟩
theorem flat_words (f : Int) (n : Nat) : ((wordsI f n).map V.int).all flatV = true := by
  rw [List.all_eq_true]
  intro x hx
  obtain ⟨v, _, rfl⟩ := List.mem_map.mp hx
  rfl
theorem inV_words (a w : Int) : ∀ n : Nat, inV (.int w) ((wordsI a n).map V.int) = decide (a ≤ w ∧ w < a + (n : Int))
  | 0 => by
    symm
    exact decide_eq_false (by omega)
  | n + 1 => by
    have ih := inV_words a w n
    unfold inV at ih ⊢
    rw [wordsI_succ, List.any_append, ih]
    show (decide (a ≤ w ∧ w < a + (n : Int)) || ((a + (n : Int) == w) || false)) = _
    by_cases h : a + (n : Int) = w
    · rw [beq_iff_eq.mpr h, Bool.true_or, Bool.or_true]
      exact (decide_eq_true (by omega)).symm
    · rw [beq_false_of_ne h, Bool.or_false, Bool.or_false]
      exact decide_eq_decide.mpr ⟨fun z => by omega, fun z => by omega⟩
/-! ### the law's helpers -/
def spLShown (C : Addr) : Sp := fun vs H Q _ => ∃ (p : Addr) (f m : Int), vs = [.ref p] ∧ RunAt C H p f m ∧ ∀ q, H q = none → Q (.ref q) (upd H q (.tup [.int f, .int m]))
def spLBlocks (K : PySem.W.Frag) : Sp := fun vs H Q _ => ∃ (a : Addr) (f m z : Int), vs = [.ref a, .int z] ∧ SqL K H a ((wordsI f m.toNat).map V.int) ∧ 0 ≤ f ∧ f ≤ 2 ^ 50 ∧ 1 ≤ m ∧ m ≤ 100000 ∧ (z = 2 ∨ z = 4) ∧
  ∀ t H', Same H H' → TupAt H' t (f / z) ((f + m - 1) / z + 1 - f / z) → Q (.ref t) H'
/-- how many blocks the first i words are in -/
def cnt (f z : Int) (i : Nat) : Nat := if i = 0 then 0 else ((f + (i : Int) - 1) / z + 1 - f / z).toNat
theorem cnt_step {f z : Int} {i : Nat} (f0 : 0 ≤ f) (hz : z = 2 ∨ z = 4) :
    (f / z ≤ (f + (i : Int)) / z ∧ (f + (i : Int)) / z < f / z + (cnt f z i : Int) → cnt f z (i + 1) = cnt f z i) ∧ (¬ (f / z ≤ (f + (i : Int)) / z ∧ (f + (i : Int)) / z < f / z + (cnt f z i : Int)) → cnt f z (i + 1) = cnt f z i + 1 ∧ (f + (i : Int)) / z = f / z + (cnt f z i : Int)) := by
  unfold cnt
  rw [if_neg (Nat.succ_ne_zero i)]
  by_cases h : i = 0
  · subst h
    rw [if_pos rfl]
    rcases hz with rfl | rfl <;> refine ⟨fun q => ?_, fun q => ⟨?_, ?_⟩⟩ <;> omega
  · rw [if_neg h]
    rcases hz with rfl | rfl <;> refine ⟨fun q => ?_, fun q => ⟨?_, ?_⟩⟩ <;> omega
theorem cnt_le {f z : Int} {i : Nat} (f0 : 0 ≤ f) (hz : z = 2 ∨ z = 4) : cnt f z i ≤ i := by
  unfold cnt
  by_cases h : i = 0
  · rw [if_pos h]; omega
  · rw [if_neg h]
    rcases hz with rfl | rfl <;> omega
theorem cnt_end {f m z : Int} (f0 : 0 ≤ f) (m0 : 1 ≤ m) (hz : z = 2 ∨ z = 4) : (cnt f z m.toNat : Int) = (f + m - 1) / z + 1 - f / z ∧ 1 ≤ cnt f z m.toNat := by
  unfold cnt
  rw [if_neg (by omega)]
  have e : ((m.toNat : Nat) : Int) = m := by omega
  rw [e]
  rcases hz with rfl | rfl <;> omega
theorem at_last {a : Int} {n : Nat} (h : 1 ≤ n) : atI ((wordsI a n).map V.int) (-1) = some (V.int (a + (n : Int) - 1)) := by
  have hl : ((wordsI a n).map V.int).length = n := by rw [List.length_map, wordsI_len]
  unfold atI ixN
  rw [hl, if_neg (by decide), if_pos (by omega)]
  show ((wordsI a n).map V.int)[(-1 + (n : Int)).toNat]? = _
  rw [words_at (by omega)]
  congr 2
  omega
section
variable {P : Program} {w : World} {K : PySem.W.Frag} {mg : Str → Option Value} {base : Heap} {C : Addr} {mc : Value} {tM : Tok}
theorem scLShown : FnScope ["_law_run"] ["_law_run"] (defScope sLShown) := ⟨rfl, rfl, rfl, by decide +kernel, rfl, by decide +kernel, by decide +kernel⟩
theorem ok_lshown {f : Addr} {fd : FuncData} (F : Fun K "_law_shown" "_law_shown" sLShown f fd) (T : TR K mg C mc tM) : FnOk P w K mg base CX0 2 f fd ["_law_run"] (spLShown C) := by
  refine F.ok scLShown (fun vs H Q E h => ?_) (fun cdv A outer s H vs Q E hr h => ?_)
  · obtain ⟨p, f, m, rfl, _⟩ := h
    rfl
  · obtain ⟨p, f, m, rfl, ⟨dx, hp⟩, k⟩ := h
    refine ⟨_, pss_one (ps_ret (pe_tup (pa_cons (pe_fld (pv 0) rfl) (pa_cons (pe_fld (pv 0) rfl) pa_nil)))), ?_⟩
    exact ⟨_, rfl, p, C, dx, _, _, rfl, hp, T.cl, T.nF, rf_f _ _, _, rfl, p, C, dx, _, _, rfl, hp, T.cl, T.nM, rf_m _ _, (by show 2 ≤ sizeLine; decide), k⟩
theorem scLBlocks : FnScope ["_law_words", "_law_size", "_law_found", "_law_word"] ["_law_words", "_law_size"] (defScope sLBlocks) := ⟨rfl, rfl, rfl, by decide +kernel, rfl, by decide +kernel, by decide +kernel⟩
theorem ok_lblocks {f : Addr} {fd : FuncData} (F : Fun K "_law_blocks" "_law_blocks" sLBlocks f fd) (B : TB mg) : FnOk P w K mg base CX0 2 f fd ["_law_words", "_law_size"] (spLBlocks K) := by
  refine F.ok scLBlocks (fun vs H Q E h => ?_) (fun cdv A outer s H vs Q E hr h => ?_)
  · obtain ⟨a, f, m, z, rfl, _⟩ := h
    rfl
  · obtain ⟨a, f, m, z, rfl, ha, f0, f1, m0, m1, hz, k⟩ := h
    refine ⟨_, pss_cons (ps_set (i := 2) scLBlocks.nd rfl (Or.inl rfl) (pe_lst pa_nil))
      (pss_cons (ps_for PassesOwn.never rfl (pi_list (pv 0)) (pg_name (i := 3) scLBlocks.nd rfl (Or.inl rfl))
        (pss_one (ps_if (pt_cmpR op_notIn_seq (pe_op op_fdiv (pv 3) (pv 1)) (pv 2) (by rfl)) (pss_one (ps_expr (pe_bm PySem.F.plainAttrs_list PySem.F.slot_list_append PySem.F.type_list_append mt_append (pv 2) (pa_cons (pe_op op_fdiv (pv 3) (pv 1)) pa_nil)))) pss_nil)))
      (pss_one (ps_ret (pe_ifExp (pt_cmpR (op_eqD hr.units) (pv 2) (pe_listRg rfl (by rfl) B.list (prg_2 (by rfl) B.range (pe_ix ix_list (pv 2) pe_int (fun _ _ => rfl)) (pe_op op_add (pe_ix ix_list (pv 2) (pe_un un_neg pe_int) (fun _ _ => rfl)) pe_int))) (nomark _))
        (pe_tup (pa_cons (pe_ix ix_list (pv 2) pe_int (fun _ _ => rfl)) (pa_cons (pe_callB call_len_seq (by rfl) B.len PySem.boot_len (pa_cons (pv 2) pa_nil)) pa_nil))) pe_str)))), ?_⟩
    refine ⟨Nat.zero_le _, fun l hl => ?_⟩
    have zp : 0 < z ∧ z < 1073741824 := by omega
    refine ⟨_, rfl, a, rfl, ⟨(wordsI f m.toNat).map V.int, (put_same hl).seq ha⟩, for_list (K := K) (a := a) (xs := (wordsI f m.toNat).map V.int) (fun i σ H' => ∃ v3 : Option V, σ = [some (.ref a), some (.int z), some (.ref l), v3] ∧ Same H H' ∧ H' l = some (.lst ((wordsI (f / z) (cnt f z i)).map V.int))) ⟨none, rfl, put_same hl, upd_same⟩ ?_ ?_ ?_⟩
    · rintro i σ H' _ ⟨v3, rfl, s1, _⟩
      exact s1.seq ha
    · rintro i x σ H' hx ⟨v3, rfl, s1, h1⟩
      obtain ⟨hi, rfl⟩ := words_at' hx
      have cs := cnt_step (f := f) (z := z) (i := i) f0 hz
      refine ⟨_, rfl, _, rfl, _, _, rfl, rfl, zp, _, rfl, l, _, rfl, .inl (SqL.of h1), rfl, flat_words _ _, _, rfl, ?_⟩
      rw [inV_words]
      refine ite2 (fun q => ?_) (fun q => ?_)
      · have q' : ¬ (f / z ≤ (f + (i : Int)) / z ∧ (f + (i : Int)) / z < f / z + (cnt f z i : Int)) := fun zz => by
          rw [decide_eq_true zz] at q
          cases q
        obtain ⟨c1, c2⟩ := cs.2 q'
        refine ⟨_, rfl, .inl ⟨rfl, _, SqL.of h1⟩, _, rfl, _, rfl, _, _, rfl, rfl, zp, l, _, _, rfl, rfl, h1, ?_, ?_⟩
        · rw [List.length_map, wordsI_len]
          have := cnt_le (f := f) (z := z) (i := i) f0 hz
          exact Nat.lt_of_lt_of_le (show cnt f z i < 100001 by omega) (by decide)
        · refine ⟨_, rfl, fun c o e => ?_, ?_⟩
          · rw [upd_ne (ne_of_none e hl)]
            exact s1 c o e
          · rw [upd_same, c1, wordsI_succ, ← c2]
      · have q' : f / z ≤ (f + (i : Int)) / z ∧ (f + (i : Int)) / z < f / z + (cnt f z i : Int) := of_decide_eq_true (by simpa using q)
        refine ⟨_, rfl, s1, ?_⟩
        rw [cs.1 q']
        exact h1
    · rintro σ H' ⟨v3, rfl, s1, h1⟩
      rw [List.length_map, wordsI_len] at h1
      obtain ⟨ce, c1⟩ := cnt_end (f := f) (m := m) (z := z) f0 m0 hz
      generalize cnt f z m.toNat = n at ce c1 h1
      have hz0 : atI ((wordsI (f / z) n).map V.int) 0 = some (.int (f / z)) := by
        refine at_of (j := 0) rfl ?_
        rw [words_at (by omega)]
        simp
      have bb : 0 ≤ f / z ∧ f / z ≤ 2 ^ 50 ∧ (n : Int) ≤ 100000 := by
        rcases hz with rfl | rfl <;> omega
      refine ⟨_, rfl, _, rfl, l, _, _, _, rfl, rfl, SqL.of h1, hz0, _, rfl, _, rfl, l, _, _, _, rfl, rfl, SqL.of h1, at_last c1, _, _, rfl, rfl, _, _, rfl, rfl, ⟨by omega, by omega, by omega, by omega, by omega⟩, fun l2 hl2 => ?_⟩
      have s2 : Same H' (upd H' l2 (.lst (rgV (f / z) (f / z + (n : Int) - 1 + 1)))) := put_same hl2
      have h2 : (upd H' l2 (.lst (rgV (f / z) (f / z + (n : Int) - 1 + 1)))) l2 = some (.lst ((wordsI (f / z) n).map V.int)) := by
        rw [upd_same, rg_words]
        congr 5
        omega
      generalize (upd H' l2 (.lst (rgV (f / z) (f / z + (n : Int) - 1 + 1)))) = H2 at s2 h2 ⊢
      refine ⟨_, _, dp_ints (SqL.of (s2 _ _ h1)), dp_ints (SqL.of h2), shaped_ints _, shaped_ints _, ?_⟩
      rw [eqv_ints]
      refine ⟨_, rfl, iteT ⟨_, rfl, l, _, _, _, rfl, rfl, SqL.of (s2 _ _ h1), hz0, _, rfl, l, _, rfl, .inl (SqL.of (s2 _ _ h1)), (by show 2 ≤ sizeLine; decide), fun t ht => ?_⟩⟩
      rw [List.length_map, wordsI_len, ce]
      exact k t _ ((s1.trans s2).trans (put_same ht)) upd_same
end
end Ru
namespace Ru
open PySem L2
theorem lc_rangeC {lo c : Int} {n : Nat} {g : TG} {tt : TT} {te : TE} {vs : List Nat} {σ : L2.St} {H1 : Hp} {D : Addr} {Qd : Hp → Prop} (Pv : Nat → Hp → Prop) (h0 : Pv 0 (upd H1 D (.lst [])))
    (hs : ∀ i H, i < n → Pv i H → g (.int (lo + (i : Nat) * c)) (wipe σ vs) H fun σ2 H2 => wipe σ2 vs = wipe σ vs ∧ tt σ2 H2 fun b H3 =>
      if b = true then te σ2 H3 fun y H4 => ∃ acc, H4 D = some (.lst acc) ∧ acc.length < sizeLine ∧ Pv (i + 1) (upd H4 D (.lst (acc ++ [y]))) else Pv (i + 1) H3) (hd : ∀ H, Pv n H → Qd H) :
    ∃ W : Nat → Nat → Hp → Prop, (∃ m, W 0 m (upd H1 D (.lst []))) ∧ ∀ i m H, W i m H →
      ((Itc lo c n).stop i H ∧ Qd H) ∨ ((Itc lo c n).go i H ∧ ∃ Nx : Hp → Prop, (∀ H', Nx H' → ∃ m', m' < m ∧ W (i + 1) m' H') ∧ ∀ x H', (Itc lo c n).yld i H x H' → g x (wipe σ vs) H' fun σ2 H2 => wipe σ2 vs = wipe σ vs ∧ tt σ2 H2 fun b H3 =>
        if b = true then te σ2 H3 fun y H4 => ∃ acc, H4 D = some (.lst acc) ∧ acc.length < sizeLine ∧ Nx (upd H4 D (.lst (acc ++ [y]))) else Nx H3) := by
  refine ⟨fun i m H => m = n - i ∧ i ≤ n ∧ Pv i H, ⟨n, by simp, Nat.zero_le _, h0⟩, ?_⟩
  rintro i m H ⟨rfl, hi, p⟩
  by_cases hlt : i < n
  · refine .inr ⟨hlt, Pv (i + 1), fun H' p' => ⟨n - (i + 1), by omega, rfl, hlt, p'⟩, fun x H' y => ?_⟩
    obtain ⟨e, y⟩ := y
    subst e y
    exact hs i _ hlt p
  · have e : i = n := by omega
    subst e
    exact .inl ⟨Nat.le_refl _, hd H p⟩
theorem rgC4 {f m : Int} (f0 : 0 ≤ f) (f1 : f ≤ 2 ^ 50) (m0 : 1 ≤ m) (m1 : m ≤ 100000) : RgC (f / 4 * 4) (f + m) 4 ((f + m - 1) / 4 + 1 - f / 4).toNat := by
  have e : Builtin.Range.rangeSize (f / 4 * 4) (f + m) 4 = ((((f + m - 1) / 4 + 1 - f / 4).toNat : Nat) : Int) := by
    unfold Builtin.Range.rangeSize
    rw [if_pos (by decide), if_pos (by omega)]
    omega
  refine ⟨by decide, by decide, ?_, e⟩
  unfold Builtin.Range.small
  rw [e]
  simp only [Builtin.Range.rangeFitsLong, Bool.and_eq_true, Bool.or_eq_true, decide_eq_true_eq, beq_iff_eq, show (4 : Int) > 0 by decide, if_true]
  omega
end Ru
namespace Ru
open PySem L2
def rows {α : Type} (F : Nat → α) (n : Nat) : List α := (List.range n).map F
theorem rows_succ {α : Type} (F : Nat → α) (n : Nat) : rows F (n + 1) = rows F n ++ [F n] := by
  unfold rows
  rw [List.range_succ, List.map_append]
  rfl
theorem rows_len {α : Type} (F : Nat → α) (n : Nat) : (rows F n).length = n := by unfold rows; rw [List.length_map, List.length_range]
theorem rows_at {α : Type} (F : Nat → α) {n j : Nat} (h : j < n) : (rows F n)[j]? = some (F j) := by
  unfold rows
  rw [List.getElem?_map, List.getElem?_range h]
  rfl
/-- the pages that the words from f on are in, each as a run -/
def pgF (f : Int) (j : Nat) : Int × Int := (f / 4 * 4 + (j : Int) * 4, 4)
/-- .. and what of them the run has -/
def anF (f m : Int) (j : Nat) : Int × Int := (lo (f / 4 * 4 + (j : Int) * 4) f, hi (f / 4 * 4 + (j : Int) * 4 + 4) (f + m) - lo (f / 4 * 4 + (j : Int) * 4) f)
def npg (f m : Int) : Nat := ((f + m - 1) / 4 + 1 - f / 4).toNat
theorem npg_int {f m : Int} (f0 : 0 ≤ f) (m0 : 1 ≤ m) : (npg f m : Int) = (f + m - 1) / 4 + 1 - f / 4 ∧ 1 ≤ npg f m ∧ (npg f m : Int) ≤ m + 1 := by
  unfold npg
  omega
theorem an_ok {f m : Int} {j : Nat} (f0 : 0 ≤ f) (m0 : 1 ≤ m) (hj : j < npg f m) : lo (f / 4 * 4 + (j : Int) * 4) f < hi (f / 4 * 4 + (j : Int) * 4 + 4) (f + m) ∧ 0 ≤ f / 4 * 4 + (j : Int) * 4 ∧ f / 4 * 4 + (j : Int) * 4 < f + m ∧ (anF f m j).2 ≤ 4 := by
  have e := (npg_int f0 m0).1
  have hj' : (j : Int) < (npg f m : Int) := by omega
  rw [e] at hj'
  unfold anF lo hi
  refine ⟨?_, by omega, by omega, ?_⟩
  · split <;> split <;> omega
  · show (if f + m < f / 4 * 4 + (j : Int) * 4 + 4 then f + m else f / 4 * 4 + (j : Int) * 4 + 4) - (if f > f / 4 * 4 + (j : Int) * 4 then f else f / 4 * 4 + (j : Int) * 4) ≤ 4
    split <;> split <;> omega
theorem sum_snoc : ∀ (l : List Int) (x : Int), (l ++ [x]).sum = l.sum + x
  | [], x => by simp
  | y :: l, x => by
    rw [List.cons_append, List.sum_cons, List.sum_cons, sum_snoc l x]
    omega
theorem an_part {f m : Int} (f0 : 0 ≤ f) (m0 : 1 ≤ m) : ∀ j : Nat, 1 ≤ j → j ≤ npg f m → (rows (fun j => (anF f m j).2) j).sum = hi (f / 4 * 4 + (j : Int) * 4) (f + m) - f
  | 0, h, _ => by omega
  | j + 1, _, h => by
    have e := (npg_int f0 m0).1
    have hj' : ((j + 1 : Nat) : Int) ≤ (npg f m : Int) := by omega
    rw [e] at hj'
    rw [rows_succ, sum_snoc]
    by_cases z : j = 0
    · subst z
      unfold anF lo hi rows
      simp only [List.range_zero, List.map_nil, List.sum_nil]
      split <;> split <;> split <;> omega
    · rw [an_part f0 m0 j (by omega) (by omega)]
      unfold anF lo hi
      simp only
      split <;> split <;> split <;> split <;> omega
theorem an_sum {f m : Int} (f0 : 0 ≤ f) (m0 : 1 ≤ m) : (rows (fun j => (anF f m j).2) (npg f m)).sum = m := by
  obtain ⟨e, e1, _⟩ := npg_int f0 m0
  rw [an_part f0 m0 _ e1 (Nat.le_refl _), e]
  unfold hi
  split <;> omega
theorem at3 {x0 x1 x2 : Int} {r : Int} (h0 : 0 ≤ r) (h1 : r < 3) : ∃ z, atI [V.int x0, V.int x1, V.int x2] r = some (V.int z) ∧ (z = x0 ∨ z = x1 ∨ z = x2) := by
  rcases (show r = 0 ∨ r = 1 ∨ r = 2 by omega) with q | q | q <;> rw [q]
  · exact ⟨x0, rfl, .inl rfl⟩
  · exact ⟨x1, rfl, .inr (.inl rfl)⟩
  · exact ⟨x2, rfl, .inr (.inr rfl)⟩
theorem RunAt.putL {C p D : Addr} {H : Hp} {f m : Int} {xs : List V} {o : HO} (r : RunAt C H p f m) (h : H D = some (.lst xs)) : RunAt C (upd H D o) p f m := r.imp fun d e => by
  rw [upd_ne (ne_of e h (by intro y; cases y))]
  exact e
theorem TupAt.putL {p D : Addr} {H : Hp} {f m : Int} {xs : List V} {o : HO} (r : TupAt H p f m) (h : H D = some (.lst xs)) : TupAt (upd H D o) p f m := by
  unfold TupAt at r ⊢
  rw [upd_ne (ne_of r h (by intro y; cases y))]
  exact r
theorem put_snoc {D : Addr} {H0 H7 H8 : Hp} {xs : List V} {y : V} (s7 : Same H0 H7) (s8 : Same H7 H8) (hD : H0 D = none) : Same H0 (upd H8 D (.lst (xs ++ [y]))) := fun q o e => by
  rw [upd_ne (ne_of_none e hD)]
  exact s8 _ _ (s7 _ _ e)
/-- a run more in the list at D -/
theorem runs_snoc {C D q : Addr} {H0 H7 H8 : Hp} {as : List Addr} {rs : List (Int × Int)} {r : Int × Int} (s7 : Same H0 H7) (s8 : Same H7 H8) (hD : H0 D = none) (h7 : H7 D = some (.lst (as.map V.ref))) (r7 : RunsAt C H7 as rs) (hq : RunAt C H8 q r.1 r.2) :
    H8 D = some (.lst (as.map V.ref)) ∧ Same H0 (upd H8 D (.lst (as.map V.ref ++ [V.ref q]))) ∧ (upd H8 D (.lst (as.map V.ref ++ [V.ref q]))) D = some (.lst ((as ++ [q]).map V.ref)) ∧ RunsAt C (upd H8 D (.lst (as.map V.ref ++ [V.ref q]))) (as ++ [q]) (rs ++ [r]) := by
  have h8 := s8 _ _ h7
  refine ⟨h8, put_snoc s7 s8 hD, by rw [upd_same, List.map_append]; rfl, ?_⟩
  have r8 : RunsAt C H8 as rs := r7.same s8
  unfold RunsAt at r8 ⊢
  refine paired_snoc ?_ (L2.Paired.mapP r8 fun a r z => RunAt.putL z h8)
  exact hq.putL h8
/-- a pair more in the list at D -/
theorem pairs_snoc {D q : Addr} {H0 H7 H8 : Hp} {as : List Addr} {rs : List (Int × Int)} {r : Int × Int} (s7 : Same H0 H7) (s8 : Same H7 H8) (hD : H0 D = none) (h7 : H7 D = some (.lst (as.map V.ref))) (r7 : PairsAt H7 as rs) (hq : TupAt H8 q r.1 r.2) :
    H8 D = some (.lst (as.map V.ref)) ∧ Same H0 (upd H8 D (.lst (as.map V.ref ++ [V.ref q]))) ∧ (upd H8 D (.lst (as.map V.ref ++ [V.ref q]))) D = some (.lst ((as ++ [q]).map V.ref)) ∧ PairsAt (upd H8 D (.lst (as.map V.ref ++ [V.ref q]))) (as ++ [q]) (rs ++ [r]) := by
  have h8 := s8 _ _ h7
  refine ⟨h8, put_snoc s7 s8 hD, by rw [upd_same, List.map_append]; rfl, ?_⟩
  have r8 : PairsAt H8 as rs := PairsAt.same r7 s8
  unfold PairsAt at r8 ⊢
  refine paired_snoc ?_ (L2.Paired.mapP r8 fun a r z => TupAt.putL (f := r.1) (m := r.2) z h8)
  exact hq.putL h8
theorem lenR {as : List Addr} {n : Nat} (h : as.length ≤ n) (hn : n ≤ 1000) : (as.map V.ref).length < sizeLine := by
  rw [List.length_map]
  exact Nat.lt_of_le_of_lt (Nat.le_trans h hn) (by decide)
theorem nty {a : Addr} : ∀ c, V.ref a ≠ .ty c := fun c z => by cases z
/-- the i-th of runs -/
theorem runs_ix {C : Addr} {H : Hp} {as : List Addr} {F : Nat → Int × Int} {n i : Nat} {x : V} (r : RunsAt C H as (rows F n)) (h : (as.map V.ref)[i]? = some x) : i < n ∧ ∃ a, x = .ref a ∧ RunAt C H a (F i).1 (F i).2 := by
  have hi : i < as.length := by
    have := (List.getElem?_eq_some_iff.mp h).1
    rw [List.length_map] at this
    exact this
  have hn : i < n := by
    have := paired_len r
    rw [rows_len] at this
    omega
  refine ⟨hn, as[i], ?_, paired_ith r (List.getElem?_eq_getElem hi) (rows_at F hn)⟩
  rw [List.getElem?_map, List.getElem?_eq_getElem hi] at h
  exact (Option.some.inj h).symm
/-- a page & the run -/
theorem and_turn {C pa p : Addr} {H : Hp} {f m : Int} {i : Nat} {Q : VK} (ra : RunAt C H pa (pgF f i).1 (pgF f i).2) (rp : RunAt C H p f m) (f0 : 0 ≤ f) (f1 : f ≤ 10 ^ 12 - 57) (m0 : 1 ≤ m) (m1 : m ≤ 30) (hi : i < npg f m)
    (k : ∀ q H', Same H H' → RunAt C H' q (anF f m i).1 (anF f m i).2 → Q (.ref q) H') : Ow.rBin C (spAnd C) E0 (.ref pa) (.ref p) H Q := by
  obtain ⟨da, ha⟩ := id ra
  obtain ⟨dp, hp⟩ := id rp
  obtain ⟨o1, o2, o3, _⟩ := an_ok f0 m0 hi
  refine ⟨pa, p, da, dp, _, _, rfl, rfl, ha, hp, pa, p, _, _, f, m, rfl, ra, rp, o2, by show f / 4 * 4 + (i : Int) * 4 ≤ Most; unfold Most; omega, by show (4 : Int) ≤ Most; unfold Most; decide, f0, by unfold Most; omega, by unfold Most; omega, fun _ q dq hq hdq ne => ⟨nty, ?_⟩, fun hn => absurd o1 hn⟩
  obtain ⟨s1, r1⟩ := run_new (C := C) (f := (anF f m i).1) (m := (anF f m i).2) hq hdq ne
  exact k q _ s1 r1
end Ru
namespace Ru
open PySem L2
abbrev sLaw : Stmt := top 14
abbrev NL : List Str := ["_law_script", "_law_k", "_law_bag_here", "_law_turn", "_law_first", "_law_many", "_law_run", "_law_words", "_law_told", "_law_pages", "_law_long", "_law_last", "_law_word", "_law_page"]
abbrev EN : XK := fun _ _ _ => False
theorem passN {X : Cx} : Passes (L2.CX X.prog X.w) X EN := fun _ _ _ _ _ _ _ h => by
  obtain ⟨_, _, _, _, _, _, _, _, _, _, _, _, z⟩ := h
  exact z.elim
theorem noStopN {K : PySem.W.Frag} : NoStop K EN := fun _ _ _ z => z.elim
structure Mth (P : Program) (w : World) (K : PySem.W.Frag) (mg : Str → Option Value) (base : Heap) (k : Nat) (x : Str) (ps : List Str) (sp : Sp) (f : Addr) (fd : FuncData) : Prop where
  ok : FnOk P w K mg base CX0 k f fd ps sp
  df : Def K mg x f fd ps
structure Own (P : Program) (w : World) (K : PySem.W.Frag) (mg : Str → Option Value) (base : Heap) (C : Addr) (k : Nat) (x : Str) (ps : List Str) (sp : Sp) (f : Addr) (fd : FuncData) : Prop where
  ok : FnOk P w K mg base CX0 k f fd ps sp
  at_ : PySem.W.findIn K (.ref C) x = some (some (.ref f))
  fn : PySem.W.isFn K (.ref f) = true
  bd : Binds K fd ps []
structure OMt (P : Program) (w : World) (K : PySem.W.Frag) (mg : Str → Option Value) (base : Heap) (C : Addr) (k : Nat) (x : Str) (ps : List Str) (sp : Sp) (f : Addr) (fd : FuncData) : Prop where
  ok : FnOk P w K mg base CX0 k f fd ps sp
  me : Meth K C x f
  bd : Binds K fd ps []
section
variable {P : Program} {w : World} {K : PySem.W.Frag} {mg : Str → Option Value} {base : Heap} {C : Addr} {mc : Value} {tM : Tok}
theorem scLaw : FnScope NL ["_law_script"] (defScope sLaw) := ⟨rfl, rfl, rfl, by decide +kernel, rfl, by decide +kernel, by decide +kernel⟩
theorem law_run {f fB fT fS fK fI fW fO pO fBt pBt fL fP fQ fA fZ : Addr} {fdB fdT fdS fdK fdI fdW fdO fdL fdP fdQ fdA fdZ : FuncData} {dV kV doc pm ct cdv oc : Value} {an od : Option Addr} {osl : Array (Option Value)}
    (lk : K.lookup f = some ⟨oc, od, .func (PySem.W.fnOf "law" "law" (defArgs sLaw) (defBody sLaw) (defScope sLaw) dV kV doc pm an cdv ct), osl⟩) (hcd : PySem.W.codeIn K cdv "law" = true) (hbd : ∀ (s : Shared) (u : Value), BindsTo s (PySem.W.fnOf "law" "law" (defArgs sLaw) (defBody sLaw) (defScope sLaw) dV kV doc pm an cdv ct) ⟨[u], []⟩ [("_law_script", u)])
    (T : TR K mg C mc tM) (B : TB mg) (Z : IsR K C) (kNon : PySem.W.kitOne K (.type "NoneType") (.ref C) = some false) (nNon : PySem.W.notFirst K C (.type "NoneType") = true) (nSelf : PySem.W.notFirst K C (.ref C) = true)
    (YB : Mth P w K mg base 2 "_law_bag" ["_law_script", "_law_at"] (spBag K) fB fdB) (YT : Mth P w K mg base 2 "_law_take" ["_law_bag_here", "_law_many"] spTake fT fdT)
    (YS : Mth P w K mg base 2 "_law_shown" ["_law_run"] (spLShown C) fS fdS) (YK : Mth P w K mg base 2 "_law_blocks" ["_law_words", "_law_size"] (spLBlocks K) fK fdK)
    (M : Mk K C fI) (GI : FnOk P w K mg base CX0 3 fI fdI ["self", "first", "many"] (spInit C)) (bI : Binds K fdI ["self", "first", "many"] [])
    (GW : GFn P w K mg base 4 fW fdW ["self"] (spWords C)) (GA : Ga.GFA P w K mg base 4 fW fdW ["self"] (spWordsA C)) (bW : Binds K fdW ["self"] []) (mW : Meth K C "words" fW)
    (cO : Ow.SMet K C mc "of_page" pO fO) (GO : FnOk P w K mg base CX0 5 fO fdO ["page"] (spOfPage C)) (bO : Binds K fdO ["page"] [])
    (cB : ClX.CMet K C mc "between" pBt fBt) (GB : FnR P w K mg base CX0 5 fBt (spBetween C))
    (OL : OMt P w K mg base C 7 "touched_lines" ["self"] (spBlocks C 2) fL fdL) (OP : OMt P w K mg base C 7 "touched_pages" ["self"] (spBlocks C 4) fP fdP)
    (OQ : Own P w K mg base C 2 "__eq__" ["self", "other"] (spEqA K C) fQ fdQ) (OA : Own P w K mg base C 5 "__and__" ["self", "other"] (spAnd C) fA fdA) (sf : PySem.W.selfFirst K C = true) (OZ : Own P w K mg base C 2 "__len__" ["self"] (spLen C) fZ fdZ)
    {s : Shared} {H : Hp} {a : Addr} {ns : List Int} (hl : ns.length ≤ 63) (e0 : Env0 P w K mg base callerA [] s H) (hS : SqL K H a (ns.map V.int)) :
    codeAny (model P w) callerA (.call (.ref f) ⟨[.ref a], []⟩) (CR C8.CX0 [] P w H s (fun v _ => v = .bl true) fun _ _ _ => False) s := by
  refine LamX.run_ofS (k := 9) (N := NL) (ps := ["_law_script"]) (us := [.ref a]) (vs := [.ref a]) lk hcd scLaw ⟨rfl, by decide, by decide⟩ e0 (hbd s (.ref a)) (.cons rfl .nil) rfl fun hr => ?_
  have hr8 : Room 9 _ := hr
  have hr1 : Room 2 _ := hr.mono (show 2 ≤ 9 by decide)
  have hr2 : Room 3 _ := hr.mono (show 3 ≤ 9 by decide)
  have hr3 : Room 4 _ := hr.mono (show 4 ≤ 9 by decide)
  have hr4 : Room 5 _ := hr.mono (show 5 ≤ 9 by decide)
  have hr6 : Room 7 _ := hr.mono (show 7 ≤ 9 by decide)
  suffices hh : ∃ t, PSs (cxOf C8.CX0 P w K mg base NL "law" (defScope sLaw) f cdv callerA [] s H fun _ _ _ => False).nox (defBody sLaw) t ∧ t { nx := fun x H' => (fun v (_ : Hp) => v = V.bl true) .non H', rt := fun v _ => v = V.bl true } (L2.start NL [.ref a]) H by
    obtain ⟨t, h1, h2⟩ := hh
    exact ⟨t, h1.nox, h2⟩
  refine ⟨_, (pss_cons (ps_for PassesOwn.never rfl (pi_range1 (by rfl) B.range (pa_cons (pe_callB (call_max2 rfl) (by rfl) B.max (by decide +kernel) (pa_cons pe_int (pa_cons (pe_callB (call_min2 rfl) (by rfl) B.min (by decide +kernel) (pa_cons pe_int (pa_cons (pe_callB call_len_seq (by rfl) B.len (by decide +kernel) (pa_cons (pv 0) pa_nil)) pa_nil))) pa_nil))) pa_nil)) (pg_name (i := 1) scLaw.nd rfl (Or.inl rfl)) (pss_cons (ps_set (i := 2) scLaw.nd rfl (Or.inl rfl) (pe_call YB.ok hr1 (by rfl) YB.df.at_ YB.df.kp YB.df.bd .nil pass0 (pa_cons (pv 0) (pa_cons (pv 1) pa_nil)))) (pss_one (ps_for PassesOwn.never rfl (pi_range1 (by rfl) B.range (pa_cons pe_int pa_nil)) (pg_name (i := 3) scLaw.nd rfl (Or.inl rfl)) (pss_cons (ps_set (i := 4) scLaw.nd rfl (Or.inl rfl) (pe_op op_add (pe_ix ix_list (pe_lst (pa_cons pe_int (pa_cons pe_int (pa_cons pe_int (pa_cons (pe_op op_sub (pe_op op_pow pe_int pe_int) pe_int) pa_nil))))) (pe_call YT.ok hr1 (by rfl) YT.df.at_ YT.df.kp YT.df.bd .nil pass0 (pa_cons (pv 2) (pa_cons pe_int pa_nil))) (fun _ _ => rfl)) (pe_call YT.ok hr1 (by rfl) YT.df.at_ YT.df.kp YT.df.bd .nil pass0 (pa_cons (pv 2) (pa_cons pe_int pa_nil)))))
 (pss_cons (ps_set (i := 5) scLaw.nd rfl (Or.inl rfl) (pe_op op_add pe_int (pe_call YT.ok hr1 (by rfl) YT.df.at_ YT.df.kp YT.df.bd .nil pass0 (pa_cons (pv 2) (pa_cons (pe_ix ix_list (pe_lst (pa_cons pe_int (pa_cons pe_int (pa_cons pe_int pa_nil)))) (pe_call YT.ok hr1 (by rfl) YT.df.at_ YT.df.kp YT.df.bd .nil pass0 (pa_cons (pv 2) (pa_cons pe_int pa_nil))) (fun _ _ => rfl)) pa_nil)))))
 (pss_cons (ps_asg (pe_tup (pa_cons (pe_make M GI hr3 (by rfl) T.mgC bI .nil pass0 (pa_cons (pv 4) (pa_cons (pv 5) pa_nil))) (pa_cons (pe_listRg rfl (by rfl) B.list (prg_2 (by rfl) B.range (pv 4) (pe_op op_add (pv 4) (pv 5)))) pa_nil))) (pg_tup rfl (pgs_cons (pg_name (i := 6) scLaw.nd rfl (Or.inr rfl)) (pgs_cons (pg_name (i := 7) scLaw.nd rfl (Or.inl rfl)) pgs_nil))))
 (C8.pss_cut (ps_if (PW.pt (pw_or (pt_cmpR (op_neD hr1.units) (pe_listG (pgen_meth0 (E := EN) (pv 6) T.cl mW GW hr3 bW .nil) passN noStopN hr6 (by rfl) B.list (by decide +kernel)) (pv 7) (nomark _)) (pw_or1 (pt_cmpR (op_neD hr1.units) (Ga.pe_lcG (i := 12) rfl scLaw.nd (Ga.pga_meth0 (pv 6) T.cl mW GA hr3 bW) hr4 (blkOk_by (N := NL) (sc := defScope sLaw) (by decide +kernel)) (by decide +kernel) rfl rfl (fun _ _ _ _ _ => pv 12) (fun _ _ _ _ _ => pg_name (i := 12) scLaw.nd rfl (Or.inl rfl))) (pv 7) (nomark _))))) (pss_one (ps_ret pe_bl)) pss_nil)
 (pss_cons (ps_set (i := 8) scLaw.nd rfl (Or.inl rfl) (pe_lst (pa_cons (pe_call YS.ok hr1 (by rfl) YS.df.at_ YS.df.kp YS.df.bd .nil pass0 (pa_cons (pe_meth0 (pv 6) T.cl OL.me OL.ok hr6 OL.bd .nil pass0) pa_nil)) (pa_cons (pe_call YS.ok hr1 (by rfl) YS.df.at_ YS.df.kp YS.df.bd .nil pass0 (pa_cons (pe_meth0 (pv 6) T.cl OP.me OP.ok hr6 OP.bd .nil pass0) pa_nil)) pa_nil))))
 (C8.pss_cut (ps_if (pt_cmpR (op_neD hr1.units) (pv 8) (pe_lst (pa_cons (pe_call YK.ok hr1 (by rfl) YK.df.at_ YK.df.kp YK.df.bd .nil pass0 (pa_cons (pv 7) (pa_cons pe_int pa_nil))) (pa_cons (pe_call YK.ok hr1 (by rfl) YK.df.at_ YK.df.kp YK.df.bd .nil pass0 (pa_cons (pv 7) (pa_cons pe_int pa_nil))) pa_nil))) (nomark _)) (pss_one (ps_ret pe_bl)) pss_nil)
 (pss_cons (Ga.ps_setLcG (j := 9) (i := 13) (y := "_law_pages") rfl scLaw.nd rfl rfl (sw_true rfl rfl rfl (by decide +kernel)) (Ga.pga_meth0 (pe_meth0 (pv 6) T.cl OP.me OP.ok hr6 OP.bd .nil pass0) T.cl mW GA hr3 bW) hr4 (blkOk_by (N := NL) (sc := defScope sLaw) (by decide +kernel)) (by decide +kernel) rfl rfl (fun _ _ _ _ _ => (Ow.pe_smeth (pe_glob (v := .ref C) rfl T.mgC rfl) T.rd cO GO hr4 bO .nil pass0 (pa_cons (pv 13) pa_nil))) (fun _ _ _ _ _ => pg_name (i := 13) scLaw.nd rfl (Or.inl rfl)))
 (C8.pss_cut (ps_if (pt_cmpR (op_neD hr1.units) (pe_lc (own := [("_law_page", 13)]) (g := gName 13) (tt := tYes) rfl scLaw.nd (pi_list (pv 9)) (blkOk_by (N := NL) (sc := defScope sLaw) (by decide +kernel)) (fun _ _ _ _ _ => pg_name (i := 13) scLaw.nd rfl (Or.inl rfl)) (fun _ _ _ _ _ => pts_nil) (fun _ _ _ _ _ => (pe_call YS.ok hr1 (by rfl) YS.df.at_ YS.df.kp YS.df.bd .nil pass0 (pa_cons (pv 13) pa_nil)))) (pe_lc (own := [("_law_word", 12)]) (g := gName 12) (tt := tYes) rfl scLaw.nd (pi_range3 (by rfl) B.range (pa_cons (pe_op op_mul (pe_op op_fdiv (pv 4) pe_int) pe_int) (pa_cons (pe_op op_add (pv 4) (pv 5)) (pa_cons pe_int pa_nil)))) (blkOk_by (N := NL) (sc := defScope sLaw) (by decide +kernel)) (fun _ _ _ _ _ => pg_name (i := 12) scLaw.nd rfl (Or.inl rfl)) (fun _ _ _ _ _ => pts_nil) (fun _ _ _ _ _ => (pe_tup (pa_cons (pv 12) (pa_cons pe_int pa_nil))))) (nomark _)) (pss_one (ps_ret pe_bl)) pss_nil)
 (C8.pss_cut (ps_if (PW.pt (pw_or (pt_cmpR (El.op_eqLen hr1.units0) (pe_lc (own := [("_law_page", 13)]) (g := gName 13) (tt := tYes) rfl scLaw.nd (pi_list (pv 9)) (blkOk_by (N := NL) (sc := defScope sLaw) (by decide +kernel)) (fun _ _ _ _ _ => pg_name (i := 13) scLaw.nd rfl (Or.inl rfl)) (fun _ _ _ _ _ => pts_nil) (fun _ _ _ _ _ => (pe_op (Ow.op_bin (C := C) OA.ok hr4 sf OA.at_ OA.fn OA.bd pass0) (pv 13) (pv 6)))) (pe_lst pa_nil) (nomark _)) (pw_or1 (pt_cmpR (El.op_nonIn (C := C) OQ.ok hr2 nNon OQ.at_ OQ.fn OQ.bd pass0) pe_non (pe_lc (own := [("_law_page", 13)]) (g := gName 13) (tt := tYes) rfl scLaw.nd (pi_list (pv 9)) (blkOk_by (N := NL) (sc := defScope sLaw) (by decide +kernel)) (fun _ _ _ _ _ => pg_name (i := 13) scLaw.nd rfl (Or.inl rfl)) (fun _ _ _ _ _ => pts_nil) (fun _ _ _ _ _ => (pe_op (Ow.op_bin (C := C) OA.ok hr4 sf OA.at_ OA.fn OA.bd pass0) (pv 13) (pv 6)))) (by rfl))))) (pss_one (ps_ret pe_bl)) pss_nil)
 (C8.pss_cut (ps_if (PW.pt (pw_or (pt_cmpR op_ne (pe_callB (cr_sum rfl) (by rfl) B.sum (by decide +kernel) (pa_cons (pe_lc (own := [("_law_page", 13)]) (g := gName 13) (tt := tYes) rfl scLaw.nd (pi_list (pv 9)) (blkOk_by (N := NL) (sc := defScope sLaw) (by decide +kernel)) (fun _ _ _ _ _ => pg_name (i := 13) scLaw.nd rfl (Or.inl rfl)) (fun _ _ _ _ _ => pts_nil) (fun _ _ _ _ _ => (pe_callB (Ow.call_lenO OZ.ok hr2 OZ.at_ OZ.fn OZ.bd pass0) (by rfl) B.len (by decide +kernel) (pa_cons (pe_op (Ow.op_bin (C := C) OA.ok hr4 sf OA.at_ OA.fn OA.bd pass0) (pv 13) (pv 6)) pa_nil)))) pa_nil)) (pv 5) (nomark _)) (pw_or1 (pt_not (pt_cmpR (Ow.op_eqO OQ.ok hr1 OQ.at_ OQ.fn OQ.bd pass0) (ClX.pe_cmeth (pe_glob (v := .ref C) rfl T.mgC rfl) T.rd cB GB hr4 pass0 (pa_cons (pv 4) (pa_cons (pe_op op_add (pv 4) (pv 5)) pa_nil))) (pv 6) (nomark _)))))) (pss_one (ps_ret pe_bl)) pss_nil)
 (pss_cons (ps_set (i := 10) scLaw.nd rfl (Or.inl rfl) (pe_make M GI hr3 (by rfl) T.mgC bI .nil pass0 (pa_cons (pv 4) (pa_cons (pe_op op_sub (pe_op op_pow pe_int pe_int) (pe_call YT.ok hr1 (by rfl) YT.df.at_ YT.df.kp YT.df.bd .nil pass0 (pa_cons (pv 2) (pa_cons pe_int pa_nil)))) pa_nil))))
 (pss_cons (ps_set (i := 11) scLaw.nd rfl (Or.inl rfl) (pe_op op_sub (pe_op op_add (pv 4) (pe_fld (pv 10) rfl)) pe_int))
 (pss_cons (ps_set (i := 8) scLaw.nd rfl (Or.inl rfl) (pe_lst (pa_cons (pe_call YS.ok hr1 (by rfl) YS.df.at_ YS.df.kp YS.df.bd .nil pass0 (pa_cons (pe_meth0 (pv 10) T.cl OL.me OL.ok hr6 OL.bd .nil pass0) pa_nil)) (pa_cons (pe_call YS.ok hr1 (by rfl) YS.df.at_ YS.df.kp YS.df.bd .nil pass0 (pa_cons (pe_meth0 (pv 10) T.cl OP.me OP.ok hr6 OP.bd .nil pass0) pa_nil)) pa_nil))))
 (pss_one (ps_if (pt_cmpR (op_neD hr1.units) (pv 8) (pe_lst (pa_cons (pe_tup (pa_cons (pe_op op_fdiv (pv 4) pe_int) (pa_cons (pe_op op_add (pe_op op_sub (pe_op op_fdiv (pv 11) pe_int) (pe_op op_fdiv (pv 4) pe_int)) pe_int) pa_nil))) (pa_cons (pe_tup (pa_cons (pe_op op_fdiv (pv 4) pe_int) (pa_cons (pe_op op_add (pe_op op_sub (pe_op op_fdiv (pv 11) pe_int) (pe_op op_fdiv (pv 4) pe_int)) pe_int) pa_nil))) pa_nil))) (nomark _)) (pss_one (ps_ret pe_bl)) pss_nil))))))))))))))))))) (pss_one (ps_ret pe_bl))), ?_⟩
  refine ⟨_, rfl, a, _, rfl, .inl hS, _, _, rfl, _, _, rfl, _, rfl, ?_⟩
  have hJ : ∀ n : Int, 0 ≤ n → n ≤ 63 → 2 ≤ (if (if n < 4 then n else 4) > 2 then (if n < 4 then n else 4) else 2) ∧ (if (if n < 4 then n else 4) > 2 then (if n < 4 then n else 4) else 2) ≤ 63 := fun n h0 h1 => by
    by_cases q : n < 4
    · rw [if_pos q]
      by_cases z : n > 2
      · rw [if_pos z]; omega
      · rw [if_neg z]; omega
    · rw [if_neg q]
      decide
  have hJ2 := hJ ((ns.map V.int).length : Int) (by omega) (by rw [List.length_map]; omega)
  generalize (if (if ((ns.map V.int).length : Int) < 4 then ((ns.map V.int).length : Int) else 4) > 2 then (if ((ns.map V.int).length : Int) < 4 then ((ns.map V.int).length : Int) else 4) else 2) = J at hJ2 ⊢
  obtain ⟨J0, J1⟩ := hJ2
  refine ⟨by omega, by omega, for_range (lo := 0) (n := J.toNat) (fun i σ H2 => ∃ (v1 v2 v3 v4 v5 v6 v7 v8 v9 v10 v11 v12 v13 : Option V), σ = [some (.ref a), v1, v2, v3, v4, v5, v6, v7, v8, v9, v10, v11, v12, v13] ∧ Same H H2) ⟨none, none, none, none, none, none, none, none, none, none, none, none, none, rfl, Same.refl H⟩ ?_ ?_⟩
  · rintro i σ H2 hij ⟨v1, v2, v3, v4, v5, v6, v7, v8, v9, v10, v11, v12, v13, rfl, s2⟩
    refine ⟨_, rfl, _, rfl, a, ns, _, rfl, s2.seq hS, hl, by omega, by omega, fun b H3 nb b3 o3 => ?_⟩
    have b0 : H b = none := s2.free nb
    have s3 : Same H H3 := fun c u e => (o3 c (ne_of_none e b0)).trans (s2 c u e)
    refine ⟨6, rfl, by decide, by decide, for_range (lo := 0) (n := 6) (fun j σ H5 => ∃ (v3 v4 v5 v6 v7 v8 v9 v10 v11 v12 v13 : Option V), σ = [some (.ref a), some (.int (0 + (i : Int))), some (.ref b), v3, v4, v5, v6, v7, v8, v9, v10, v11, v12, v13] ∧ Same H H5 ∧ BagAt H5 b (5 * j)) ⟨v3, v4, v5, v6, v7, v8, v9, v10, v11, v12, v13, rfl, s3, b3⟩ ?_ ?_⟩
    · rintro j σ H5 hj ⟨v3, v4, v5, v6, v7, v8, v9, v10, v11, v12, v13, rfl, s5, b5⟩
      have fin : ∀ H', OffN b H5 H' → Same H H' := fun H' f c u e => (f c (by rw [s5 c u e]; simp) (ne_of_none e b0)).trans (s5 c u e)
      refine ⟨_, _, rfl, rfl, ⟨by decide, by decide, by decide⟩, _, _, rfl, rfl, (by show 4 ≤ sizeLine; decide), fun l hl => ?_⟩
      have bl : b ≠ l := b5.ne hl
      refine ⟨_, rfl, b, 4, _, rfl, by decide, by decide, b5.put bl, by omega, fun r0 H6 r00 r01 b6 o6 => ?_⟩
      have h6l := (o6 l bl.symm).trans upd_same
      have f6 : OffN b H5 H6 := (OffN.refl.put hl).step o6
      obtain ⟨z, hz, hz2⟩ := at4 (x0 := 0) (x1 := 8) (x2 := 1000) (x3 := 10 ^ Int.toNat 12 - 64) r00 r01
      refine ⟨l, _, r0, _, rfl, rfl, SqL.of h6l, hz, ?_⟩
      have zb : 0 ≤ z ∧ z ≤ 10 ^ 12 - 64 := by
        rcases hz2 with q | q | q | q <;> rw [q] <;> decide
      refine ⟨_, rfl, b, 8, _, rfl, by decide, by decide, b6, by omega, fun r1 H7 r10 r11 b7 o7 => ⟨_, _, rfl, rfl, ?_⟩⟩
      have f7 := f6.step o7
      refine ⟨_, rfl, (by show 3 ≤ sizeLine; decide), fun l2 hl2 => ?_⟩
      have bl2 : b ≠ l2 := b7.ne hl2
      refine ⟨_, rfl, b, 3, _, rfl, by decide, by decide, b7.put bl2, by omega, fun r2 H8 r20 r21 b8 o8 => ?_⟩
      have h8l := (o8 l2 bl2.symm).trans upd_same
      have f8 : OffN b H5 H8 := (f7.put (f7.free hl2 bl2.symm)).step o8
      obtain ⟨y, hy, hy2⟩ := at3 (x0 := 3) (x1 := 9) (x2 := 30) r20 r21
      refine ⟨l2, _, r2, _, rfl, rfl, SqL.of h8l, hy, ?_⟩
      refine ⟨b, y, _, rfl, by omega, by omega, b8, by omega, fun r3 H9 r30 r31 b9 o9 => ⟨_, _, rfl, rfl, ?_⟩⟩
      have f9 := f8.step o9
      have gf : 0 ≤ z + r1 ∧ z + r1 ≤ 10 ^ 12 - 57 := by omega
      have gm : 1 ≤ 1 + r3 ∧ 1 + r3 ≤ 30 := by omega
      dsimp only
      generalize z + r1 = f at gf ⊢
      generalize 1 + r3 = m at gm ⊢
      obtain ⟨f0, f1⟩ := gf
      obtain ⟨m0, m1⟩ := gm
      have e12 : (10 ^ Int.toNat 12 : Int) = 1000000000000 := by decide
      refine ⟨_, rfl, _, rfl, fun p dp hp hdp ne => ?_⟩
      refine ⟨p, dp, _, _, rfl, upd_same, f0, by unfold Most; omega, m0, by unfold Most; omega, rfl, ?_⟩
      rw [upd_upd]
      obtain ⟨s10, p10⟩ := run_new (C := C) (f := f) (m := m) hp hdp ne
      have b10 := b9.sameN s10
      have f10 := f9.trans (offN_same (b := b) s10)
      generalize (upd (upd H9 dp (.own p)) p (.ins C dp (rf f m))) = H10 at s10 p10 b10 f10 ⊢
      refine ⟨_, rfl, _, rfl, _, rfl, _, _, rfl, rfl, _, _, rfl, rfl, ⟨by omega, by omega, by omega, by omega, by omega⟩, fun lw hlw => ?_⟩
      have s11 : Same H10 (upd H10 lw (.lst (rgV f (f + m)))) := put_same hlw
      have w11 : (upd H10 lw (.lst (rgV f (f + m)))) lw = some (.lst ((wordsI f m.toNat).map V.int)) := by
        rw [upd_same, rg_words, show f + m - f = m by omega]
      generalize (upd H10 lw (.lst (rgV f (f + m)))) = H11 at s11 w11 ⊢
      refine ⟨(by show 2 ≤ sizeLine; decide), fun c hc => ?_⟩
      have s12 : Same H11 (upd H11 c (.tup [.ref p, .ref lw])) := put_same hc
      refine ⟨c, _, rfl, SqT.of upd_same, rfl, _, _, rfl, _, _, rfl, rfl, ?_⟩
      have p12 := (p10.same s11).same s12
      have w12 := s12 _ _ w11
      have b12 := (b10.sameN s11).sameN s12
      have f12 := (f10.trans (offN_same (b := b) s11)).trans (offN_same (b := b) s12)
      generalize (upd H11 c (.tup [.ref p, .ref lw])) = H12 at s12 p12 w12 b12 f12 ⊢
      clear hz hz2 zb hy hy2 r00 r01 r10 r11 r20 r21 r30 r31
      obtain ⟨dp2, hdp⟩ := p12
      have s012 := fin _ f12
      refine ⟨fun σ H' => σ = [some (.ref a), some (.int (0 + (i : Int))), some (.ref b), some (.int (0 + (j : Int))), some (.int f), some (.int m), some (.ref p), some (.ref lw), v8, v9, v10, v11, v12, v13] ∧ Same H12 H', ?_, ?_⟩
      · refine ⟨_, rfl, p, dp2, _, rfl, hdp, rf_no _ _ (by decide +kernel) (by decide +kernel), ?_⟩
        dsimp only [tNil]
        refine ⟨p, f, m, rfl, ⟨dp2, hdp⟩, f0, by omega, by omega, by omega, fun l1 hl1 => ?_⟩
        have s13 : Same H12 (upd H12 l1 (.lst ((wordsI f m.toNat).map V.int))) := put_same hl1
        have h13 : (upd H12 l1 (.lst ((wordsI f m.toNat).map V.int))) l1 = some (.lst ((wordsI f m.toNat).map V.int)) := upd_same
        generalize (upd H12 l1 (.lst ((wordsI f m.toNat).map V.int))) = H13 at s13 h13 ⊢
        refine ⟨_, rfl, _, _, dp_ints (SqL.of h13), dp_ints (SqL.of (s13 _ _ w12)), shaped_ints _, shaped_ints _, ?_⟩
        rw [eqv_ints]
        refine ⟨false, rfl, iteF ?_⟩
        refine ⟨_, rfl, p, dp2, _, rfl, s13 _ _ hdp, rf_no _ _ (by decide +kernel) (by decide +kernel), f, m.toNat, ⟨p, f, m, rfl, ⟨dp2, s13 _ _ hdp⟩, f0, by omega, m0, by omega, rfl, rfl, rfl⟩, fun D hD => ⟨fun j H' => Same H13 H' ∧ H' D = some (.lst ((wordsI f j).map V.int)), ⟨put_same hD, upd_same⟩, ?_, ?_⟩⟩
        · rintro j7 H7 hj7 ⟨s7, h7⟩
          refine ⟨_, rfl, _, h7, ?_, fun q o e => ?_, by rw [upd_same, wordsI_succ]⟩
          · rw [List.length_map, wordsI_len]
            exact Nat.lt_of_lt_of_le (show j7 < 100 by omega) (by decide)
          · rw [upd_ne (ne_of_none e hD)]
            exact s7 _ _ e
        · rintro H14 ⟨s14, h14⟩
          refine ⟨_, rfl, _, _, dp_ints (SqL.of h14), dp_ints (SqL.of (s14 _ _ (s13 _ _ w12))), shaped_ints _, shaped_ints _, ?_⟩
          rw [eqv_ints]
          exact ⟨false, rfl, iteF ⟨rfl, s13.trans s14⟩⟩
      rintro σ H13 ⟨rfl, s13⟩
      refine ⟨_, rfl, p, _, _, rfl, s13 _ _ hdp, rf_no _ _ (by decide +kernel) (by decide +kernel), ?_⟩
      dsimp only [tNil]
      refine ⟨p, f, m, rfl, ⟨_, s13 _ _ hdp⟩, f0, by unfold Most; omega, m0, by unfold Most; omega, fun qx1 dqx1 hqx1 hdqx1 nex1 => ?_⟩
      obtain ⟨sx1, rx1⟩ := run_new (C := C) (f := (f / 2)) (m := ((f + m - 1) / 2 + 1 - f / 2)) hqx1 hdqx1 nex1
      generalize (upd (upd H13 dqx1 (.own qx1)) qx1 (.ins C dqx1 (rf (f / 2) ((f + m - 1) / 2 + 1 - f / 2)))) = Hx1 at sx1 rx1 ⊢
      refine ⟨qx1, _, _, rfl, rx1, fun tx1 htx1 => ?_⟩
      have sx2 : Same Hx1 (upd Hx1 tx1 (.tup [.int (f / 2), .int ((f + m - 1) / 2 + 1 - f / 2)])) := put_same htx1
      have ux1 : TupAt (upd Hx1 tx1 (.tup [.int (f / 2), .int ((f + m - 1) / 2 + 1 - f / 2)])) tx1 (f / 2) ((f + m - 1) / 2 + 1 - f / 2) := upd_same
      generalize (upd Hx1 tx1 (.tup [.int (f / 2), .int ((f + m - 1) / 2 + 1 - f / 2)])) = Hx2 at sx2 ux1 ⊢
      have sx3 := (s13.trans sx1).trans sx2
      refine ⟨_, rfl, p, _, _, rfl, sx3 _ _ hdp, rf_no _ _ (by decide +kernel) (by decide +kernel), ?_⟩
      dsimp only [tNil]
      refine ⟨p, f, m, rfl, ⟨_, sx3 _ _ hdp⟩, f0, by unfold Most; omega, m0, by unfold Most; omega, fun qx2 dqx2 hqx2 hdqx2 nex2 => ?_⟩
      obtain ⟨sx4, rx4⟩ := run_new (C := C) (f := (f / 4)) (m := ((f + m - 1) / 4 + 1 - f / 4)) hqx2 hdqx2 nex2
      generalize (upd (upd Hx2 dqx2 (.own qx2)) qx2 (.ins C dqx2 (rf (f / 4) ((f + m - 1) / 4 + 1 - f / 4)))) = Hx3 at sx4 rx4 ⊢
      refine ⟨qx2, _, _, rfl, rx4, fun tx2 htx2 => ?_⟩
      have sx5 : Same Hx3 (upd Hx3 tx2 (.tup [.int (f / 4), .int ((f + m - 1) / 4 + 1 - f / 4)])) := put_same htx2
      have ux2 : TupAt (upd Hx3 tx2 (.tup [.int (f / 4), .int ((f + m - 1) / 4 + 1 - f / 4)])) tx2 (f / 4) ((f + m - 1) / 4 + 1 - f / 4) := upd_same
      generalize (upd Hx3 tx2 (.tup [.int (f / 4), .int ((f + m - 1) / 4 + 1 - f / 4)])) = Hx4 at sx5 ux2 ⊢
      refine ⟨(by show 2 ≤ sizeLine; decide), fun lx hlx => ?_⟩
      have sx6 : Same Hx4 (upd Hx4 lx (.lst [.ref tx1, .ref tx2])) := put_same hlx
      have wx : (upd Hx4 lx (.lst [.ref tx1, .ref tx2])) lx = some (.lst ([tx1, tx2].map V.ref)) := upd_same
      generalize (upd Hx4 lx (.lst [.ref tx1, .ref tx2])) = H14 at sx6 wx ⊢
      have px : PairsAt H14 [tx1, tx2] [((f / 2), ((f + m - 1) / 2 + 1 - f / 2)), ((f / 4), ((f + m - 1) / 4 + 1 - f / 4))] := .cons (sx6 _ _ (sx5 _ _ (sx4 _ _ ux1))) (.cons (sx6 _ _ ux2) .nil)
      have sx := ((sx3.trans sx4).trans sx5).trans sx6
      clear sx1 sx2 sx3 sx4 sx5 sx6 ux1 ux2 rx1 rx4
      refine ⟨fun σ H' => σ = [some (.ref a), some (.int (0 + (i : Int))), some (.ref b), some (.int (0 + (j : Int))), some (.int f), some (.int m), some (.ref p), some (.ref lw), some (.ref lx), v9, v10, v11, v12, v13] ∧ Same H14 H', ?_, ?_⟩
      · refine ⟨_, rfl, _, rfl, lw, f, m, 2, rfl, SqL.of (sx _ _ w12), f0, by omega, m0, by omega, .inl rfl, fun t1 H15 s15 t15 => ?_⟩
        refine ⟨_, rfl, lw, f, m, 4, rfl, SqL.of (s15 _ _ (sx _ _ w12)), f0, by omega, m0, by omega, .inr rfl, fun t2 H16 s16 t16 => ?_⟩
        refine ⟨(by show 2 ≤ sizeLine; decide), fun l3 hl3 => ?_⟩
        have s17 : Same H16 (upd H16 l3 (.lst [.ref t1, .ref t2])) := put_same hl3
        have w17 : (upd H16 l3 (.lst [.ref t1, .ref t2])) l3 = some (.lst ([t1, t2].map V.ref)) := upd_same
        generalize (upd H16 l3 (.lst [.ref t1, .ref t2])) = H17 at s17 w17 ⊢
        have p17 : PairsAt H17 [t1, t2] [((f / 2), ((f + m - 1) / 2 + 1 - f / 2)), ((f / 4), ((f + m - 1) / 4 + 1 - f / 4))] := .cons (s17 _ _ (s16 _ _ t15)) (.cons (s17 _ _ t16) .nil)
        have s1417 := (s15.trans s16).trans s17
        refine ⟨_, _, dp_pairs (SqL.of (s1417 _ _ wx)) (PairsAt.same px s1417), dp_pairs (SqL.of w17) p17, shaped_pairs _, shaped_pairs _, ?_⟩
        rw [eqv_self (shaped_pairs _)]
        exact ⟨false, rfl, iteF ⟨rfl, s1417⟩⟩
      rintro σ H18 ⟨rfl, s18⟩
      clear px wx
      have s1218 := sx.trans s18
      refine ⟨_, rfl, p, _, _, rfl, s1218 _ _ hdp, rf_no _ _ (by decide +kernel) (by decide +kernel), ?_⟩
      dsimp only [tNil]
      refine ⟨p, f, m, rfl, ⟨_, s1218 _ _ hdp⟩, f0, by unfold Most; omega, m0, by unfold Most; omega, fun qp dqp hqp hdqp nep => ?_⟩
      obtain ⟨s19, r19⟩ := run_new (C := C) (f := (f / 4)) (m := ((f + m - 1) / 4 + 1 - f / 4)) hqp hdqp nep
      generalize (upd (upd H18 dqp (.own qp)) qp (.ins C dqp (rf (f / 4) ((f + m - 1) / 4 + 1 - f / 4)))) = H19 at s19 r19 ⊢
      obtain ⟨dp19, hd19⟩ := id r19
      obtain ⟨ne1, ne2, ne3⟩ := npg_int (f := f) (m := m) f0 m0
      refine ⟨qp, _, _, rfl, hd19, rf_no _ _ (by decide +kernel) (by decide +kernel), f / 4, npg f m, ⟨qp, _, _, rfl, r19, by omega, by omega, by omega, by omega, rfl, rfl, rfl⟩, fun D hD => ⟨fun j H' => ∃ as : List Addr, Same H19 H' ∧ H' D = some (.lst (as.map V.ref)) ∧ RunsAt C H' as (rows (pgF f) j), ⟨[], put_same hD, upd_same, .nil⟩, ?_, ?_⟩⟩
      · rintro j7 H7 hj7 ⟨as, s7, h7, r7⟩
        refine ⟨rfl, _, rfl, f / 4 + (j7 : Int), rfl, by omega, by unfold Most; omega, fun pa dx hp hdx ne => ?_⟩
        obtain ⟨s8, r8⟩ := run_new (C := C) (f := 4 * (f / 4 + (j7 : Int))) (m := 4) hp hdx ne
        generalize (upd (upd H7 dx (.own pa)) pa (.ins C dx (rf (4 * (f / 4 + (j7 : Int))) 4))) = H8 at s8 r8 ⊢
        have r8' : RunAt C H8 pa (pgF f j7).1 (pgF f j7).2 := by
          rw [show 4 * (f / 4 + (j7 : Int)) = f / 4 * 4 + (j7 : Int) * 4 by omega] at r8
          exact r8
        obtain ⟨z1, z2, z3, z4⟩ := runs_snoc s7 s8 hD h7 r7 r8'
        refine ⟨_, z1, lenR (n := 31) ?_ (by decide), as ++ [pa], z2, z3, ?_⟩
        · rw [paired_len r7, rows_len]
          omega
        · rw [rows_succ]
          exact z4
      rintro H20 ⟨as, s20, w20, r20⟩
      have las : as.length = npg f m := by rw [paired_len r20, rows_len]
      have s1220 := (s1218.trans s19).trans s20
      clear s19 s20 s18 r19 hd19
      refine ⟨fun σ H' => σ = [some (.ref a), some (.int (0 + (i : Int))), some (.ref b), some (.int (0 + (j : Int))), some (.int f), some (.int m), some (.ref p), some (.ref lw), some (.ref lx), some (.ref D), v10, v11, v12, v13] ∧ Same H20 H', ?_, ?_⟩
      · refine ⟨_, rfl, D, rfl, ⟨_, SqL.of w20⟩, fun D1 hD1 => lc_list (K := K) (a := D) (xs := as.map V.ref) (fun i H' => ∃ ts : List Addr, Same H20 H' ∧ H' D1 = some (.lst (ts.map V.ref)) ∧ PairsAt H' ts (rows (pgF f) i)) ⟨[], put_same hD1, upd_same, .nil⟩ (fun i H' _ ⟨_, s, _⟩ => s.seq (SqL.of w20)) ?_ ?_⟩
        · rintro i7 x H7 hx ⟨ts, s7, h7, r7⟩
          obtain ⟨hi7, pa, rfl, ra⟩ := runs_ix r20 hx
          refine ⟨rfl, iteT (B := ∃ ts : List Addr, Same H20 H7 ∧ H7 D1 = some (.lst (ts.map V.ref)) ∧ PairsAt H7 ts (rows (pgF f) (i7 + 1))) ?_⟩
          refine ⟨_, rfl, pa, _, _, rfl, ra.same s7, fun t ht => ?_⟩
          obtain ⟨z1, z2, z3, z4⟩ := pairs_snoc (r := pgF f i7) s7 (put_same ht) hD1 h7 r7 upd_same
          refine ⟨_, z1, lenR (n := 31) ?_ (by decide), ts ++ [t], z2, z3, ?_⟩
          · rw [paired_len r7, rows_len]
            omega
          · rw [rows_succ]
            exact z4
        rintro H21 ⟨ts, s21, h21, p21⟩
        rw [List.length_map, las] at p21
        refine ⟨_, rfl, _, _, rfl, rfl, ⟨by decide, by decide⟩, _, _, rfl, rfl, .inr ⟨by decide, by decide⟩, _, rfl, _, rfl, _, _, rfl, rfl, f / 4 * 4, f + m, 4, npg f m, rfl, rgC4 f0 (by omega) m0 (by omega), fun D2 hD2 => lc_rangeC (fun i H' => ∃ ts : List Addr, Same H21 H' ∧ H' D2 = some (.lst (ts.map V.ref)) ∧ PairsAt H' ts (rows (pgF f) i)) ⟨[], put_same hD2, upd_same, .nil⟩ ?_ ?_⟩
        · rintro i7 H7 hi7 ⟨ts, s7, h7, r7⟩
          refine ⟨rfl, iteT (B := ∃ ts : List Addr, Same H21 H7 ∧ H7 D2 = some (.lst (ts.map V.ref)) ∧ PairsAt H7 ts (rows (pgF f) (i7 + 1))) ?_⟩
          refine ⟨_, rfl, (by show 2 ≤ sizeLine; decide), fun t ht => ?_⟩
          obtain ⟨z1, z2, z3, z4⟩ := pairs_snoc (r := pgF f i7) s7 (put_same ht) hD2 h7 r7 upd_same
          refine ⟨_, z1, lenR (n := 31) ?_ (by decide), ts ++ [t], z2, z3, ?_⟩
          · rw [paired_len r7, rows_len]
            omega
          · rw [rows_succ]
            exact z4
        rintro H22 ⟨ts2, s22, h22, p22⟩
        refine ⟨_, _, dp_pairs (SqL.of (s22 _ _ h21)) (PairsAt.same p21 s22), dp_pairs (SqL.of h22) p22, shaped_pairs _, shaped_pairs _, ?_⟩
        rw [eqv_self (shaped_pairs _)]
        exact ⟨false, rfl, iteF ⟨rfl, s21.trans s22⟩⟩
      rintro σ H21 ⟨rfl, s21⟩
      refine ⟨fun σ H' => σ = [some (.ref a), some (.int (0 + (i : Int))), some (.ref b), some (.int (0 + (j : Int))), some (.int f), some (.int m), some (.ref p), some (.ref lw), some (.ref lx), some (.ref D), v10, v11, v12, v13] ∧ Same H20 H', ?_, ?_⟩
      · refine ⟨_, rfl, D, rfl, ⟨_, SqL.of (s21 _ _ w20)⟩, fun D1 hD1 => lc_list (K := K) (a := D) (xs := as.map V.ref) (fun i H' => ∃ bs : List Addr, Same H21 H' ∧ H' D1 = some (.lst (bs.map V.ref)) ∧ RunsAt C H' bs (rows (anF f m) i)) ⟨[], put_same hD1, upd_same, .nil⟩ (fun i H' _ ⟨_, s, _⟩ => s.seq (SqL.of (s21 _ _ w20))) ?_ ?_⟩
        · rintro i7 x H7 hx ⟨bs, s7, h7, r7⟩
          obtain ⟨hi7, pa, rfl, ra⟩ := runs_ix r20 hx
          refine ⟨rfl, iteT (B := ∃ bs : List Addr, Same H21 H7 ∧ H7 D1 = some (.lst (bs.map V.ref)) ∧ RunsAt C H7 bs (rows (anF f m) (i7 + 1))) ?_⟩
          have st := s21.trans s7
          refine ⟨_, rfl, _, rfl, and_turn (ra.same st) (RunAt.same ⟨_, s1220 _ _ hdp⟩ st) f0 (by omega) m0 (by omega) hi7 fun q H8 s8 r8 => ?_⟩
          obtain ⟨z1, z2, z3, z4⟩ := runs_snoc (r := anF f m i7) s7 s8 hD1 h7 r7 r8
          refine ⟨_, z1, lenR (n := 31) ?_ (by decide), bs ++ [q], z2, z3, ?_⟩
          · rw [paired_len r7, rows_len]
            omega
          · rw [rows_succ]
            exact z4
        rintro H22 ⟨bs, s22, h22, r22⟩
        rw [List.length_map, las] at r22
        refine ⟨Nat.zero_le _, fun l hl => ?_⟩
        have s23 : Same H22 (upd H22 l (.lst [])) := put_same hl
        have w23 : (upd H22 l (.lst [])) l = some (.lst []) := upd_same
        generalize (upd H22 l (.lst [])) = H23 at s23 w23 ⊢
        refine ⟨D1, l, _, [], rfl, rfl, SqL.of (s23 _ _ h22), SqL.of w23, ?_, ?_⟩
        · rw [List.length_map, paired_len r22, rows_len]
          show npg f m ≠ 0
          omega
        refine ⟨false, rfl, iteF ?_⟩
        have s2123 := (s21.trans s22).trans s23
        refine ⟨_, rfl, D, rfl, ⟨_, SqL.of (s2123 _ _ w20)⟩, fun D2 hD2 => lc_list (K := K) (a := D) (xs := as.map V.ref) (fun i H' => ∃ bs : List Addr, Same H23 H' ∧ H' D2 = some (.lst (bs.map V.ref)) ∧ RunsAt C H' bs (rows (anF f m) i)) ⟨[], put_same hD2, upd_same, .nil⟩ (fun i H' _ ⟨_, s, _⟩ => s.seq (SqL.of (s2123 _ _ w20))) ?_ ?_⟩
        · rintro i7 x H7 hx ⟨bs, s7, h7, r7⟩
          obtain ⟨hi7, pa, rfl, ra⟩ := runs_ix r20 hx
          refine ⟨rfl, iteT (B := ∃ bs : List Addr, Same H23 H7 ∧ H7 D2 = some (.lst (bs.map V.ref)) ∧ RunsAt C H7 bs (rows (anF f m) (i7 + 1))) ?_⟩
          have st := s2123.trans s7
          refine ⟨_, rfl, _, rfl, and_turn (ra.same st) (RunAt.same ⟨_, s1220 _ _ hdp⟩ st) f0 (by omega) m0 (by omega) hi7 fun q H8 s8 r8 => ?_⟩
          obtain ⟨z1, z2, z3, z4⟩ := runs_snoc (r := anF f m i7) s7 s8 hD2 h7 r7 r8
          refine ⟨_, z1, lenR (n := 31) ?_ (by decide), bs ++ [q], z2, z3, ?_⟩
          · rw [paired_len r7, rows_len]
            omega
          · rw [rows_succ]
            exact z4
        rintro H24 ⟨cs, s24, h24, r24⟩
        rw [List.length_map, las] at r24
        have s2124 := s2123.trans s24
        refine ⟨D2, cs.map V.ref, rfl, rfl, h24, fun z hz => ?_, fun z hz H1 e1 => ?_, fun H' e => ⟨false, rfl, iteF ⟨rfl, s2124.trans e⟩⟩⟩
        · obtain ⟨i9, hi9⟩ := List.getElem?_of_mem hz
          obtain ⟨_, pa, rfl, d, hd⟩ := runs_ix r24 hi9
          exact ⟨pa, d, _, rfl, hd⟩
        · obtain ⟨i9, hi9⟩ := List.getElem?_of_mem hz
          obtain ⟨_, pa, rfl, d, hd⟩ := runs_ix r24 hi9
          exact ⟨pa, _, _, .non, rfl, ⟨d, e1 _ _ hd⟩, .inr ⟨_, .base .non, kNon, rfl, Same.refl _⟩⟩
      rintro σ H22 ⟨rfl, s22⟩
      refine ⟨fun σ H' => σ = [some (.ref a), some (.int (0 + (i : Int))), some (.ref b), some (.int (0 + (j : Int))), some (.int f), some (.int m), some (.ref p), some (.ref lw), some (.ref lx), some (.ref D), v10, v11, v12, v13] ∧ Same H20 H', ?_, ?_⟩
      · refine ⟨_, rfl, D, rfl, ⟨_, SqL.of (s22 _ _ w20)⟩, fun D1 hD1 => lc_list (K := K) (a := D) (xs := as.map V.ref) (fun i H' => Same H22 H' ∧ H' D1 = some (.lst ((rows (fun j => (anF f m j).2) i).map V.int))) ⟨put_same hD1, upd_same⟩ (fun i H' _ ⟨s, _⟩ => s.seq (SqL.of (s22 _ _ w20))) ?_ ?_⟩
        · rintro i7 x H7 hx ⟨s7, h7⟩
          obtain ⟨hi7, pa, rfl, ra⟩ := runs_ix r20 hx
          refine ⟨rfl, iteT (B := Same H22 H7 ∧ H7 D1 = some (.lst ((rows (fun j => (anF f m j).2) (i7 + 1)).map V.int))) ?_⟩
          have st := s22.trans s7
          obtain ⟨o1, o2, o3, o4⟩ := an_ok f0 m0 hi7
          have o5 : 0 ≤ (anF f m i7).2 := by
            show 0 ≤ hi (f / 4 * 4 + (i7 : Int) * 4 + 4) (f + m) - lo (f / 4 * 4 + (i7 : Int) * 4) f
            omega
          refine ⟨_, rfl, _, rfl, and_turn (ra.same st) (RunAt.same ⟨_, s1220 _ _ hdp⟩ st) f0 (by omega) m0 (by omega) hi7 fun q H8 s8 r8 => ?_⟩
          obtain ⟨dq, hdq⟩ := id r8
          refine ⟨q, dq, _, rfl, hdq, q, _, _, rfl, r8, o5, by omega, _, rfl, o5, by omega, ?_⟩
          refine ⟨_, s8 _ _ h7, ?_, put_snoc s7 s8 hD1, ?_⟩
          · rw [List.length_map, rows_len]
            exact Nat.lt_of_lt_of_le (show i7 < 100 by omega) (by decide)
          · rw [upd_same, rows_succ, List.map_append]
            rfl
        rintro H23 ⟨s23, h23⟩
        rw [List.length_map, las] at h23
        refine ⟨D1, _, rfl, SqL.of h23, ?_⟩
        rw [an_sum f0 m0]
        have s2023 := s22.trans s23
        refine ⟨_, rfl, rfl, false, by simp, iteF ?_⟩
        refine ⟨rfl, _, rfl, _, rfl, _, rfl, _, _, rfl, rfl, f, f + m, rfl, f0, by unfold Most; omega, by omega, by unfold Most; omega, fun q dq hq hdq ne => ?_⟩
        obtain ⟨s24, r24⟩ := run_new (C := C) (f := f) (m := f + m - f) hq hdq ne
        generalize (upd (upd H23 dq (.own q)) q (.ins C dq (rf f (f + m - f)))) = H24 at s24 r24 ⊢
        have s2024 := s2023.trans s24
        obtain ⟨d24, hd24⟩ := id r24
        have hp24 := s2024 _ _ (s1220 _ _ hdp)
        refine ⟨_, rfl, q, d24, _, .ref C, rfl, hd24, .base (.ins hp24 T.cl Z.ha Z.hn Z.htk Z.hm), nSelf, q, _, _, _, rfl, r24, .inl ⟨p, f, m, rfl, ⟨_, hp24⟩, _, rfl, ?_⟩⟩
        rw [show decide (f = f ∧ f + m - f = m) = true from decide_eq_true ⟨rfl, by omega⟩]
        exact ⟨true, rfl, iteF ⟨rfl, s2024⟩⟩
      rintro σ H23 ⟨rfl, s23⟩
      have s1223 := s1220.trans s23
      have b23 := b12.sameN s1223
      have f23 := f12.trans (offN_same (b := b) s1223)
      refine ⟨_, rfl, _, _, rfl, rfl, ⟨by decide, by decide, by decide⟩, _, rfl, b, 9, _, rfl, by decide, by decide, b23, by omega, fun r4 H24 r40 r41 b24 o24 => ⟨_, _, rfl, rfl, ?_⟩⟩
      have f24 := f23.step o24
      have gM : 1 ≤ 10 ^ Int.toNat 12 - r4 ∧ 10 ^ Int.toNat 12 - r4 ≤ 10 ^ 12 := by rw [e12]; omega
      dsimp only
      generalize 10 ^ Int.toNat 12 - r4 = M at gM ⊢
      obtain ⟨M0, M1⟩ := gM
      intro p2 dpl hp2 hdpl nel
      refine ⟨p2, dpl, _, _, rfl, upd_same, f0, by unfold Most; omega, M0, by unfold Most; omega, rfl, ?_⟩
      rw [upd_upd]
      obtain ⟨s25, r25⟩ := run_new (C := C) (f := f) (m := M) hp2 hdpl nel
      have b25 := b24.sameN s25
      have f25 := f24.trans (offN_same (b := b) s25)
      generalize (upd (upd H24 dpl (.own p2)) p2 (.ins C dpl (rf f M))) = H25 at s25 r25 b25 f25 ⊢
      obtain ⟨dl, hdl⟩ := id r25
      have sr : Same H25 H25 := Same.refl _
      refine ⟨_, rfl, _, rfl, p2, C, dl, _, _, rfl, hdl, T.cl, T.nM, rf_m _ _, _, _, rfl, rfl, _, _, rfl, rfl, ?_⟩
      refine ⟨_, rfl, p2, _, _, rfl, sr _ _ hdl, rf_no _ _ (by decide +kernel) (by decide +kernel), ?_⟩
      dsimp only [tNil]
      refine ⟨p2, f, M, rfl, ⟨_, sr _ _ hdl⟩, f0, by unfold Most; omega, M0, by unfold Most; omega, fun qy1 dqy1 hqy1 hdqy1 ney1 => ?_⟩
      obtain ⟨sy1, ry1⟩ := run_new (C := C) (f := (f / 2)) (m := ((f + M - 1) / 2 + 1 - f / 2)) hqy1 hdqy1 ney1
      generalize (upd (upd H25 dqy1 (.own qy1)) qy1 (.ins C dqy1 (rf (f / 2) ((f + M - 1) / 2 + 1 - f / 2)))) = Hy1 at sy1 ry1 ⊢
      refine ⟨qy1, _, _, rfl, ry1, fun ty1 hty1 => ?_⟩
      have sy2 : Same Hy1 (upd Hy1 ty1 (.tup [.int (f / 2), .int ((f + M - 1) / 2 + 1 - f / 2)])) := put_same hty1
      have uy1 : TupAt (upd Hy1 ty1 (.tup [.int (f / 2), .int ((f + M - 1) / 2 + 1 - f / 2)])) ty1 (f / 2) ((f + M - 1) / 2 + 1 - f / 2) := upd_same
      generalize (upd Hy1 ty1 (.tup [.int (f / 2), .int ((f + M - 1) / 2 + 1 - f / 2)])) = Hy2 at sy2 uy1 ⊢
      have sy3 := (sr.trans sy1).trans sy2
      refine ⟨_, rfl, p2, _, _, rfl, sy3 _ _ hdl, rf_no _ _ (by decide +kernel) (by decide +kernel), ?_⟩
      dsimp only [tNil]
      refine ⟨p2, f, M, rfl, ⟨_, sy3 _ _ hdl⟩, f0, by unfold Most; omega, M0, by unfold Most; omega, fun qy2 dqy2 hqy2 hdqy2 ney2 => ?_⟩
      obtain ⟨sy4, ry4⟩ := run_new (C := C) (f := (f / 4)) (m := ((f + M - 1) / 4 + 1 - f / 4)) hqy2 hdqy2 ney2
      generalize (upd (upd Hy2 dqy2 (.own qy2)) qy2 (.ins C dqy2 (rf (f / 4) ((f + M - 1) / 4 + 1 - f / 4)))) = Hy3 at sy4 ry4 ⊢
      refine ⟨qy2, _, _, rfl, ry4, fun ty2 hty2 => ?_⟩
      have sy5 : Same Hy3 (upd Hy3 ty2 (.tup [.int (f / 4), .int ((f + M - 1) / 4 + 1 - f / 4)])) := put_same hty2
      have uy2 : TupAt (upd Hy3 ty2 (.tup [.int (f / 4), .int ((f + M - 1) / 4 + 1 - f / 4)])) ty2 (f / 4) ((f + M - 1) / 4 + 1 - f / 4) := upd_same
      generalize (upd Hy3 ty2 (.tup [.int (f / 4), .int ((f + M - 1) / 4 + 1 - f / 4)])) = Hy4 at sy5 uy2 ⊢
      refine ⟨(by show 2 ≤ sizeLine; decide), fun ly hly => ?_⟩
      have sy6 : Same Hy4 (upd Hy4 ly (.lst [.ref ty1, .ref ty2])) := put_same hly
      have wy : (upd Hy4 ly (.lst [.ref ty1, .ref ty2])) ly = some (.lst ([ty1, ty2].map V.ref)) := upd_same
      generalize (upd Hy4 ly (.lst [.ref ty1, .ref ty2])) = H26 at sy6 wy ⊢
      have py : PairsAt H26 [ty1, ty2] [((f / 2), ((f + M - 1) / 2 + 1 - f / 2)), ((f / 4), ((f + M - 1) / 4 + 1 - f / 4))] := .cons (sy6 _ _ (sy5 _ _ (sy4 _ _ uy1))) (.cons (sy6 _ _ uy2) .nil)
      have sy := ((sy3.trans sy4).trans sy5).trans sy6
      clear sy1 sy2 sy3 sy4 sy5 sy6 uy1 uy2 ry1 ry4
      rw [show (f + M - 1) / 2 + 1 - f / 2 = (f + M - 1) / 2 - f / 2 + 1 by omega, show (f + M - 1) / 4 + 1 - f / 4 = (f + M - 1) / 4 - f / 4 + 1 by omega] at py
      refine ⟨_, rfl, _, rfl, _, _, rfl, rfl, ⟨by decide, by decide⟩, _, rfl, _, _, rfl, rfl, ⟨by decide, by decide⟩, _, rfl, _, _, rfl, rfl, ⟨by decide, by decide⟩, _, _, rfl, rfl, _, _, rfl, rfl, (by show 2 ≤ sizeLine; decide), fun t1 ht1 => ?_⟩
      have s27 := put_same (o := .tup [.int (f / 2), .int ((f + M - 1) / 2 - f / 2 + 1)]) ht1
      have u27 : TupAt (upd H26 t1 (.tup [.int (f / 2), .int ((f + M - 1) / 2 - f / 2 + 1)])) t1 (f / 2) ((f + M - 1) / 2 - f / 2 + 1) := upd_same
      dsimp only
      generalize (upd H26 t1 (.tup [.int (f / 2), .int ((f + M - 1) / 2 - f / 2 + 1)])) = H27 at s27 u27 ⊢
      refine ⟨_, rfl, _, _, rfl, rfl, ⟨by decide, by decide⟩, _, rfl, _, _, rfl, rfl, ⟨by decide, by decide⟩, _, rfl, _, _, rfl, rfl, ⟨by decide, by decide⟩, _, _, rfl, rfl, _, _, rfl, rfl, (by show 2 ≤ sizeLine; decide), fun t2 ht2 => ?_⟩
      have s28 := put_same (o := .tup [.int (f / 4), .int ((f + M - 1) / 4 - f / 4 + 1)]) ht2
      have u28 : TupAt (upd H27 t2 (.tup [.int (f / 4), .int ((f + M - 1) / 4 - f / 4 + 1)])) t2 (f / 4) ((f + M - 1) / 4 - f / 4 + 1) := upd_same
      dsimp only
      generalize (upd H27 t2 (.tup [.int (f / 4), .int ((f + M - 1) / 4 - f / 4 + 1)])) = H28 at s28 u28 ⊢
      refine ⟨(by show 2 ≤ sizeLine; decide), fun l5 hl5 => ?_⟩
      have s29 : Same H28 (upd H28 l5 (.lst [.ref t1, .ref t2])) := put_same hl5
      have w29 : (upd H28 l5 (.lst [.ref t1, .ref t2])) l5 = some (.lst ([t1, t2].map V.ref)) := upd_same
      generalize (upd H28 l5 (.lst [.ref t1, .ref t2])) = H29 at s29 w29 ⊢
      have p29 : PairsAt H29 [t1, t2] [(f / 2, (f + M - 1) / 2 - f / 2 + 1), (f / 4, (f + M - 1) / 4 - f / 4 + 1)] := .cons (s29 _ _ (s28 _ _ u27)) (.cons (s29 _ _ u28) .nil)
      have s2629 := (s27.trans s28).trans s29
      refine ⟨_, _, dp_pairs (SqL.of (s2629 _ _ wy)) (PairsAt.same py s2629), dp_pairs (SqL.of w29) p29, shaped_pairs _, shaped_pairs _, ?_⟩
      rw [eqv_self (shaped_pairs _)]
      have s2529 := sy.trans s2629
      exact ⟨false, rfl, iteF ⟨_, _, _, _, _, _, _, _, _, _, _, rfl, fin _ (f25.trans (offN_same (b := b) s2529)), (b25.sameN s2529).le (by omega)⟩⟩
    · rintro σ H6 ⟨v3, v4, v5, v6, v7, v8, v9, v10, v11, v12, v13, rfl, s6, _⟩
      exact ⟨_, _, _, _, _, _, _, _, _, _, _, _, _, rfl, s6⟩
  · rintro σ H2 ⟨v1, v2, v3, v4, v5, v6, v7, v8, v9, v10, v11, v12, v13, rfl, s2⟩
    rfl
end
end Ru
namespace Ru
open PySem L2
/-! ### what the top has written, the head -/
theorem all_mk {lw : PySem.W.OpenLaw} {w : World} {K : PySem.W.Frag} {h : Heap} {mg : Str → Option Value} {fa f99 f1 f2 f3 f19 f20 f21 f22 f23 f4 f5 f7 f6 f8 f9 f12 f13 f15 pp4 pp5 pp7 C : Addr} {tM tL tP : Tok} (X : K.In h) (G : h.Ns mainGlobals mg) (hfa : mg "law" = some (.ref fa))
    {od99 an99 od1 an1 od2 an2 od3 an3 od19 an19 od20 an20 od21 an21 od22 an22 od23 an23 od4 an4 od5 an5 od7 an7 od6 an6 od8 an8 od9 an9 od12 an12 od13 an13 od15 an15 : Option Addr} {sl99 sl1 sl2 sl3 sl19 sl20 sl21 sl22 sl23 sl4 sl5 sl7 sl6 sl8 sl9 sl12 sl13 sl15 : Array (Option Value)} {oc99 kV99 dc99 pm99 cd99 ct99 oc1 kV1 dc1 pm1 cd1 ct1 oc2 kV2 dc2 pm2 cd2 ct2 oc3 kV3 dc3 pm3 cd3 ct3 oc19 kV19 dc19 pm19 cd19 ct19 oc20 kV20 dc20 pm20 cd20 ct20 oc21 kV21 dc21 pm21 cd21 ct21 oc22 kV22 dc22 pm22 cd22 ct22 oc23 kV23 dc23 pm23 cd23 ct23 oc4 kV4 dc4 pm4 cd4 ct4 oc5 kV5 dc5 pm5 cd5 ct5 oc7 kV7 dc7 pm7 cd7 ct7 oc6 kV6 dc6 pm6 cd6 ct6 oc8 kV8 dc8 pm8 cd8 ct8 oc9 kV9 dc9 pm9 cd9 ct9 oc12 kV12 dc12 pm12 cd12 ct12 oc13 kV13 dc13 pm13 cd13 ct13 oc15 kV15 dc15 pm15 cd15 ct15 : Value}
    {rest4 rest5 rest7 : List Value}
    (aC : PySem.W.nsIn K mainGlobals "Run" = some (some (.ref C)))
    (a1 : PySem.W.findIn K (.ref C) "__init__" = some (some (.ref f1)))
    (i1 : PySem.W.isFn K (.ref f1) = true)
    (a2 : PySem.W.findIn K (.ref C) "words" = some (some (.ref f2)))
    (i2 : PySem.W.isFn K (.ref f2) = true)
    (a3 : PySem.W.findIn K (.ref C) "__eq__" = some (some (.ref f3)))
    (i3 : PySem.W.isFn K (.ref f3) = true)
    (a19 : PySem.W.findIn K (.ref C) "__and__" = some (some (.ref f19)))
    (i19 : PySem.W.isFn K (.ref f19) = true)
    (a20 : PySem.W.findIn K (.ref C) "__len__" = some (some (.ref f20)))
    (i20 : PySem.W.isFn K (.ref f20) = true)
    (a21 : PySem.W.findIn K (.ref C) "touched_lines" = some (some (.ref f21)))
    (i21 : PySem.W.isFn K (.ref f21) = true)
    (a22 : PySem.W.findIn K (.ref C) "touched_pages" = some (some (.ref f22)))
    (i22 : PySem.W.isFn K (.ref f22) = true)
    (a23 : PySem.W.findIn K (.ref C) "_touched" = some (some (.ref f23)))
    (i23 : PySem.W.isFn K (.ref f23) = true)
    (p14 : PySem.W.findIn K (.ref C) "end" = some (some (.ref pp4)))
    (p24 : PySem.W.specialIn K (.ref pp4) "__get__" = some (some (.builtin "property.__get__")))
    (p34 : PySem.W.takesIn K (.ref pp4) = some true)
    (p44 : PySem.W.recIn K pp4 "property" = some (.ref f4 :: rest4))
    (q15 : PySem.W.findCls K (.ref C) (.type "type") "between" = some (.get (.builtin "classmethod.__get__") (.ref pp5) .none (.ref C)))
    (q25 : PySem.W.recIn K pp5 "classmethod" = some (.ref f5 :: rest5))
    (q35 : PySem.W.fnIn K f5 = true)
    (s17 : PySem.W.findCls K (.ref C) (.type "type") "of_page" = some (.get (.builtin "staticmethod.__get__") (.ref pp7) .none (.ref C)))
    (s27 : PySem.W.recIn K pp7 "staticmethod" = some (.ref f7 :: rest7))
    (a6 : PySem.W.nsIn K mainGlobals "whole" = some (some (.ref f6)))
    (a99 : PySem.W.nsIn K mainGlobals "integer" = some (some (.ref f99)))
    (a8 : PySem.W.nsIn K mainGlobals "_law_bag" = some (some (.ref f8)))
    (a9 : PySem.W.nsIn K mainGlobals "_law_take" = some (some (.ref f9)))
    (a12 : PySem.W.nsIn K mainGlobals "_law_shown" = some (some (.ref f12)))
    (a13 : PySem.W.nsIn K mainGlobals "_law_blocks" = some (some (.ref f13)))
    (a15 : PySem.W.nsIn K mainGlobals "law" = some (some (.ref f15)))
    (l1 : K.lookup f1 = some ⟨oc1, od1, .func (PySem.W.fnOf "__init__" "Run.__init__" (defArgs sInit) (defBody sInit) (defScope sInit) .none kV1 dc1 pm1 an1 cd1 ct1), sl1⟩)
    (c1 : PySem.W.codeIn K cd1 "Run.__init__" = true)
    (k1 : PySem.W.keepIn K (.ref f1) = true)
    (l2 : K.lookup f2 = some ⟨oc2, od2, .func (PySem.W.fnOf "words" "Run.words" (defArgs sWords) (defBody sWords) (defScope sWords) .none kV2 dc2 pm2 an2 cd2 ct2), sl2⟩)
    (c2 : PySem.W.codeIn K cd2 "Run.words" = true)
    (k2 : PySem.W.keepIn K (.ref f2) = true)
    (l3 : K.lookup f3 = some ⟨oc3, od3, .func (PySem.W.fnOf "__eq__" "Run.__eq__" (defArgs sEq) (defBody sEq) (defScope sEq) .none kV3 dc3 pm3 an3 cd3 ct3), sl3⟩)
    (c3 : PySem.W.codeIn K cd3 "Run.__eq__" = true)
    (k3 : PySem.W.keepIn K (.ref f3) = true)
    (l19 : K.lookup f19 = some ⟨oc19, od19, .func (PySem.W.fnOf "__and__" "Run.__and__" (defArgs sAnd) (defBody sAnd) (defScope sAnd) .none kV19 dc19 pm19 an19 cd19 ct19), sl19⟩)
    (c19 : PySem.W.codeIn K cd19 "Run.__and__" = true)
    (k19 : PySem.W.keepIn K (.ref f19) = true)
    (l20 : K.lookup f20 = some ⟨oc20, od20, .func (PySem.W.fnOf "__len__" "Run.__len__" (defArgs sLen) (defBody sLen) (defScope sLen) .none kV20 dc20 pm20 an20 cd20 ct20), sl20⟩)
    (c20 : PySem.W.codeIn K cd20 "Run.__len__" = true)
    (k20 : PySem.W.keepIn K (.ref f20) = true)
    (l21 : K.lookup f21 = some ⟨oc21, od21, .func (PySem.W.fnOf "touched_lines" "Run.touched_lines" (defArgs sTLines) (defBody sTLines) (defScope sTLines) .none kV21 dc21 pm21 an21 cd21 ct21), sl21⟩)
    (c21 : PySem.W.codeIn K cd21 "Run.touched_lines" = true)
    (k21 : PySem.W.keepIn K (.ref f21) = true)
    (l22 : K.lookup f22 = some ⟨oc22, od22, .func (PySem.W.fnOf "touched_pages" "Run.touched_pages" (defArgs sTPages) (defBody sTPages) (defScope sTPages) .none kV22 dc22 pm22 an22 cd22 ct22), sl22⟩)
    (c22 : PySem.W.codeIn K cd22 "Run.touched_pages" = true)
    (k22 : PySem.W.keepIn K (.ref f22) = true)
    (l23 : K.lookup f23 = some ⟨oc23, od23, .func (PySem.W.fnOf "_touched" "Run._touched" (defArgs sTouched) (defBody sTouched) (defScope sTouched) .none kV23 dc23 pm23 an23 cd23 ct23), sl23⟩)
    (c23 : PySem.W.codeIn K cd23 "Run._touched" = true)
    (k23 : PySem.W.keepIn K (.ref f23) = true)
    (l4 : K.lookup f4 = some ⟨oc4, od4, .func (PySem.W.fnOf "end" "Run.end" (defArgs sEnd) (defBody sEnd) (defScope sEnd) .none kV4 dc4 pm4 an4 cd4 ct4), sl4⟩)
    (c4 : PySem.W.codeIn K cd4 "Run.end" = true)
    (k4 : PySem.W.keepIn K (.ref f4) = true)
    (l5 : K.lookup f5 = some ⟨oc5, od5, .func (PySem.W.fnOf "between" "Run.between" (defArgs sBetween) (defBody sBetween) (defScope sBetween) .none kV5 dc5 pm5 an5 cd5 ct5), sl5⟩)
    (c5 : PySem.W.codeIn K cd5 "Run.between" = true)
    (k5 : PySem.W.keepIn K (.ref f5) = true)
    (l7 : K.lookup f7 = some ⟨oc7, od7, .func (PySem.W.fnOf "of_page" "Run.of_page" (defArgs sOfPage) (defBody sOfPage) (defScope sOfPage) .none kV7 dc7 pm7 an7 cd7 ct7), sl7⟩)
    (c7 : PySem.W.codeIn K cd7 "Run.of_page" = true)
    (k7 : PySem.W.keepIn K (.ref f7) = true)
    (l6 : K.lookup f6 = some ⟨oc6, od6, .func (PySem.W.fnOf "whole" "whole" (defArgs sWhole) (defBody sWhole) (defScope sWhole) .none kV6 dc6 pm6 an6 cd6 ct6), sl6⟩)
    (l99 : K.lookup f99 = some ⟨oc99, od99, .func (PySem.W.fnOf "integer" "integer" (defArgs sInteger) (defBody sInteger) (defScope sInteger) .none kV99 dc99 pm99 an99 cd99 ct99), sl99⟩)
    (c6 : PySem.W.codeIn K cd6 "whole" = true)
    (c99 : PySem.W.codeIn K cd99 "integer" = true)
    (k6 : PySem.W.keepIn K (.ref f6) = true)
    (k99 : PySem.W.keepIn K (.ref f99) = true)
    (l8 : K.lookup f8 = some ⟨oc8, od8, .func (PySem.W.fnOf "_law_bag" "_law_bag" (defArgs sBag) (defBody sBag) (defScope sBag) .none kV8 dc8 pm8 an8 cd8 ct8), sl8⟩)
    (c8 : PySem.W.codeIn K cd8 "_law_bag" = true)
    (k8 : PySem.W.keepIn K (.ref f8) = true)
    (l9 : K.lookup f9 = some ⟨oc9, od9, .func (PySem.W.fnOf "_law_take" "_law_take" (defArgs sTake) (defBody sTake) (defScope sTake) .none kV9 dc9 pm9 an9 cd9 ct9), sl9⟩)
    (c9 : PySem.W.codeIn K cd9 "_law_take" = true)
    (k9 : PySem.W.keepIn K (.ref f9) = true)
    (l12 : K.lookup f12 = some ⟨oc12, od12, .func (PySem.W.fnOf "_law_shown" "_law_shown" (defArgs sLShown) (defBody sLShown) (defScope sLShown) .none kV12 dc12 pm12 an12 cd12 ct12), sl12⟩)
    (c12 : PySem.W.codeIn K cd12 "_law_shown" = true)
    (k12 : PySem.W.keepIn K (.ref f12) = true)
    (l13 : K.lookup f13 = some ⟨oc13, od13, .func (PySem.W.fnOf "_law_blocks" "_law_blocks" (defArgs sLBlocks) (defBody sLBlocks) (defScope sLBlocks) .none kV13 dc13 pm13 an13 cd13 ct13), sl13⟩)
    (c13 : PySem.W.codeIn K cd13 "_law_blocks" = true)
    (k13 : PySem.W.keepIn K (.ref f13) = true)
    (l15 : K.lookup f15 = some ⟨oc15, od15, .func (PySem.W.fnOf "law" "law" (defArgs sLaw) (defBody sLaw) (defScope sLaw) .none kV15 dc15 pm15 an15 cd15 ct15), sl15⟩)
    (c15 : PySem.W.codeIn K cd15 "law" = true)
    (k15 : PySem.W.keepIn K (.ref f15) = true)
    (pg : PySem.W.plainGet K C Str.empty = true)
    (hd : PySem.W.hasDictIn K C = true)
    (po : PySem.W.plainOver K C = true)
    (sa : PySem.W.findIn K (.ref C) "__setattr__" = some (some (.builtin "object.__setattr__")))
    (mk : PySem.W.makesIn K C = true)
    (kc : PySem.W.keepIn K (.ref C) = true)
    (nF : PySem.W.findIn K (.ref C) "first" = some none)
    (nM : PySem.W.findIn K (.ref C) "many" = some none)
    (r1 : PySem.W.readsIn K C (.type "type") = true)
    (r2 : PySem.W.specialIn K (.ref C) "__getattribute__" = some (some (.builtin "type.__getattribute__")))
    (v1 : PySem.W.findCls K (.ref C) (.type "type") "LINE" = some (.val (.int 2 tL)))
    (v2 : PySem.W.findCls K (.ref C) (.type "type") "PAGE" = some (.val (.int 4 tP)))
    (mo : PySem.W.nsIn K mainGlobals "_MOST" = some (some (.int 1000000000000 tM)))
    (e1 : PySem.W.findIn K (.ref C) "__class__" = some (some (.builtin "object.__class__")))
    (e2 : PySem.W.specialIn K (.builtin "object.__class__") "__get__" = some (some (.builtin "getset_descriptor.__get__")))
    (e3 : PySem.W.takesIn K (.builtin "object.__class__") = some true)
    (e4 : PySem.W.mroIn K C (.type "object") = some true)
    (sf : PySem.W.selfFirst K C = true)
    (ns : PySem.W.notFirst K C (.ref C) = true)
    (x_NoneType : PySem.W.kitOne K (.type "NoneType") (.ref C) = some false)
    (y_NoneType : PySem.W.notFirst K C (.type "NoneType") = true)
    (z_len : PySem.W.nsIn K mainGlobals "len" = some none)
    (z_abs : PySem.W.nsIn K mainGlobals "abs" = some none)
    (z_range : PySem.W.nsIn K mainGlobals "range" = some none)
    (z_min : PySem.W.nsIn K mainGlobals "min" = some none)
    (z_max : PySem.W.nsIn K mainGlobals "max" = some none)
    (z_list : PySem.W.nsIn K mainGlobals "list" = some none)
    (z_sum : PySem.W.nsIn K mainGlobals "sum" = some none)
    (z_isinstance : PySem.W.nsIn K mainGlobals "isinstance" = some none)
    (z_int : PySem.W.nsIn K mainGlobals "int" = some none)
    (z_bool : PySem.W.nsIn K mainGlobals "bool" = some none) :
    Tp.TopOk lw.prog w K mg fa 63 := by
  have e := hfa.symm.trans (PySem.W.mg_of X G a15)
  cases e
  have F1 := fun_mk (st := sInit) l1 c1 k1
  have b1 := F1.binds (ps := ["self", "first", "many"]) fun _ _ _ _ _ _ us hl => match us, hl with | [_, _, _], _ => rfl
  have F2 := fun_mk (st := sWords) l2 c2 k2
  have b2 := F2.binds (ps := ["self"]) fun _ _ _ _ _ _ us hl => match us, hl with | [_], _ => rfl
  have F3 := fun_mk (st := sEq) l3 c3 k3
  have b3 := F3.binds (ps := ["self", "other"]) fun _ _ _ _ _ _ us hl => match us, hl with | [_, _], _ => rfl
  have F19 := fun_mk (st := sAnd) l19 c19 k19
  have b19 := F19.binds (ps := ["self", "other"]) fun _ _ _ _ _ _ us hl => match us, hl with | [_, _], _ => rfl
  have F20 := fun_mk (st := sLen) l20 c20 k20
  have b20 := F20.binds (ps := ["self"]) fun _ _ _ _ _ _ us hl => match us, hl with | [_], _ => rfl
  have F21 := fun_mk (st := sTLines) l21 c21 k21
  have b21 := F21.binds (ps := ["self"]) fun _ _ _ _ _ _ us hl => match us, hl with | [_], _ => rfl
  have F22 := fun_mk (st := sTPages) l22 c22 k22
  have b22 := F22.binds (ps := ["self"]) fun _ _ _ _ _ _ us hl => match us, hl with | [_], _ => rfl
  have F23 := fun_mk (st := sTouched) l23 c23 k23
  have b23 := F23.binds (ps := ["self", "size"]) fun _ _ _ _ _ _ us hl => match us, hl with | [_, _], _ => rfl
  have F4 := fun_mk (st := sEnd) l4 c4 k4
  have b4 := F4.binds (ps := ["self"]) fun _ _ _ _ _ _ us hl => match us, hl with | [_], _ => rfl
  have F5 := fun_mk (st := sBetween) l5 c5 k5
  have b5 := F5.binds (ps := ["cls", "first", "end"]) fun _ _ _ _ _ _ us hl => match us, hl with | [_, _, _], _ => rfl
  have F7 := fun_mk (st := sOfPage) l7 c7 k7
  have b7 := F7.binds (ps := ["page"]) fun _ _ _ _ _ _ us hl => match us, hl with | [_], _ => rfl
  have F6 := fun_mk (st := sWhole) l6 c6 k6
  have F99 := fun_mk (st := sInteger) l99 c99 k99
  have b6 := F6.binds (ps := ["value", "least", "most"]) fun _ _ _ _ _ _ us hl => match us, hl with | [_, _, _], _ => rfl
  have b99 := F99.binds (ps := ["value"]) fun _ _ _ _ _ _ us hl => match us, hl with | [_], _ => rfl
  have F8 := fun_mk (st := sBag) l8 c8 k8
  have b8 := F8.binds (ps := ["_law_script", "_law_at"]) fun _ _ _ _ _ _ us hl => match us, hl with | [_, _], _ => rfl
  have F9 := fun_mk (st := sTake) l9 c9 k9
  have b9 := F9.binds (ps := ["_law_bag_here", "_law_many"]) fun _ _ _ _ _ _ us hl => match us, hl with | [_, _], _ => rfl
  have F12 := fun_mk (st := sLShown) l12 c12 k12
  have b12 := F12.binds (ps := ["_law_run"]) fun _ _ _ _ _ _ us hl => match us, hl with | [_], _ => rfl
  have F13 := fun_mk (st := sLBlocks) l13 c13 k13
  have b13 := F13.binds (ps := ["_law_words", "_law_size"]) fun _ _ _ _ _ _ us hl => match us, hl with | [_, _], _ => rfl
  have F15 := fun_mk (st := sLaw) l15 c15 k15
  have P4 : PropOf K C "end" pp4 f4 := ⟨p14, p24, p34, ⟨_, p44⟩⟩
  have Q5 : ClX.CMet K C (.type "type") "between" pp5 f5 := ⟨q15, ⟨_, q25⟩, q35⟩
  have D6 : Def K mg "whole" f6 _ ["value", "least", "most"] := ⟨PySem.W.mg_of X G a6, k6, b6⟩
  have D99 : Def K mg "integer" f99 _ ["value"] := ⟨PySem.W.mg_of X G a99, k99, b99⟩
  have D8 : Def K mg "_law_bag" f8 _ ["_law_script", "_law_at"] := ⟨PySem.W.mg_of X G a8, k8, b8⟩
  have D9 : Def K mg "_law_take" f9 _ ["_law_bag_here", "_law_many"] := ⟨PySem.W.mg_of X G a9, k9, b9⟩
  have D12 : Def K mg "_law_shown" f12 _ ["_law_run"] := ⟨PySem.W.mg_of X G a12, k12, b12⟩
  have D13 : Def K mg "_law_blocks" f13 _ ["_law_words", "_law_size"] := ⟨PySem.W.mg_of X G a13, k13, b13⟩
  intro base s H a ns' hn _ _ e0 hS
  have T : TR K mg C (.type "type") tM := ⟨⟨pg, hd, po, sa⟩, nF, nM, PySem.W.mg_of X G aC, PySem.W.mg_of X G mo, PySem.W.mg_none_of X G z_isinstance, PySem.W.mg_none_of X G z_int, PySem.W.mg_none_of X G z_bool, PySem.W.mg_none_of X G z_range, ⟨r1, r2⟩⟩
  have B : TB mg := ⟨PySem.W.mg_none_of X G z_len, PySem.W.mg_none_of X G z_abs, PySem.W.mg_none_of X G z_range, PySem.W.mg_none_of X G z_min, PySem.W.mg_none_of X G z_max, PySem.W.mg_none_of X G z_list, PySem.W.mg_none_of X G z_sum⟩
  have Z : IsR K C := ⟨e1, e2, e3, e4⟩
  have MI : Mk K C f1 := ⟨mk, a1, i1, kc⟩
  have cP : ClX.CVal K C (.type "type") "PAGE" (.int 4) (.int 4 tP) := ⟨v2, ⟨_, rfl⟩⟩
  have cL : ClX.CVal K C (.type "type") "LINE" (.int 2) (.int 2 tL) := ⟨v1, ⟨_, rfl⟩⟩
  have GNi : FnOk lw.prog w K mg base CX0 1 f99 _ ["value"] (spInteger K) := ok_integer F99 T
  have GWh : FnOk lw.prog w K mg base CX0 2 f6 _ ["value", "least", "most"] (spWhole K) := ok_whole F6 GNi D99
  have GI : FnOk lw.prog w K mg base CX0 3 f1 _ ["self", "first", "many"] (spInit C) := ok_init F1 T GWh D6
  have GE : FnOk lw.prog w K mg base CX0 2 f4 _ ["self"] (spEnd C) := ok_end F4 T
  have GB : FnOk lw.prog w K mg base CX0 5 f5 _ ["cls", "first", "end"] (spBetween C) := ok_between F5 T GWh D6 MI GI b1
  have GBR : FnR lw.prog w K mg base CX0 5 f5 (spBetween C) := (GB.raw b5 .nil).imp fun vs H Q E z => by rw [List.append_nil]; exact z
  have GT : FnOk lw.prog w K mg base CX0 6 f23 _ ["self", "size"] (spTouched C) := ok_touched F23 T GE b4 P4 GBR Q5
  have mT : Meth K C "_touched" f23 := ⟨a23, i23, k23⟩
  have GTL : FnOk lw.prog w K mg base CX0 7 f21 _ ["self"] (spBlocks C 2) := ok_tlines F21 T cL GT b23 mT
  have GTP : FnOk lw.prog w K mg base CX0 7 f22 _ ["self"] (spBlocks C 4) := ok_tpages F22 T cP GT b23 mT
  have GO : FnOk lw.prog w K mg base CX0 5 f7 _ ["page"] (spOfPage C) := ok_ofpage F7 T cP MI GI b1
  exact law_run l15 c15 (fun s v => .of_eq rfl) T B Z x_NoneType y_NoneType ns ⟨ok_bag F8 B, D8⟩ ⟨ok_take F9, D9⟩ ⟨ok_lshown F12 T, D12⟩ ⟨ok_lblocks F13 B, D13⟩
    MI GI b1 (ok_words F2 T GE b4 P4) (ok_wordsA F2 T GE b4 P4) b2 ⟨a2, i2, k2⟩ ⟨s17, ⟨_, s27⟩, k7⟩ GO b7 Q5 GBR ⟨GTL, ⟨a21, i21, k21⟩, b21⟩ ⟨GTP, ⟨a22, i22, k22⟩, b22⟩
    ⟨ok_eq F3 T Z, a3, i3, b3⟩ ⟨ok_and F19 T (PySem.W.mg_none_of X G z_max) (PySem.W.mg_none_of X G z_min) MI GI b1 GE b4 P4, a19, i19, b19⟩ sf ⟨ok_len F20 T (PySem.W.mg_none_of X G z_len), a20, i20, b20⟩ hn e0 hS
theorem walk {l : PySem.W.OpenLaw} {q : Program} {loose : List Str} {XP : (Str → Option Value) → Heap → Prop} {YP : World → Heap → Prop} {d : DefRec} {K : Params → PySem.W.Frag} (hn : l.most = some 63) (hdf : d.params.defaults = [])
    (hY : ∀ (w : World) (h : Heap), YP w h → (K w.params).In h)
    (F : ∀ (w : World) (mg : Str → Option Value) (fa : Addr) (h : Heap), (K w.params).In h → h.Ns mainGlobals mg → mg d.name = some (.ref fa) → Tp.TopOk l.prog w (K w.params) mg fa 63) :
    PySem.W.WalkO q loose XP YP l.row.toRowW d [] (fun f vs => PySem.call f vs) := Tp.walk_top (n := 63) hn (by decide) hdf hY F
end Ru

open PySem PySem.W PyProof.Rows
set_option maxRecDepth 100000 in
set_option maxHeartbeats 0 in
theorem PySem.Challenge.cw_devicewindows_k03_touched_lines_and_page_holds : PySem.Challenge.rw_devicewindows_k03_touched_lines_and_page.Holds := by
  w_on; o_law; k_head; (case hw => w_witness2)
  k_fill
  refine Ru.walk (l := PySem.Challenge.rw_devicewindows_k03_touched_lines_and_page) rfl rfl (fun w h Y => PySem.W.kIn_of Y) ?F
  case F =>
    intro w mg fa h KX G hmg
    refine' Ru.all_mk KX G hmg ?aC ?a1 ?i1 ?a2 ?i2 ?a3 ?i3 ?a19 ?i19 ?a20 ?i20 ?a21 ?i21 ?a22 ?i22 ?a23 ?i23 ?p14 ?p24 ?p34 ?p44 ?q15 ?q25 ?q35 ?s17 ?s27 ?a6 ?a99 ?a8 ?a9 ?a12 ?a13 ?a15 ?l1 ?c1 ?k1 ?l2 ?c2 ?k2 ?l3 ?c3 ?k3 ?l19 ?c19 ?k19 ?l20 ?c20 ?k20 ?l21 ?c21 ?k21 ?l22 ?c22 ?k22 ?l23 ?c23 ?k23 ?l4 ?c4 ?k4 ?l5 ?c5 ?k5 ?l7 ?c7 ?k7 ?l6 ?l99 ?c6 ?c99 ?k6 ?k99 ?l8 ?c8 ?k8 ?l9 ?c9 ?k9 ?l12 ?c12 ?k12 ?l13 ?c13 ?k13 ?l15 ?c15 ?k15 ?pg ?hd ?po ?sa ?mk ?kc ?nF ?nM ?r1 ?r2 ?v1 ?v2 ?mo ?e1 ?e2 ?e3 ?e4 ?sf ?ns ?x_NoneType ?y_NoneType ?z_len ?z_abs ?z_range ?z_min ?z_max ?z_list ?z_sum ?z_isinstance ?z_int ?z_bool
    (case aC => k_is)
    (case a1 => k_is)
    (case i1 => k_is)
    (case a2 => k_is)
    (case i2 => k_is)
    (case a3 => k_is)
    (case i3 => k_is)
    (case a19 => k_is)
    (case i19 => k_is)
    (case a20 => k_is)
    (case i20 => k_is)
    (case a21 => k_is)
    (case i21 => k_is)
    (case a22 => k_is)
    (case i22 => k_is)
    (case a23 => k_is)
    (case i23 => k_is)
    (case p14 => k_is)
    (case p24 => k_is)
    (case p34 => k_is)
    (case p44 => k_is)
    (case q15 => k_is)
    (case q25 => k_is)
    (case q35 => k_is)
    (case s17 => k_is)
    (case s27 => k_is)
    (case a6 => k_is)
    (case a99 => k_is)
    (case a8 => k_is)
    (case a9 => k_is)
    (case a12 => k_is)
    (case a13 => k_is)
    (case a15 => k_is)
    (case l1 => k_is)
    (case c1 => k_is)
    (case k1 => k_is)
    (case l2 => k_is)
    (case c2 => k_is)
    (case k2 => k_is)
    (case l3 => k_is)
    (case c3 => k_is)
    (case k3 => k_is)
    (case l19 => k_is)
    (case c19 => k_is)
    (case k19 => k_is)
    (case l20 => k_is)
    (case c20 => k_is)
    (case k20 => k_is)
    (case l21 => k_is)
    (case c21 => k_is)
    (case k21 => k_is)
    (case l22 => k_is)
    (case c22 => k_is)
    (case k22 => k_is)
    (case l23 => k_is)
    (case c23 => k_is)
    (case k23 => k_is)
    (case l4 => k_is)
    (case c4 => k_is)
    (case k4 => k_is)
    (case l5 => k_is)
    (case c5 => k_is)
    (case k5 => k_is)
    (case l7 => k_is)
    (case c7 => k_is)
    (case k7 => k_is)
    (case l6 => k_is)
    (case l99 => k_is)
    (case c6 => k_is)
    (case c99 => k_is)
    (case k6 => k_is)
    (case k99 => k_is)
    (case l8 => k_is)
    (case c8 => k_is)
    (case k8 => k_is)
    (case l9 => k_is)
    (case c9 => k_is)
    (case k9 => k_is)
    (case l12 => k_is)
    (case c12 => k_is)
    (case k12 => k_is)
    (case l13 => k_is)
    (case c13 => k_is)
    (case k13 => k_is)
    (case l15 => k_is)
    (case c15 => k_is)
    (case k15 => k_is)
    (case pg => k_is)
    (case hd => k_is)
    (case po => k_is)
    (case sa => k_is)
    (case mk => k_is)
    (case kc => k_is)
    (case nF => k_is)
    (case nM => k_is)
    (case r1 => k_is)
    (case r2 => k_is)
    (case v1 => k_is)
    (case v2 => k_is)
    (case mo => k_is)
    (case e1 => k_is)
    (case e2 => k_is)
    (case e3 => k_is)
    (case e4 => k_is)
    (case sf => k_is)
    (case ns => k_is)
    (case x_NoneType => first | kernel_rfl | rfl | decide +kernel)
    (case y_NoneType => k_is)
    (case z_len => k_is)
    (case z_abs => k_is)
    (case z_range => k_is)
    (case z_min => k_is)
    (case z_max => k_is)
    (case z_list => k_is)
    (case z_sum => k_is)
    (case z_isinstance => k_is)
    (case z_int => k_is)
    (case z_bool => k_is)
