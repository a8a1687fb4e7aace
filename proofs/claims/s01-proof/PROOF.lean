import PyProof.Rows.All
import Wide.All
import OpenK.AllK
import Wide.FinOn
import PyProof.EqAt
import PyProof.EqKinds
import PyProof.TupleCall
import KE.KDictKeyed
import HandS.ForMost
import HandS.Walk
import HandS.TupLen
import PyProof.AutoSeq1
import KE.KSortTup
import HandS.SortRule
import HandS.Deep
import HandS.Flow
import HandS.Conv
import HandS.Evl
import HandS.TupAny
import Open.SpecLaws
import KE.OsGo
import HandS.ForSpec
import PySem.Challenge.RW_fileoffice_s01_answers
import Ut13Spec
import PyUt13
set_option Elab.async false
set_option linter.all false
set_option maxRecDepth 100000
set_option maxHeartbeats 2000000
/-! Dicts whose keys are nested tuples of whole numbers, over the hand layer. -/
namespace Fo
open PySem PySem.Spec PyProof.Rows L2

mutual
/-- the value v is the key k, its tuples tracked -/
inductive NT (H : Hp) : NestedKey → V → Prop
  | num (i : Int) : NT H (.num i) (.int i)
  | tup {a : Addr} {vs : List V} {ks : List NestedKey} : H a = some (.tup vs) → NTs H ks vs → NT H (.tup ks) (.ref a)
inductive NTs (H : Hp) : List NestedKey → List V → Prop
  | nil : NTs H [] []
  | cons {k : NestedKey} {v : V} {ks : List NestedKey} {vs : List V} : NT H k v → NTs H ks vs → NTs H (k :: ks) (v :: vs)
end

section
variable {P : Program} {w : World} {H H' : Hp} {h : Heap}
mutual
theorem nt_is (ok : HOk P w H h) : ∀ (k : NestedKey) (v : V) (u : Value), NT H k v → RelV v u → NestedIs h k u
  | .none, _, _, x, _ => by cases x
  | .text _, _, _, x, _ => by cases x
  | .num i, _, u, x, r => by
    cases x
    obtain ⟨t, rfl⟩ := r
    exact .int i t
  | .tup ks, _, u, x, r => by
    cases x with
    | @tup a vs _ ha hs =>
      obtain rfl : u = Value.ref a := r
      obtain ⟨_, its, rv, o, h1, h2, n, h3⟩ := (show ObjOk P w H h a (.tup vs) from ok a _ ha)
      exact .tup h1 h2 h3 (by simpa using nts_is ok ks vs its hs rv)
theorem nts_is (ok : HOk P w H h) : ∀ (ks : List NestedKey) (vs : List V) (us : List Value), NTs H ks vs → Vals vs us → NestedAll h ks us
  | [], _, _, x, r => by
    cases x
    cases r
    exact .nil
  | k :: ks, _, _, x, r => by
    cases x with
    | cons x1 x2 =>
      cases r with
      | cons r1 r2 => exact .cons (nt_is ok k _ _ x1 r1) (nts_is ok ks _ _ x2 r2)
end
mutual
theorem NT.keeps (ht : ∀ b xs, H b = some (.tup xs) → H' b = some (.tup xs)) : ∀ (k : NestedKey) (v : V), NT H k v → NT H' k v
  | .none, _, x => by cases x
  | .text _, _, x => by cases x
  | .num i, _, x => by
    cases x
    exact .num i
  | .tup ks, _, x => by
    cases x with
    | tup ha hs => exact .tup (ht _ _ ha) (NTs.keeps ht ks _ hs)
theorem NTs.keeps (ht : ∀ b xs, H b = some (.tup xs) → H' b = some (.tup xs)) : ∀ (ks : List NestedKey) (vs : List V), NTs H ks vs → NTs H' ks vs
  | [], _, x => by
    cases x
    exact .nil
  | k :: ks, _, x => by
    cases x with
    | cons x1 x2 => exact .cons (NT.keeps ht k _ x1) (NTs.keeps ht ks _ x2)
end

/-- the dict's object: its entries xs -/
def dnO (P : Program) (w : World) (d : Addr) (xs : List (NestedKey × Addr × Value)) : HO :=
  .ext fun h => ∃ o es ep, h.get? d = some o ∧ o.ExactDict ∧ o.data = .dict es ep ∧ es.toList = xs.map (entryOfKey (nestedKind P w))
theorem dnO_ok {d : Addr} {xs : List (NestedKey × Addr × Value)} {o : Obj} {es : Array DictEntry} {ep : Nat} (h1 : h.get? d = some o) (h2 : o.ExactDict) (h3 : o.data = .dict es ep) (h4 : es.toList = xs.map (entryOfKey (nestedKind P w))) :
    ObjOk P w H h d (dnO P w d xs) :=
  ⟨⟨o, es, ep, h1, h2, h3, h4⟩, ⟨o, h1⟩, fun a b x k => let ⟨o, es, ep, q, r⟩ := x; ⟨o, es, ep, k o q, r⟩⟩

/-- what is known of a key and its value: the entry's key, where its tuple stands, its value -/
def NPr (H : Hp) (p : NestedKey × V) (q : NestedKey × Addr × Value) : Prop := p.1 = q.1 ∧ NT H p.1 (.ref q.2.1) ∧ p.1.depth ≤ 8 ∧ RelV p.2 q.2.2
abbrev NP (H : Hp) : List (NestedKey × V) → List (NestedKey × Addr × Value) → Prop := Paired (NPr H)

/-- at d a dict with the keys and values kvs is to be read, in the order of insertion -/
def DR (P : Program) (w : World) (H : Hp) (d : Addr) (kvs : List (NestedKey × V)) : Prop :=
  kvs.length ≤ sizeLine ∧ (d == sysModules) = false ∧ (kvs.map (·.1)).Nodup ∧ ∃ xs, Rd H d (dnO P w d xs) ∧ NP H kvs xs
/-- .. and may be written -/
def DN (P : Program) (w : World) (H : Hp) (d : Addr) (kvs : List (NestedKey × V)) : Prop :=
  kvs.length ≤ sizeLine ∧ (d == sysModules) = false ∧ (kvs.map (·.1)).Nodup ∧ ∃ xs, H d = some (dnO P w d xs) ∧ NP H kvs xs
variable {d a : Addr} {kvs : List (NestedKey × V)} {xs : List (NestedKey × Addr × Value)} {k : NestedKey}
theorem DN.r (D : DN P w H d kvs) : DR P w H d kvs := let ⟨a, b, c, xs, e, q⟩ := D; ⟨a, b, c, xs, .inl e, q⟩
theorem NP.keeps (ht : ∀ b xs, H b = some (.tup xs) → H' b = some (.tup xs)) (r : NP H kvs xs) : NP H' kvs xs :=
  Paired.mapP r fun p q z => ⟨z.1, NT.keeps ht _ _ z.2.1, z.2.2⟩
theorem DN.keeps (ht : ∀ b xs, H b = some (.tup xs) → H' b = some (.tup xs)) (he : ∀ o, H d = some o → H' d = some o) (D : DN P w H d kvs) : DN P w H' d kvs :=
  let ⟨a, b, c, xs, e, q⟩ := D
  ⟨a, b, c, xs, he _ e, q.keeps ht⟩
theorem DR.keeps (ht : ∀ b xs, H b = some (.tup xs) → H' b = some (.tup xs)) (he : ∀ o, H d = some o → H' d = some o) (D : DR P w H d kvs) : DR P w H' d kvs := by
  obtain ⟨a, b, c, xs, e, q⟩ := D
  refine ⟨a, b, c, xs, ?_, q.keeps ht⟩
  rcases e with e | ⟨o, e⟩
  · exact .inl (he _ e)
  · exact .inr ⟨o, he _ e⟩
theorem DN.same (s : Same H H') (D : DN P w H d kvs) : DN P w H' d kvs := D.keeps (fun b xs e => s b _ e) fun o e => s d o e
theorem DR.same (s : Same H H') (D : DR P w H d kvs) : DR P w H' d kvs := D.keeps (fun b xs e => s b _ e) fun o e => s d o e

theorem NP.keys (r : NP H kvs xs) : kvs.map (·.1) = xs.map (·.1) := by
  induction r with
  | nil => rfl
  | cons h t ih => rw [List.map_cons, List.map_cons, ih, h.1]
theorem NP.val (r : NP H kvs xs) (k : NestedKey) : RelO (valV kvs k) ((atKey xs k).map (·.2)) := by
  induction r with
  | nil => exact True.intro
  | @cons p q ps qs h t ih =>
    obtain ⟨h1, _, _, h2⟩ := h
    by_cases e : p.1 = k
    · have e' : q.1 = k := h1.symm.trans e
      have b : atKey (q :: qs) k = some q.2 := by simp [atKey, List.find?_cons, e']
      rw [valV_pos e, b]; exact h2
    · have e' : ¬ q.1 = k := fun z => e (h1.trans z)
      have b : atKey (q :: qs) k = atKey qs k := by simp [atKey, List.find?_cons, e']
      rw [valV_neg e, b]; exact ih
theorem NP.repl (r : NP H kvs xs) (k : NestedKey) {y : V} {u : Value} (ry : RelV y u) : NP H (kvs.map fun kv => if kv.1 = k then (kv.1, y) else kv) (xs.map (putAt k u)) := by
  induction r with
  | nil => exact .nil
  | @cons p q ps qs h t ih =>
    rw [List.map_cons, List.map_cons]
    refine .cons ?_ ih
    obtain ⟨h1, h2, h3, h4⟩ := h
    unfold putAt
    by_cases e : p.1 = k
    · rw [if_pos e, if_pos (h1.symm.trans e)]; exact ⟨h1, h2, h3, ry⟩
    · rw [if_neg e, if_neg (fun z => e (h1.trans z))]; exact ⟨h1, h2, h3, h4⟩
theorem NP.put (r : NP H kvs xs) (hk : NT H k (.ref a)) (hdp : k.depth ≤ 8) {y : V} {u : Value} (ry : RelV y u) : NP H (putK kvs k y) (storedH xs k a u) := by
  have e : (kvs.any fun kv => decide (kv.1 = k)) = (atKey xs k).isSome := by
    rw [valV_any, (r.val k).isSome_eq, Option.isSome_map]
  unfold putK storedH
  rw [e]
  by_cases q : (atKey xs k).isSome = true
  · rw [if_pos q, if_pos q]; exact r.repl k ry
  · rw [if_neg q, if_neg q]; exact Paired.snoc r ⟨rfl, hk, hdp, ry⟩
theorem NP.drop (r : NP H kvs xs) (k : NestedKey) : NP H (dropK kvs k) (withoutH xs k) := by
  unfold dropK withoutH
  induction r with
  | nil => exact .nil
  | @cons p q ps qs h t ih =>
    rw [List.filter_cons, List.filter_cons]
    by_cases e : p.1 = k
    · have z1 : ¬ decide (p.1 ≠ k) = true := by simp [e]
      have z2 : ¬ decide (q.1 ≠ k) = true := by simp [h.1.symm.trans e]
      rw [if_neg z1, if_neg z2]; exact ih
    · have e' : ¬ q.1 = k := fun z => e (h.1.trans z)
      have z1 : decide (p.1 ≠ k) = true := by simp [e]
      have z2 : decide (q.1 ≠ k) = true := by simp [e']
      rw [if_pos z1, if_pos z2]; exact .cons h ih
/-- the machine's dict -/
theorem dict_of (ok : HOk P w H h) (e : Rd H d (dnO P w d xs)) (r : NP H kvs xs) (nd : (kvs.map (·.1)).Nodup) : h.DictOfH (nestedKind P w) d xs := by
  obtain ⟨⟨o, es, ep, h1, h2, h3, h4⟩, _⟩ := (show ObjOk P w H h d (dnO P w d xs) from e.ok ok)
  refine ⟨o, es, ep, h1, h2, h3, h4, fun x hx => ?_, by rw [← r.keys]; exact nd⟩
  have all : ∀ {l : List (NestedKey × V)} {m : List (NestedKey × Addr × Value)}, NP H l m → ∀ x ∈ m, (nestedKind P w).is h x.1 x.2.1 := by
    intro l m q
    induction q with
    | nil => intro x hx; exact nomatch hx
    | @cons p q ps qs hq t ih =>
      intro x hx
      rcases List.mem_cons.mp hx with e | hx
      · subst e
        obtain ⟨z1, z2, z3, _⟩ := hq
        exact ⟨by rw [← z1]; exact nt_is ok _ _ _ z2 rfl, by rw [← z1]; exact z3⟩
      · exact ih x hx
  exact all r x hx
theorem key_is (ok : HOk P w H h) (hk : NT H k (.ref a)) (hdp : k.depth ≤ 8) : (nestedKind P w).is h k a := ⟨nt_is ok _ _ _ hk rfl, hdp⟩
theorem nodup_put (nd : (kvs.map (·.1)).Nodup) (v : V) : ((putK kvs k v).map (·.1)).Nodup := by
  unfold putK
  by_cases a : (kvs.any fun kv => decide (kv.1 = k)) = true
  · rw [if_pos a, List.map_map]
    have e : kvs.map ((fun kv => kv.1) ∘ fun kv => if kv.1 = k then (kv.1, v) else kv) = kvs.map (·.1) := by
      refine List.map_congr_left fun x _ => ?_
      show (if x.1 = k then (x.1, v) else x).1 = x.1
      split <;> rfl
    rw [e]; exact nd
  · rw [if_neg a, List.map_append]
    refine List.nodup_append.mpr ⟨nd, by simp, fun x hx y hy => ?_⟩
    have hy' : y = k := by simpa using hy
    subst hy'
    rintro rfl
    obtain ⟨z, hz, ez⟩ := List.mem_map.mp hx
    exact a (List.any_eq_true.mpr ⟨z, hz, decide_eq_true ez⟩)
theorem nodup_drop (nd : (kvs.map (·.1)).Nodup) (k : NestedKey) : ((dropK kvs k).map (·.1)).Nodup := by
  unfold dropK
  exact nd.sublist ((List.filter_sublist).map _)
end
end Fo

set_option Elab.async false
set_option linter.all false
set_option maxRecDepth 100000
set_option maxHeartbeats 2000000
namespace Fo
open PySem PySem.Spec PyProof.Rows L2

/-- what the dict at a holds at the key y -/
def NGet (P : Program) (w : World) (H : Hp) (a : Addr) (y : V) (r : Option V) : Prop :=
  ∃ kvs k b, DR P w H a kvs ∧ y = .ref b ∧ NT H k (.ref b) ∧ k.depth ≤ 8 ∧ r = valV kvs k
/-- what follows a[y] = v -/
def NPut (P : Program) (w : World) (H : Hp) (a : Addr) (y v : V) (N : Hp → Prop) : Prop :=
  ∃ kvs k b, DN P w H a kvs ∧ y = .ref b ∧ NT H k (.ref b) ∧ k.depth ≤ 8 ∧ kvs.length < sizeLine ∧
    ∀ o, DN P w (upd H a o) a (putK kvs k v) → N (upd H a o)
theorem room_n {P : Program} {w : World} {A : Around} (hu : A.units + 64 < cLine) : (nestedKind P w).room A.in1 := by
  show A.units + 1 + 8 < cLine
  omega
section
variable {X : Cx} {pins : List (Addr × Obj)} {σ : L2.St} {H : Hp} {s : Shared} {a : Addr} {y v d : V} {u r : Value} {o : Option V} {A : Around} {E : Value → Shared → Prop} {kvs : List (NestedKey × V)} {k : NestedKey} {b : Addr}
theorem n_typeIs (I : Inv X pins σ H s) (D : DR X.prog X.w H a kvs) : s.TypeIs (.ref a) "dict" := by
  obtain ⟨_, hd, nd, xs, e, r⟩ := D
  exact (dict_of I.hok e r nd).typeIs
theorem n_noDict (I : Inv X pins σ H s) (D : DR X.prog X.w H a kvs) : ∀ b, Value.ref a = .ref b → ∃ ob, s.heap.get? b = some ob ∧ ob.dict = none := fun b q => by
  cases q
  obtain ⟨_, hd, nd, xs, e, r⟩ := D
  obtain ⟨ob, _, _, h1, h2, _⟩ := dict_of I.hok e r nd
  exact ⟨ob, h1, h2.2.1⟩
/-- d[y], there -/
theorem n_getItem {Q : Value → Shared → Prop} (hu : A.units + 64 < cLine) (I : Inv X pins σ H s) (g : NGet X.prog X.w H a y (some v)) (ry : RelV y u) (h : ∀ w' s', Inv X pins σ H s' → RelV v w' → Q w' s') :
    wpAny (model X.prog X.w) A (getItem (.ref a) u) Q E s := by
  obtain ⟨kvs, k, b, ⟨_, hd, nd, xs, e, rel⟩, rfl, hk, hdp, l⟩ := g
  obtain rfl : u = Value.ref b := ry
  obtain ⟨w', hw, rw'⟩ := RelO.some_of (v := v) (o := (atKey xs k).map (·.2)) (by rw [l]; exact rel.val k)
  obtain ⟨p, hp, hp2⟩ := Option.map_eq_some_iff.mp hw
  refine wpAny_getItem_heap (room_n hu) (key_is I.hok hk hdp) (dict_of I.hok e rel nd) hp ?_
  rw [hp2]
  exact h w' _ (I.tok _) rw'
/-- y in d -/
theorem n_in {Q : Value → Shared → Prop} (hu : A.units + 64 < cLine) (I : Inv X pins σ H s) (g : NGet X.prog X.w H a y o) (ry : RelV y u) (h : ∀ s', Inv X pins σ H s' → Q (.bool o.isSome) s') :
    wpAny (model X.prog X.w) A (compareOp .In u (.ref a)) Q E s := by
  obtain ⟨kvs, k, b, ⟨_, hd, nd, xs, e, rel⟩, rfl, hk, hdp, l⟩ := g
  obtain rfl : u = Value.ref b := ry
  refine wpAny_in_heap (room_n hu) (key_is I.hok hk hdp) hd (dict_of I.hok e rel nd) ?_
  have q := (rel.val k).isSome_eq
  rw [Option.isSome_map] at q
  rw [← q, ← l]
  exact h _ (I.tok _)
theorem n_notIn {Q : Value → Shared → Prop} (hu : A.units + 64 < cLine) (I : Inv X pins σ H s) (g : NGet X.prog X.w H a y o) (ry : RelV y u) (h : ∀ s', Inv X pins σ H s' → Q (.bool (!o.isSome)) s') :
    wpAny (model X.prog X.w) A (compareOp .NotIn u (.ref a)) Q E s := by
  obtain ⟨kvs, k, b, ⟨_, hd, nd, xs, e, rel⟩, rfl, hk, hdp, l⟩ := g
  obtain rfl : u = Value.ref b := ry
  refine wpAny_notIn_heap (room_n hu) (key_is I.hok hk hdp) hd (dict_of I.hok e rel nd) ?_
  have q := (rel.val k).isSome_eq
  rw [Option.isSome_map] at q
  rw [← q, ← l]
  exact h _ (I.tok _)
/-- the heap behind a store into the dict -/
theorem n_wrote {h' : Heap} {t' : Nat} {kvs' : List (NestedKey × V)} {ys : List (NestedKey × Addr × Value)} {xs : List (NestedKey × Addr × Value)} (I : Inv X pins σ H s) (e : H a = some (dnO X.prog X.w a xs)) (hd : (a == sysModules) = false)
    (hs : Heap.SameBut a s.heap h') (dd : h'.DictOfH (nestedKind X.prog X.w) a ys) (r : NP H kvs' ys) (hl : kvs'.length ≤ sizeLine) (nd : (kvs'.map (·.1)).Nodup) :
    Inv X pins σ (upd H a (dnO X.prog X.w a ys)) { s with heap := h', toks := t' } ∧ DN X.prog X.w (upd H a (dnO X.prog X.w a ys)) a kvs' := by
  obtain ⟨q, es, ep, hq, h2, h3, h4, _, _⟩ := dd
  refine ⟨d_write I (by rw [e]; exact True.intro) hs ⟨q, hq⟩ (dnO_ok hq h2 h3 h4), hl, hd, nd, ys, upd_same, r.keeps fun c zs ec => ?_⟩
  rw [upd_ne (ne_of ec e (fun z => nomatch z))]
  exact ec
/-- d[y] = v -/
theorem n_setItem {N : Hp → Prop} {Q : Unit → Shared → Prop} (hu : A.units + 64 < cLine) (I : Inv X pins σ H s) (g : NPut X.prog X.w H a y v N) (ry : RelV y u) (rv : RelV v r) (h : ∀ H' s', Inv X pins σ H' s' → N H' → Q () s') :
    wpAny (model X.prog X.w) A (setItem (.ref a) u r) Q E s := by
  obtain ⟨kvs, k, b, ⟨z, hd, nd, xs, e, rel⟩, rfl, hk, hdp, l, hN⟩ := g
  obtain rfl : u = Value.ref b := ry
  have hz : xs.length ≤ sizeLine := by rw [← Paired.length rel]; exact z
  refine wpAny_setItem_heap (hsz := hz) (room_n hu) (key_is I.hok hk hdp) (dict_of I.hok (.inl e) rel nd) fun h' dd' hs => ?_
  have hl : (putK kvs k v).length ≤ sizeLine := by have := length_putK kvs k v; omega
  obtain ⟨I', D'⟩ := n_wrote (t' := s.toks + (nestedKind X.prog X.w).draws k) I e hd hs dd' (rel.put hk hdp rv) hl (nodup_put nd v)
  exact h _ _ I' (hN _ D')
end

/-- d[y] -/
def tNGet (P : Program) (w : World) (td ty : TE) : TE := fun σ H Q => td σ H fun x H1 => ty σ H1 fun y H2 => ∃ a v, x = .ref a ∧ NGet P w H2 a y (some v) ∧ Q v H2
def tNIn (P : Program) (w : World) (ty td : TE) : TE := fun σ H Q => ty σ H fun y H1 => td σ H1 fun x H2 => ∃ a o, x = .ref a ∧ NGet P w H2 a y o ∧ Q (.bl o.isSome) H2
def tNNotIn (P : Program) (w : World) (ty td : TE) : TE := fun σ H Q => ty σ H fun y H1 => td σ H1 fun x H2 => ∃ a o, x = .ref a ∧ NGet P w H2 a y o ∧ Q (.bl (!o.isSome)) H2
def sNPut (P : Program) (w : World) (td ty tv : TE) : TS := fun D σ H => tv σ H fun v H1 => td σ H1 fun x H2 => ty σ H2 fun y H3 => ∃ a, x = .ref a ∧ NPut P w H3 a y v (D.nx σ)
section
variable {X : Cx} {o i e value : Expr} {pos pos' tpos : Pos} {td ty tv : TE}
theorem pe_nget (hu : X.A.units + 64 < cLine) (ho : PE X o td) (hi : PE X i ty) (hs : NoSl i) : PE X (.Subscript o i pos) (tNGet X.prog X.w td ty) := by
  refine ⟨fun pins s σ H Q I h => ?_⟩
  refine subD_of PySem.F.slot_dict_getitem.lookup hs (thn (ho.run pins s σ H _ I h) fun u s1 ⟨x, H1, I1, rx, q1⟩ => thn (hi.run pins s1 σ H1 _ I1 q1) fun iv s2 ⟨y, H2, I2, ry, a, v, ex, g, q2⟩ => ?_)
  subst ex
  obtain rfl : u = Value.ref a := rx
  have t := let ⟨_, _, _, D, _⟩ := g; n_typeIs I2 D
  exact ⟨t, n_getItem hu I2 g ry fun w' s3 I3 rw' => ⟨v, H2, I3, rw', q2⟩⟩
theorem pc_nin (hu : X.A.units + 64 < cLine) (hi : PE X i ty) (ho : PE X o td) : PC X .In i o (tNIn X.prog X.w ty td) := by
  refine ⟨fun pins s σ H Q I h => ?_⟩
  refine thn (hi.run pins s σ H _ I h) fun iv s1 ⟨y, H1, I1, ry, q1⟩ => thn (ho.run pins s1 σ H1 _ I1 q1) fun u s2 ⟨x, H2, I2, rx, a, ov, ex, g, q2⟩ => ?_
  subst ex
  obtain rfl : u = Value.ref a := rx
  exact n_in hu I2 g ry fun s3 I3 => ⟨.bl ov.isSome, H2, I3, rfl, q2⟩
theorem pc_nnotin (hu : X.A.units + 64 < cLine) (hi : PE X i ty) (ho : PE X o td) : PC X .NotIn i o (tNNotIn X.prog X.w ty td) := by
  refine ⟨fun pins s σ H Q I h => ?_⟩
  refine thn (hi.run pins s σ H _ I h) fun iv s1 ⟨y, H1, I1, ry, q1⟩ => thn (ho.run pins s1 σ H1 _ I1 q1) fun u s2 ⟨x, H2, I2, rx, a, ov, ex, g, q2⟩ => ?_
  subst ex
  obtain rfl : u = Value.ref a := rx
  exact n_notIn hu I2 g ry fun s3 I3 => ⟨.bl (!ov.isSome), H2, I3, rfl, q2⟩
theorem ps_nput (hu : X.A.units + 64 < cLine) (ho : PE X o td) (hi : PE X i ty) (hv : PE X value tv) (hs : swapsWith value (some (.Subscript o i pos')) pos.line X.env = pure false) :
    PS X (.Assign [.Subscript o i pos'] value pos) (sNPut X.prog X.w td ty tv) := by
  refine ⟨fun pins s σ H D I h => ?_⟩
  refine wpAny_Assign_Subscript (thn (hv.run pins s σ H _ I h) fun r s1 ⟨v, H1, I1, rv, q1⟩ => thn (ho.run pins s1 σ H1 _ I1 q1) fun u s2 ⟨x, H2, I2, rx, q2⟩ => thn (hi.run pins s2 σ H2 _ I2 q2) fun iv s3 ⟨y, H3, I3, ry, a, ex, g⟩ => ?_) hs
  subst ex
  obtain rfl : u = Value.ref a := rx
  exact n_setItem hu I3 g ry rv fun H4 s4 I4 q => ⟨σ, H4, I4, q⟩
end

/-! ### {} -/
def tNNew (P : Program) (w : World) : TE := fun _ H Q => ∀ p o, H p = none → DN P w (upd H p o) p [] → Q (.ref p) (upd H p o)
theorem dn_empty {P : Program} {w : World} {H : Hp} (h : Heap) : ObjOk P w H (h.push { cls := .type "dict", data := .dict #[] }) h.objs.size (dnO P w h.objs.size []) :=
  dnO_ok (Heap.get?_push_size _ rfl) ⟨rfl, rfl, rfl⟩ rfl rfl
theorem pe_nnew {X : Cx} {pos : Pos} : PE X (.Dict [] [] pos) (tNNew X.prog X.w) := ⟨fun pins s σ H Q I h =>
  wpAny_Dict_empty ⟨.ref s.heap.objs.size, _, I.laid (a := s.heap.objs.size) (o := dnO X.prog X.w s.heap.objs.size []) (t' := s.toks) (fun _ _ q => Heap.get?_push_of_some _ q) (Nat.le_refl _) (dn_empty s.heap), rfl,
    h _ _ (I.hok.fresh (Nat.le_refl _)) ⟨Nat.zero_le _, beq_eq_false_iff_ne.mpr (Nat.ne_of_gt I.big), List.nodup_nil, [], upd_same, .nil⟩⟩⟩

/-! ### len -/
def rLenN (P : Program) (w : World) : List V → Hp → VK → Prop := fun xs H Q => ∃ (p : Addr) (kvs : List (NestedKey × V)), xs = [.ref p] ∧ DR P w H p kvs ∧ Q (.int ((kvs.length : Nat) : Int)) H
theorem call_len_n {X : Cx} : CallR X (.builtin "len") (rLenN X.prog X.w) := by
  intro pins s σ H xs us Q I r h
  obtain ⟨p, kvs, rfl, ⟨z, hd, nd, ys, e, rel⟩, q⟩ := h
  obtain ⟨u, rfl, rx⟩ := vals1 r
  obtain rfl : u = .ref p := rx
  have hl : kvs.length = ys.length := Paired.length rel
  refine call_len_dictH hd (dict_of I.hok e rel nd) (by rw [← hl]; rw [sizeLine_eq] at z; omega) ?_
  rw [← hl]
  exact ⟨.int ((kvs.length : Nat) : Int), H, I.tok _, ⟨_, rfl⟩, q⟩

/-! ### pop(k, x), pop(k), get, setdefault -/
section
variable {X : Cx} {pins : List (Addr × Obj)} {σ : L2.St} {H : Hp} {s : Shared} {a : Addr} {u r : Value} {v d : V} {A : Around} {E : Value → Shared → Prop} {kvs : List (NestedKey × V)} {k : NestedKey} {b : Addr}
theorem n_pop {more : List Value} {Q : Value → Shared → Prop} (hu : A.units + 64 < cLine) (I : Inv X pins σ H s) (D : DN X.prog X.w H a kvs) (hk : NT H k (.ref b)) (hdp : k.depth ≤ 8) (l : valV kvs k = some v) (hm : more = [] ∨ ∃ x, more = [x])
    (h : ∀ w' o s', DN X.prog X.w (upd H a o) a (dropK kvs k) → Inv X pins σ (upd H a o) s' → RelV v w' → Q w' s') : wpAny (model X.prog X.w) A (call (.builtin "dict.pop") (.ref a :: .ref b :: more)) Q E s := by
  obtain ⟨z, hd, nd, xs, e, rel⟩ := D
  have hz : xs.length ≤ sizeLine := by rw [← Paired.length rel]; exact z
  obtain ⟨w', hw, rw'⟩ := RelO.some_of (v := v) (o := (atKey xs k).map (·.2)) (by rw [← l]; exact rel.val k)
  obtain ⟨p, hp, hp2⟩ := Option.map_eq_some_iff.mp hw
  have ha : argsOk "dict.pop" ⟨.ref a :: .ref b :: more, []⟩ := by
    rcases hm with q | ⟨x, q⟩
    · subst q; exact PySem.F.args_dict_pop_2 _ _
    · subst q; exact PySem.F.args_dict_pop_3 _ _ _
  refine call_pop_heap (hsz := hz) hm ha (room_n hu) (key_is I.hok hk hdp) hd (dict_of I.hok (.inl e) rel nd) hp fun h' dd' hs => ?_
  obtain ⟨I', D'⟩ := n_wrote (t' := s.toks + (nestedKind X.prog X.w).draws k) I e hd hs dd' (rel.drop k) (Nat.le_trans (dropK_le kvs k) z) (nodup_drop nd k)
  rw [hp2]
  exact h w' _ _ D' I' rw'
theorem n_popD {Q : Value → Shared → Prop} (hu : A.units + 64 < cLine) (I : Inv X pins σ H s) (D : DN X.prog X.w H a kvs) (hk : NT H k (.ref b)) (hdp : k.depth ≤ 8) (l : valV kvs k = none) (h : ∀ s', Inv X pins σ H s' → Q r s') :
    wpAny (model X.prog X.w) A (call (.builtin "dict.pop") [.ref a, .ref b, r]) Q E s := by
  obtain ⟨z, hd, nd, xs, e, rel⟩ := D
  have hz : xs.length ≤ sizeLine := by rw [← Paired.length rel]; exact z
  have hn : (atKey xs k).map (·.2) = none := RelO.none_of (by rw [← l]; exact rel.val k)
  exact call_pop_default_heap (hsz := hz) (room_n hu) (key_is I.hok hk hdp) hd (dict_of I.hok (.inl e) rel nd) (Option.map_eq_none_iff.mp hn) fun tk => h _ (I.tok _)
theorem n_setd {Q : Value → Shared → Prop} (hu : A.units + 64 < cLine) (I : Inv X pins σ H s) (D : DN X.prog X.w H a kvs) (hk : NT H k (.ref b)) (hdp : k.depth ≤ 8) (rd : RelV d r) (hl : kvs.length < sizeLine)
    (h1 : ∀ v, valV kvs k = some v → ∀ (w' : Value) (s' : Shared), Inv X pins σ H s' → RelV v w' → Q w' s')
    (h2 : valV kvs k = none → ∀ o (s' : Shared), DN X.prog X.w (upd H a o) a (putK kvs k d) → Inv X pins σ (upd H a o) s' → Q r s') :
    wpAny (model X.prog X.w) A (call (.builtin "dict.setdefault") [.ref a, .ref b, r]) Q E s := by
  obtain ⟨z, hd, nd, xs, e, rel⟩ := D
  have hz : xs.length ≤ sizeLine := by rw [← Paired.length rel]; exact z
  refine call_setdefault_heap (hsz := hz) (room_n hu) (key_is I.hok hk hdp) hd (dict_of I.hok (.inl e) rel nd) (fun p hp => ?_) fun hn h' dd' hs => ?_
  · have q := rel.val k
    rw [hp] at q
    cases q0 : valV kvs k with
    | none =>
      rw [q0] at q
      exact (show False from q).elim
    | some v0 =>
      rw [q0] at q
      exact h1 v0 q0 _ _ (I.tok _) q
  · have q := rel.val k
    rw [hn] at q
    cases q0 : valV kvs k with
    | some v0 =>
      rw [q0] at q
      exact (show False from q).elim
    | none =>
      have hl2 : (putK kvs k d).length ≤ sizeLine := by have := length_putK kvs k d; omega
      obtain ⟨I', D'⟩ := n_wrote (t' := s.toks + (nestedKind X.prog X.w).draws k) I e hd hs dd' (rel.put hk hdp rd) hl2 (nodup_put nd d)
      exact h2 q0 _ _ D' I'
end
def tNPop2 (P : Program) (w : World) (td ty tx : TE) : TE := fun σ H Q => td σ H fun x H1 => ∃ a kvs0, x = .ref a ∧ DR P w H1 a kvs0 ∧ ty σ H1 fun y H2 => tx σ H2 fun z H3 => ∃ kvs k b, DN P w H3 a kvs ∧ y = .ref b ∧ NT H3 k (.ref b) ∧ k.depth ≤ 8 ∧
  (∀ v o, valV kvs k = some v → DN P w (upd H3 a o) a (dropK kvs k) → Q v (upd H3 a o)) ∧ (valV kvs k = none → Q z H3)
def tNSetd (P : Program) (w : World) (td ty tx : TE) : TE := fun σ H Q => td σ H fun x H1 => ∃ a kvs0, x = .ref a ∧ DR P w H1 a kvs0 ∧ ty σ H1 fun y H2 => tx σ H2 fun z H3 => ∃ kvs k b, DN P w H3 a kvs ∧ y = .ref b ∧ NT H3 k (.ref b) ∧ k.depth ≤ 8 ∧ kvs.length < sizeLine ∧
  (∀ v, valV kvs k = some v → Q v H3) ∧ (∀ o, valV kvs k = none → DN P w (upd H3 a o) a (putK kvs k z) → Q z (upd H3 a o))
section
variable {X : Cx} {o e f : Expr} {apos cpos : Pos} {td ty tx : TE}
theorem pe_npop2 (hu : X.A.units + 64 < cLine) (ho : PE X o td) (he : PE X e ty) (hf : PE X f tx) (m : M2 X o "pop" apos e f cpos) : PE X (.Call (.Attribute o "pop" apos) [e, f] [] cpos) (tNPop2 X.prog X.w td ty tx) := by
  refine ⟨fun pins s σ H Q I h => ?_⟩
  refine wpAny_Call_method m.base m.few m.line PySem.F.plainAttrs_dict PySem.F.slot_dict_pop PySem.F.type_dict_pop (thn (ho.run pins s σ H _ I h) fun u s1 ⟨x, H1, I1, rx, a, kvs0, ex, d, q1⟩ => ?_)
  subst ex
  obtain rfl : u = Value.ref a := rx
  refine ⟨n_typeIs I1 d, n_noDict I1 d, ?_⟩
  rw [m.trees]
  refine Calls.callWith_builtin rfl (Calls.evalArgs_plain (Calls.spliced_cons (thn (he.run pins s1 σ H1 _ I1 q1) fun iv s2 ⟨y, H2, I2, ry, q2⟩ =>
    Calls.spliced_cons (thn (hf.run pins s2 σ H2 _ I2 q2) fun fv s3 ⟨z, H3, I3, rz, kvs, k, b, D, ey, hk, hdp, q3, q4⟩ => Calls.spliced_nil ?_))))
  subst ey
  obtain rfl : iv = Value.ref b := ry
  cases l : valV kvs k with
  | some v => exact n_pop hu I3 D hk hdp l (.inr ⟨fv, rfl⟩) fun w' o s4 D' I4 rw' => ⟨v, _, I4, rw', q3 v o l D'⟩
  | none => exact n_popD hu I3 D hk hdp l fun s4 I4 => ⟨z, H3, I4, rz, q4 l⟩
theorem pe_nsetd (hu : X.A.units + 64 < cLine) (ho : PE X o td) (he : PE X e ty) (hf : PE X f tx) (m : M2 X o "setdefault" apos e f cpos) : PE X (.Call (.Attribute o "setdefault" apos) [e, f] [] cpos) (tNSetd X.prog X.w td ty tx) := by
  refine ⟨fun pins s σ H Q I h => ?_⟩
  refine wpAny_Call_method m.base m.few m.line PySem.F.plainAttrs_dict PySem.F.slot_dict_setdefault PySem.F.type_dict_setdefault (thn (ho.run pins s σ H _ I h) fun u s1 ⟨x, H1, I1, rx, a, kvs0, ex, d, q1⟩ => ?_)
  subst ex
  obtain rfl : u = Value.ref a := rx
  refine ⟨n_typeIs I1 d, n_noDict I1 d, ?_⟩
  rw [m.trees]
  refine Calls.callWith_builtin rfl (Calls.evalArgs_plain (Calls.spliced_cons (thn (he.run pins s1 σ H1 _ I1 q1) fun iv s2 ⟨y, H2, I2, ry, q2⟩ =>
    Calls.spliced_cons (thn (hf.run pins s2 σ H2 _ I2 q2) fun fv s3 ⟨z, H3, I3, rz, kvs, k, b, D, ey, hk, hdp, hl, q3, q4⟩ => Calls.spliced_nil ?_))))
  subst ey
  obtain rfl : iv = Value.ref b := ry
  exact n_setd hu I3 D hk hdp rz hl (fun v hv w' s4 I4 rw' => ⟨v, _, I4, rw', q3 v hv⟩) fun hn o s4 D' I4 => ⟨z, _, I4, rz, q4 o hn D'⟩
end

/-! ### for k, v in d.items(): the dict locked -/
def Itn (P : Program) (w : World) (d : Addr) (o : Obj) (kvs : List (NestedKey × V)) (xs : List (NestedKey × Addr × Value)) : It :=
  ⟨fun i H => H d = some (.frz o (dnO P w d xs)) ∧ i < kvs.length,
   fun i H x H' => ∃ T k v b u, kvs[i]? = some (k, v) ∧ xs[i]? = some (k, b, u) ∧ x = .ref T ∧ H T = none ∧ H' = upd H T (.tup [.ref b, v]),
   fun i H => H d = some (.frz o (dnO P w d xs)) ∧ kvs.length ≤ i⟩
theorem Inv.frzN {X : Cx} {pins : List (Addr × Obj)} {σ : L2.St} {H : Hp} {s : Shared} {d : Addr} {o : Obj} {xs : List (NestedKey × Addr × Value)} (I : Inv X pins σ H s) (h : H d = some (.frz o (dnO X.prog X.w d xs))) :
    s.heap.get? d = some o ∧ o.ExactDict ∧ ∃ (es : Array DictEntry) (ep : Nat), o.data = .dict es ep ∧ es.toList = xs.map (entryOfKey (nestedKind X.prog X.w)) := by
  obtain ⟨hd, ⟨⟨o', es, ep, ho, hx, hdt, he⟩, _⟩⟩ := I.hok d _ h
  rw [hd] at ho
  cases ho
  exact ⟨hd, hx, es, ep, hdt, he⟩
section
variable {P : Program} {w : World} {K : PySem.W.Frag} {d : Addr} {o : Obj} {es : Array DictEntry} {ep : Nat}
theorem turn_itemsN {kvs : List (NestedKey × V)} {xs : List (NestedKey × Addr × Value)} {elts : List Expr} {kk : Nat} {tpos : Pos} (it : Addr) (hod : o.data = .dict es ep) (rel : Paired (fun (p : NestedKey × V) (q : NestedKey × Addr × Value) => p.1 = q.1 ∧ RelV p.2 q.2.2) kvs xs) :
    Turn P w K (.Tuple elts kk tpos) (Itn P w d o kvs xs) [it] it (fun i h => ∃ ok ov, IsItemIter h it d i kvs.length ep ok ov) where
  mem := by simp
  obj := fun i h st b hb => by
    have e : b = it := by simpa using hb
    subst e
    obtain ⟨ok, ov, e⟩ := st
    exact ⟨_, e, fun v z => nomatch z⟩
  keep := fun i h h' st k => let ⟨ok, ov, e⟩ := st; ⟨ok, ov, k it (by simp) _ e⟩
  item := by
    intro X hP hw hK hc i pins s σ H E I hf st hg
    subst hP hw hK
    obtain ⟨hd, hi⟩ := hg
    obtain ⟨hgd, hx, es', ep', hdt, hen⟩ := Inv.frzN I hd
    obtain ⟨rfl, rfl⟩ := dict_ep hod hdt
    obtain ⟨⟨k, v⟩, hkv⟩ : ∃ p, kvs[i]? = some p := ⟨kvs[i], List.getElem?_eq_getElem hi⟩
    obtain ⟨⟨k', b, u⟩, hxb, e1, ru⟩ := paired_get rel hkv
    replace e1 : k = k' := e1
    subst e1
    have hsz : es'.size = kvs.length := by
      rw [size_of_entries hen]; exact (Paired.length rel).symm
    obtain ⟨ok, ov, he⟩ := st
    rw [← hsz] at he
    have hlt : it < s.heap.objs.size := Heap.lt_size he
    have hi' : i < es'.size := by rw [hsz]; exact hi
    have hent : es'[i] = ⟨(nestedKind X.prog X.w).hash k, .ref b, u⟩ := by
      have q := entry_at hen i
      rw [hxb, Array.getElem?_eq_getElem hi'] at q
      exact Option.some.inj q
    refine wpAny_pyNext_items_item_raw he ⟨o, hgd, hx, hdt⟩ hi' fun h' ho hT hz hk => ?_
    rw [hent] at ho hT
    refine ⟨_, rfl, wpAny_letOwnedTupleGo_items (s := { s with heap := h' }) ho fun h'' he' sb => ?_⟩
    have hT2 : h''.get? s.heap.objs.size = some { cls := .type "tuple", data := .seq #[.ref b, u] } := (sb.2 _ (Nat.ne_of_gt hlt)).trans hT
    have new : ObjOk X.prog X.w (upd H s.heap.objs.size (.tup [.ref b, v])) h'' s.heap.objs.size (.tup [.ref b, v]) :=
      ⟨by show 2 ≤ sizeLine; decide, [.ref b, u], .cons rfl (.cons ru .nil), ⟨_, hT2, rfl, _, rfl⟩⟩
    have I1 : Inv X pins σ (upd H s.heap.objs.size (.tup [.ref b, v])) { s with heap := h'' } :=
      I.turnedNew (t' := s.toks) (ch := [it]) (fun b ob hb e => (sb.2 b (by simpa using hb)).trans (hk b ob (by simpa using hb) e)) hf (Nat.le_refl _) new
    refine ⟨.ref s.heap.objs.size, _, I1, rfl, ⟨_, k, v, b, u, hkv, hxb, rfl, I.hok.fresh (Nat.le_refl _), rfl⟩, ⟨.ref b, u, ?_⟩, fun b hb => ?_⟩
    · rw [← hsz]; exact he'
    · have e : b = it := by simpa using hb
      rw [e, upd_ne (Nat.ne_of_lt hlt)]
      exact (hf it (by simp)).1
  done := by
    intro X hP hw hK hc i pins s σ H E I hf st hg
    subst hP hw hK
    obtain ⟨hd, hi⟩ := hg
    obtain ⟨f0, f1, f2, f3, f4, f5⟩ := hf it (by simp)
    obtain ⟨hgd, hx, es', ep', hdt, hen⟩ := Inv.frzN I hd
    obtain ⟨rfl, rfl⟩ := dict_ep hod hdt
    have hsz : es'.size = kvs.length := by
      rw [size_of_entries hen]; exact (Paired.length rel).symm
    obtain ⟨ok, ov, he⟩ := st
    rw [← hsz] at he hi
    exact wpAny_pyNext_items_end_raw (I.ok.hd hc) he ⟨o, hgd, hx, hdt⟩ hi fun h' eb => ⟨rfl, I.turned (t' := s.toks) (fun b ob hb e => eb b ob hb e) f0 f1 f3 f4 f5⟩
  self := fun A i s Q E st h => let ⟨_, _, e⟩ := st; PySem.W.kcp_self e h
end
def iItemsN (P : Program) (w : World) (td : TE) : TI := fun σ H R => td σ H fun x H1 => ∃ d o kvs xs, x = .ref d ∧ (d == sysModules) = false ∧ H1 d = some (.frz o (dnO P w d xs)) ∧ NP H1 kvs xs ∧ R (Itn P w d o kvs xs) H1
theorem pi_itemsN {X : Cx} {e : Expr} {td : TE} {apos cpos : Pos} {elts : List Expr} {kk : Nat} {tpos : Pos} (he : PE X e td) (hbase : attributeBase e "items" X.env (eval e X.env) = eval e X.env := by rfl) (hline : (apos.endLine == cpos.line) = true := by rfl) :
    PI X (.Tuple elts kk tpos) (.Call (.Attribute e "items" apos) [] [] cpos) (iItemsN X.prog X.w td) := by
  refine ⟨fun pins s σ H R I h => ?_⟩
  refine wpAny_Call_method (T := "dict") (id := "dict.items") hbase rfl hline F.plainAttrs_dict F.slot_dict_items F.type_dict_items (thn (he.run pins s σ H _ I h) fun u s1 ⟨x, H1, I1, rx, d, o, kvs, xs, ex, hs, hd, rel, q⟩ => ?_)
  subst ex
  obtain rfl : u = Value.ref d := rx
  obtain ⟨hgd, hx, es, ep, hdt, hen⟩ := Inv.frzN I1 hd
  have raw : s1.heap.DictRaw d es ep := ⟨o, hgd, hx, hdt⟩
  refine ⟨raw.typeIs, fun b q => ?_, ?_⟩
  · cases q
    exact ⟨o, hgd, hx.2.1⟩
  have hsz : es.size = kvs.length := by
    rw [size_of_entries hen]; exact (Paired.length rel).symm
  have I2 : Inv X pins σ H1 { s1 with heap := s1.heap.push { cls := .type "dict_items", data := .fields #[.ref d] } } := I1.kept (t' := s1.toks) fun b ob q => Heap.get?_push_of_some _ q
  have fin : wpAny (model X.prog X.w) X.A (pyIter (.ref s1.heap.objs.size)) (PIE X pins σ (.Tuple elts kk tpos) R) X.xe { s1 with heap := s1.heap.push { cls := .type "dict_items", data := .fields #[.ref d] } } := by
    refine wpAny_pyIter_items_raw (d := d) ⟨_, Heap.get?_push_size _ rfl, rfl, rfl⟩ (raw.at fun ob e => Heap.get?_push_of_some _ e) (pi_one (tk := s1.toks) I2 _ (turn_itemsN _ hdt (Paired.mapP rel fun p q z => ⟨z.1, z.2.2.2⟩)) ⟨.none, .none, ?_⟩ q)
    rw [← hsz]
    exact Heap.get?_push_size _ rfl
  show wpAny _ _ (callWith cpos (.builtin "dict.items") [.ref d] [] []) _ X.xe s1
  exact method_meetsIn F.slot_dict_items F.entry_dict_items rfl (PySem.evalArgs_none ⟨rfl, raw.typeIs, F.args_dict_items_1 _, _, meets_dict_items_raw d hs, ⟨es, ep, raw⟩, fin⟩)
theorem walk_itemsN {P : Program} {w : World} {d : Addr} {o : Obj} {kvs : List (NestedKey × V)} {xs : List (NestedKey × Addr × Value)} {H0 : Hp} (rel : NP H0 kvs xs) : Walk (Itn P w d o kvs xs) kvs.length
    (fun H => H d = some (.frz o (dnO P w d xs)) ∧ ∀ b ys, H0 b = some (.tup ys) → H b = some (.tup ys))
    (fun i H x H' => ∃ T k v b, kvs[i]? = some (k, v) ∧ x = .ref T ∧ H T = none ∧ H' = upd H T (.tup [.ref b, v]) ∧ NT H k (.ref b) ∧ k.depth ≤ 8) := by
  refine ⟨fun _ _ hi q => ⟨q.1, hi⟩, fun _ q => ⟨q.1, Nat.le_refl _⟩, fun i H x H' hi q y => ?_⟩
  obtain ⟨T, k, v, b, u, h1, h2, h3, h4, h5⟩ := y
  obtain ⟨⟨k', b', u'⟩, hx, e1, e2, e3, _⟩ := paired_get rel h1
  rw [h2] at hx
  cases hx
  exact ⟨T, k, v, b, h1, h3, h4, h5, NT.keeps q.2 _ _ e2, e3⟩
end Fo

set_option Elab.async false
set_option linter.all false
set_option maxRecDepth 100000
set_option maxHeartbeats 2000000
/-! Dicts whose keys are nested tuples: d.pop(k), d.get(k, x), for k in d. -/
namespace Fo
open PySem PySem.Spec PyProof.Rows L2

/-! ### pop(k), where it is; get(k, x) -/
def tNPop1 (P : Program) (w : World) (td ty : TE) : TE := fun σ H Q => td σ H fun x H1 => ∃ a kvs0, x = .ref a ∧ DR P w H1 a kvs0 ∧ ty σ H1 fun y H3 => ∃ kvs k b v, DN P w H3 a kvs ∧ y = .ref b ∧ NT H3 k (.ref b) ∧ k.depth ≤ 8 ∧
  valV kvs k = some v ∧ ∀ o, DN P w (upd H3 a o) a (dropK kvs k) → Q v (upd H3 a o)
def tNGetOr (P : Program) (w : World) (td ty tx : TE) : TE := fun σ H Q => td σ H fun x H1 => ∃ a kvs0, x = .ref a ∧ DR P w H1 a kvs0 ∧ ty σ H1 fun y H2 => tx σ H2 fun z H3 => ∃ kvs k b, DR P w H3 a kvs ∧ y = .ref b ∧ NT H3 k (.ref b) ∧ k.depth ≤ 8 ∧
  (∀ v, valV kvs k = some v → Q v H3) ∧ (valV kvs k = none → Q z H3)
section
variable {X : Cx} {o e f : Expr} {apos cpos : Pos} {td ty tx : TE}
theorem pe_npop1 (hu : X.A.units + 64 < cLine) (ho : PE X o td) (he : PE X e ty) (m : M1 X o "pop" apos e cpos) : PE X (.Call (.Attribute o "pop" apos) [e] [] cpos) (tNPop1 X.prog X.w td ty) := by
  refine ⟨fun pins s σ H Q I h => ?_⟩
  refine wpAny_Call_method m.base m.few m.line PySem.F.plainAttrs_dict PySem.F.slot_dict_pop PySem.F.type_dict_pop (thn (ho.run pins s σ H _ I h) fun u s1 ⟨x, H1, I1, rx, a, kvs0, ex, d, q1⟩ => ?_)
  subst ex
  obtain rfl : u = Value.ref a := rx
  refine ⟨n_typeIs I1 d, n_noDict I1 d, ?_⟩
  rw [m.trees]
  refine Calls.callWith_builtin rfl (Calls.evalArgs_plain (Calls.spliced_cons (thn (he.run pins s1 σ H1 _ I1 q1) fun iv s3 ⟨y, H3, I3, ry, kvs, k, b, v, D, ey, hk, hdp, l, q3⟩ => Calls.spliced_nil ?_)))
  subst ey
  obtain rfl : iv = Value.ref b := ry
  exact n_pop hu I3 D hk hdp l (.inl rfl) fun w' o s4 D' I4 rw' => ⟨v, _, I4, rw', q3 o D'⟩
theorem pe_ngetOr (hu : X.A.units + 64 < cLine) (ho : PE X o td) (he : PE X e ty) (hf : PE X f tx) (m : M2 X o "get" apos e f cpos) : PE X (.Call (.Attribute o "get" apos) [e, f] [] cpos) (tNGetOr X.prog X.w td ty tx) := by
  refine ⟨fun pins s σ H Q I h => ?_⟩
  refine wpAny_Call_method m.base m.few m.line PySem.F.plainAttrs_dict PySem.F.slot_dict_get PySem.F.type_dict_get (thn (ho.run pins s σ H _ I h) fun u s1 ⟨x, H1, I1, rx, a, kvs0, ex, d, q1⟩ => ?_)
  subst ex
  obtain rfl : u = Value.ref a := rx
  refine ⟨n_typeIs I1 d, n_noDict I1 d, ?_⟩
  rw [m.trees]
  refine Calls.callWith_builtin rfl (Calls.evalArgs_plain (Calls.spliced_cons (thn (he.run pins s1 σ H1 _ I1 q1) fun iv s2 ⟨y, H2, I2, ry, q2⟩ =>
    Calls.spliced_cons (thn (hf.run pins s2 σ H2 _ I2 q2) fun fv s3 ⟨z, H3, I3, rz, kvs, k, b, D, ey, hk, hdp, q3, q4⟩ => Calls.spliced_nil ?_))))
  subst ey
  obtain rfl : iv = Value.ref b := ry
  obtain ⟨_, hd, nd, xs, ee, rel⟩ := D
  have dd := dict_of I3.hok ee rel nd
  have q := rel.val k
  refine call_meetsIn F.slot_dict_get dd.typeIs F.entry_dict_get (F.args_dict_get_3 _ _ _) (meetsH_dict_get_default _ a b hd fv) ⟨room_n hu, k, xs, key_is I3.hok hk hdp, dd, ?_⟩
  cases l : valV kvs k with
  | some v =>
    rw [l] at q
    obtain ⟨w', hw, rw'⟩ := RelO.some_of (v := v) (o := (atKey xs k).map (·.2)) q
    rw [hw]
    exact ⟨v, H3, I3.tok _, rw', q3 v l⟩
  | none =>
    rw [l] at q
    have hn : (atKey xs k).map (·.2) = none := RelO.none_of q
    rw [hn]
    exact ⟨z, H3, I3.tok _, rz, q4 l⟩
end

/-! ### for k in d: the dict locked -/
def Itnk (P : Program) (w : World) (d : Addr) (o : Obj) (kvs : List (NestedKey × V)) (xs : List (NestedKey × Addr × Value)) : It :=
  ⟨fun i H => H d = some (.frz o (dnO P w d xs)) ∧ i < kvs.length,
   fun i H x H' => H' = H ∧ ∃ k v b u, kvs[i]? = some (k, v) ∧ xs[i]? = some (k, b, u) ∧ x = .ref b,
   fun i H => H d = some (.frz o (dnO P w d xs)) ∧ kvs.length ≤ i⟩
section
variable {P : Program} {w : World} {K : PySem.W.Frag} {tg : Expr} {d : Addr} {o : Obj} {es : Array DictEntry} {ep : Nat}
theorem turn_keysN {kvs : List (NestedKey × V)} {xs : List (NestedKey × Addr × Value)} (it : Addr) (hod : o.data = .dict es ep) (rel : Paired (fun (p : NestedKey × V) (q : NestedKey × Addr × Value) => p.1 = q.1 ∧ RelV p.2 q.2.2) kvs xs) :
    Turn P w K tg (Itnk P w d o kvs xs) [it] it (fun i h => h.IsKeyIter it d i kvs.length ep) where
  mem := by simp
  obj := fun i h st b hb => by
    have e : b = it := by simpa using hb
    subst e
    obtain ⟨oi, e, c, dd⟩ := st
    exact ⟨oi, e, fun v z => by rw [dd] at z; cases z⟩
  keep := fun i h h' st k => st.at fun oi e => k it (by simp) oi e
  item := by
    intro X hP hw hK hc i pins s σ H E I hf st hg
    subst hP hw hK
    obtain ⟨hd, hi⟩ := hg
    obtain ⟨f0, f1, f2, f3, f4, f5⟩ := hf it (by simp)
    obtain ⟨hgd, hx, es', ep', hdt, hen⟩ := Inv.frzN I hd
    obtain ⟨rfl, rfl⟩ := dict_ep hod hdt
    obtain ⟨⟨k, v⟩, hkv⟩ : ∃ p, kvs[i]? = some p := ⟨kvs[i], List.getElem?_eq_getElem hi⟩
    obtain ⟨⟨k', b, u⟩, hxb, e1, ru⟩ := paired_get rel hkv
    replace e1 : k = k' := e1
    subst e1
    have hsz : es'.size = kvs.length := by
      rw [size_of_entries hen]; exact (Paired.length rel).symm
    have hent : es'[i]? = some ⟨(nestedKind X.prog X.w).hash k, .ref b, u⟩ := by
      have q := entry_at hen i
      rw [hxb] at q
      exact q
    refine next_key_item st hgd hdt hsz hent fun h' st' sb => ?_
    have I1 : Inv X pins σ H { s with heap := h' } := I.turned (t' := s.toks) (fun b ob hb e => (sb.2 b hb).trans e) f0 f1 f3 f4 f5
    obtain ⟨oi, e, c, dd⟩ := id st'
    exact ⟨.ref b, rfl, go_of (s := { s with heap := h' }) e c dd (by decide) ⟨.ref b, H, I1, rfl, ⟨rfl, k, v, b, u, hkv, hxb, rfl⟩, st', fun b hb => (hf b hb).1⟩⟩
  done := by
    intro X hP hw hK hc i pins s σ H E I hf st hg
    subst hP hw hK
    obtain ⟨hd, hi⟩ := hg
    obtain ⟨f0, f1, f2, f3, f4, f5⟩ := hf it (by simp)
    obtain ⟨hgd, hx, es', ep', hdt, hen⟩ := Inv.frzN I hd
    obtain ⟨rfl, rfl⟩ := dict_ep hod hdt
    have hsz : es'.size = kvs.length := by
      rw [size_of_entries hen]; exact (Paired.length rel).symm
    exact next_key_end (I.ok.hd hc) st hgd hdt hsz hi fun h' eb => ⟨rfl, I.turned (t' := s.toks) (fun b ob hb e => eb b ob hb e) f0 f1 f3 f4 f5⟩
  self := fun A i s Q E st h => by
    refine wpAny_pyIter_slot st.typeIs F.slot_dict_keyiterator_iter (wpAny_call_entry F.slot_dict_keyiterator_iter st.typeIs F.entry_dict_keyiterator_iter ?_ (F.args_dict_keyiterator_iter_1 _))
    show wpAny _ _ (ret (.ref it)) _ _ s
    exact wpAny_pure ⟨_, rfl, "dict_keyiterator", _, st.typeIs, F.slot_dict_keyiterator_next.lookup, h⟩
end
def iKeysN (P : Program) (w : World) (td : TE) : TI := fun σ H R => td σ H fun x H1 => ∃ d o kvs xs, x = .ref d ∧ (d == sysModules) = false ∧ H1 d = some (.frz o (dnO P w d xs)) ∧ NP H1 kvs xs ∧ R (Itnk P w d o kvs xs) H1
theorem pi_keysN {X : Cx} {tg e : Expr} {td : TE} (he : PE X e td) : PI X tg e (iKeysN X.prog X.w td) := by
  refine ⟨fun pins s σ H R I h => ?_⟩
  refine thn (he.run pins s σ H _ I h) fun u s1 ⟨x, H1, I1, rx, d, o, kvs, xs, ex, hs, hd, rel, q⟩ => ?_
  subst ex
  obtain rfl : u = Value.ref d := rx
  obtain ⟨hgd, hx, es, ep, hdt, hen⟩ := Inv.frzN I1 hd
  have hsz : es.size = kvs.length := by
    rw [size_of_entries hen]; exact (Paired.length rel).symm
  refine iter_keys hs hgd hx hdt (pi_one (tk := s1.toks) I1 _ (turn_keysN _ hdt (Paired.mapP rel fun p q z => ⟨z.1, z.2.2.2⟩)) ⟨_, Heap.get?_push_size _ rfl, rfl, ?_⟩ q)
  rw [hsz] <;> rfl
end Fo

set_option Elab.async false
set_option linter.all false
set_option maxRecDepth 100000
set_option maxHeartbeats 2000000
/-! Two rules that the layer lacks: list.extend(a tuple); sorted(a list of tuples of whole numbers). -/
namespace Fo
open PySem PySem.Spec PyProof.Rows L2

theorem extend_tuple (l : Addr) (items : Array Value) (n : Nat) (b : Addr) (od : Option Addr) (osl : Array (Option Value)) (items2 : Array Value) (n2 : Nat) (hs0 : ¬(!items.isEmpty && Builtin.List.listTooLong (items.size + items2.size)) = true) (hs1 : items.size ≤ sizeLine) (hs2 : items.size + items2.size ≤ sizeLine + 1) :
    Meets (Builtin.«list.extend» ⟨[.ref l, .ref b], []⟩) (fun _ R s => s.heap.get? l = some { cls := .type "list", dict := none, data := .seq items n, slots := #[] } ∧ s.heap.get? b = some { cls := .type "tuple", dict := od, data := .seq items2 n2, slots := osl } ∧ R (.ok (.ret Value.none)) { s with heap := s.heap.update l (Obj.mapSeq fun x => x ++ items2), toks := s.toks }) :=
  .of_wp fun prog w A R s h => by
    obtain ⟨hp, g, d, tk, os⟩ := s; obtain ⟨hl, hb, h⟩ := h; have f1 := PySem.AutoSeq1.idx_int; have f2 := PySem.AutoSeq1.sub_tuple_tuple; have f3 := PySem.AutoSeq1.sub_list_list; have f4 := PySem.AutoSeq1.sub_tuple_list; have f5 := PySem.AutoSeq1.sub_list_tuple;
    have hz' : (items ++ items2).size ≤ sizeLine + 1 := by rw [Array.size_append]; exact hs2
    wp_walk using (wpAny_updateSeq hl rfl (hz := hs1) (_hz' := hz')), PySem.AutoSeq1.wpAny_loadPart' hl, PySem.AutoSeq1.wpAny_loadPart' hb; exact ⟨_, rfl, h⟩

section
variable {X : Cx}
def rExtendT (K : PySem.W.Frag) : V → List V → Hp → VK → Prop := fun x vs H Q => ∃ l b xs zs, x = .ref l ∧ vs = [.ref b] ∧ H l = some (.lst xs) ∧ SqT K H b zs ∧ xs.length + zs.length ≤ sizeLine ∧ Q .non (upd H l (.lst (xs ++ zs)))
theorem mt_extendT : MtM X "list.extend" (rExtendT X.K) := by
  intro pins s σ H x vs v us Q I rx rv h
  obtain ⟨l, b, xs, zs, rfl, rfl, hH, hB, hz, q⟩ := h
  cases rx
  obtain ⟨u, rfl, ru⟩ := rv.one
  cases ru
  obtain ⟨z, its, n, r, hl, e⟩ := I.lstM hH
  obtain ⟨its2, r2, ⟨o, e2, hc, n2, hd⟩, z2⟩ := I.tuple hB
  have hl2 := r2.length
  obtain ⟨oc, od, odt, osl⟩ := o
  simp only at hc hd
  subst hc hd
  have hsz : its.toArray.size + its2.toArray.size ≤ sizeLine := by rw [List.size_toArray, List.size_toArray]; omega
  have hlong : ¬ (!its.toArray.isEmpty && Builtin.List.listTooLong (its.toArray.size + its2.toArray.size)) = true := by
    rw [notLongL hsz, Bool.and_false]
    exact Bool.false_ne_true
  refine call_meets F.slot_list_extend ⟨_, e, rfl⟩ F.entry_list_extend (F.args_list_extend_2 _ _)
    (extend_tuple l its.toArray n b od osl its2.toArray n2 hlong (by rw [List.size_toArray]; omega) (by omega)) ⟨e, e2, ?_⟩
  refine ⟨.non, _, I.lset (its' := its ++ its2) hH e (by simp) (r.append r2) ?_, rfl, q⟩
  rw [List.length_append]
  omega
end

/-! ### tuples of whole numbers in their order -/
def lexT : List Int → List Int → Bool
  | [], [] => false
  | [], _ :: _ => true
  | _ :: _, [] => false
  | x :: xs, y :: ys => if x = y then lexT xs ys else decide (x < y)
theorem lexT_asym : ∀ x y, lexT x y = true → lexT y x = false
  | [], [], h => by cases h
  | [], _ :: _, _ => rfl
  | _ :: _, [], h => by cases h
  | x :: xs, y :: ys, h => by
    simp only [lexT] at h ⊢
    by_cases e : x = y
    · rw [if_pos e] at h
      rw [if_pos e.symm]
      exact lexT_asym xs ys h
    · rw [if_neg e] at h
      rw [if_neg (fun z => e z.symm)]
      have := of_decide_eq_true h
      exact decide_eq_false (by omega)
theorem lexT_tr : ∀ x y z, lexT y x = false → lexT z y = false → lexT z x = false
  | [], [], [], _, _ => rfl
  | [], [], _ :: _, _, h => h
  | [], _ :: _, [], _, _ => rfl
  | [], _ :: _, _ :: _, h, _ => rfl
  | _ :: _, [], _, h, _ => by cases h
  | _ :: _, _ :: _, [], _, h => by cases h
  | x :: xs, y :: ys, z :: zs, h1, h2 => by
    simp only [lexT] at h1 h2 ⊢
    by_cases e1 : y = x
    · by_cases e2 : z = y
      · rw [if_pos e1] at h1
        rw [if_pos e2] at h2
        rw [if_pos (e2.trans e1)]
        exact lexT_tr xs ys zs h1 h2
      · rw [if_neg e2] at h2
        have := of_decide_eq_false h2
        rw [if_neg (by omega)]
        exact decide_eq_false (by omega)
    · rw [if_neg e1] at h1
      have a := of_decide_eq_false h1
      by_cases e2 : z = y
      · rw [if_neg (by omega)]
        exact decide_eq_false (by omega)
      · rw [if_neg e2] at h2
        have b := of_decide_eq_false h2
        rw [if_neg (by omega)]
        exact decide_eq_false (by omega)
theorem lexT_anti : ∀ x y, lexT x y = false → lexT y x = false → x = y
  | [], [], _, _ => rfl
  | [], _ :: _, h, _ => by cases h
  | _ :: _, [], _, h => by cases h
  | x :: xs, y :: ys, h1, h2 => by
    simp only [lexT] at h1 h2
    by_cases e : x = y
    · rw [if_pos e] at h1
      rw [if_pos e.symm] at h2
      rw [e, lexT_anti xs ys h1 h2]
    · rw [if_neg e] at h1
      rw [if_neg (fun z => e z.symm)] at h2
      have a := of_decide_eq_false h1
      have b := of_decide_eq_false h2
      omega
def lexF (fin : Bool) : List Int → List Int → Bool
  | x :: xs, y :: ys => if x = y then lexF fin xs ys else decide (x < y)
  | _, _ => fin
theorem lexF_eq : ∀ x y : List Int, lexF (decide (x.length < y.length)) x y = lexT x y
  | [], [] => rfl
  | [], _ :: _ => by simp [lexF, lexT]
  | _ :: _, [] => by simp [lexF, lexT]
  | x :: xs, y :: ys => by
    have ih := lexF_eq xs ys
    have e : decide ((x :: xs).length < (y :: ys).length) = decide (xs.length < ys.length) := by
      rw [List.length_cons, List.length_cons]
      exact decide_eq_decide.mpr (by omega)
    rw [e]
    simp only [lexF, lexT]
    rw [ih]
section
variable {prog : Program} {w : World} {A : Around} {E : Value → Shared → Prop} {s : Shared}
/-- v is a tuple of these whole numbers in the heap -/
def IsIT (h : Heap) (v : Value) (ns : List Int) : Prop := ∃ a o us n, v = .ref a ∧ h.get? a = some o ∧ o.cls = .type "tuple" ∧ o.data = .seq us n ∧ Vals (ns.map V.int) us.toList
theorem IsIT.keeps {h h' : Heap} {v : Value} {ns : List Int} (p : IsIT h v ns) (k : ∀ b o, h.get? b = some o → o.cls = .type "tuple" → h'.get? b = some o) : IsIT h' v ns := by
  obtain ⟨a, o, us, n, e, ho, hc, r⟩ := p
  exact ⟨a, o, us, n, e, k _ _ ho hc, hc, r⟩
theorem lex_run {b fin : Bool} {Q : Bool → Shared → Prop} : ∀ {ns ms : List Int} {us ws : List Value} {i : Nat}, Vals (ns.map V.int) us → Vals (ms.map V.int) ws → Q (lexF fin ns ms) s → PySem.W.KatLex prog w A b fin Q (us.zip ws) i s
  | [], ms, us, ws, i, r1, r2, q => by
    rw [List.map_nil] at r1
    cases r1
    exact q
  | _ :: _, [], us, ws, i, r1, r2, q => by
    rw [List.map_nil] at r2
    cases r2
    rw [List.zip_nil_right]
    exact q
  | x :: ns, y :: ms, us, ws, i, r1, r2, q => by
    rw [List.map_cons] at r1 r2
    cases r1 with
    | cons a1 b1 =>
      cases r2 with
      | cons a2 b2 =>
        obtain ⟨t, rfl⟩ := a1
        obtain ⟨t', rfl⟩ := a2
        simp only [lexF] at q
        rw [List.zip_cons_cons]
        refine PySem.W.kat_cons (SeqAt.EqAt.int_int x t y t' prog w _ _ ?_)
        refine PySem.W.kat_go (fun e1 => ?_) (fun e1 => ?_)
        · have ex : x = y := by simpa using e1
          rw [if_pos ex] at q
          exact PySem.W.kat_yes (lex_run b1 b2 q)
        · have ex : ¬ x = y := by simpa using e1
          rw [if_neg ex] at q
          exact PySem.W.kat_no (TS.oneLt_ints _ q)

theorem it_cmp {vs : List Value} {k : Value → List Int} (hp : ∀ v ∈ vs, IsIT s.heap v (k v)) : SrtO.Cmp prog w A s (tuples' true) (fun p => p.1 ∈ vs) (SrtO.lt2 fun v u => lexT (k v) (k u)) := by
  intro p q hm hm'
  have h1 := hp _ hm
  have h2 := hp _ hm'
  show wpAny (model prog w) A (keyLt' (tuples' true) p.1 q.1) (fun r s' => s' = s ∧ r = lexT (k p.1) (k q.1)) (fun _ _ => False) s
  obtain ⟨a, o, us, n, e, ho, hc, hd, r⟩ := h1
  obtain ⟨a', o', us', n', e', ho', hc', hd', r'⟩ := h2
  rw [e, e'] at *
  refine PySem.W.kat_lt ho hd ho' hd' (lex_run r r' ⟨rfl, ?_⟩)
  have l1 : (k (.ref a)).length = us.size := by have := r.length; simpa using this
  have l2 : (k (.ref a')).length = us'.size := by have := r'.length; simpa using this
  rw [← l1, ← l2]
  exact lexF_eq _ _
theorem it_firsts {h : Heap} {k : Value → List Int} : ∀ {vs : List Value}, (∀ v ∈ vs, IsIT h v (k v) ∧ k v ≠ []) → ∃ fs : List Value, PySem.W.KatTups h vs fs ∧ fs.length = vs.length ∧ ∀ f ∈ fs, ∃ x t, f = Value.int x t
  | [], _ => ⟨[], PySem.W.KatTups.nil, rfl, fun _ hm => by simp at hm⟩
  | v :: vs, hp => by
    obtain ⟨fs, h1, h2, h3⟩ := it_firsts (vs := vs) fun v' hm => hp v' (List.mem_cons_of_mem _ hm)
    obtain ⟨⟨a, o, us, n, e, ho, hc, hd, r⟩, hne⟩ := hp v (List.mem_cons_self ..)
    subst e
    cases q : k (.ref a) with
    | nil => exact absurd q hne
    | cons x l =>
      rw [q, List.map_cons] at r
      generalize eu : us.toList = ul at r
      cases r with
      | @cons _ u0 _ ul' r0 r1 =>
        obtain ⟨t, rfl⟩ := r0
        refine ⟨.int x t :: fs, PySem.W.KatTups.cons ho hc hd ?_ h1, by rw [List.length_cons, List.length_cons, h2], fun f hm => ?_⟩
        · rw [← Array.getElem?_toList, eu]; rfl
        · rcases List.mem_cons.mp hm with rfl | hm
          · exact ⟨x, t, rfl⟩
          · exact h3 f hm
theorem it_sortable {a : Addr} {vs : List Value} {k : Value → List Int} (h0 : 0 < vs.length) (hp : ∀ v ∈ vs, IsIT s.heap v (k v) ∧ k v ≠ []) (ha : ∀ o, s.heap.get? a = some o → o.cls ≠ .type "tuple") : SrtO.SortableO prog w A s a vs fun v u => lexT (k v) (k u) := by
  intro h' keep
  have hp' : ∀ v ∈ vs, IsIT h' v (k v) ∧ k v ≠ [] := fun v hm => ⟨(hp v hm).1.keeps fun b o e c => keep b o (fun z => by subst z; exact ha o e c) e, (hp v hm).2⟩
  obtain ⟨fs, h1, h2, h3⟩ := it_firsts hp'
  refine ⟨tuples' true, fun Q E hq => ?_, it_cmp fun v hm => (hp' v hm).1⟩
  refine PySem.W.kat_kind (T := .type "int") h1 (by omega) (fun f hm => ?_) (by rfl) ?_
  · obtain ⟨x, t, rfl⟩ := h3 f hm
    exact PySem.W.Looks.now
  · have e : (Value.type "int" != Value.type "tuple") = true := by first | decide +kernel | rfl | decide
    rw [e]
    exact hq
theorem swoT {α : Type} (k : α → List Int) : SrtO.Swo fun v u => lexT (k v) (k u) := ⟨fun x y h => lexT_asym _ _ h, fun x y z h1 h2 => lexT_tr _ _ _ h1 h2⟩
/-- sorted(l) of tuples of whole numbers, none empty -/
theorem sorted_its {l : Addr} {vs : List Value} {k : Value → List Int} {Q : Value → Shared → Prop} (hl : s.heap.IsList l vs.toArray) (hz : vs.length ≤ sizeLine) (hp : ∀ v ∈ vs, IsIT s.heap v (k v) ∧ k v ≠ [])
    (h : ∀ (h' : Heap) (d : Addr) (out : List Value), SrtO.Srtd (fun v u => lexT (k v) (k u)) out → SrtO.Stb (fun v u => lexT (k v) (k u)) out vs → (∀ b o, s.heap.get? b = some o → h'.get? b = some o) → s.heap.objs.size ≤ d → (∃ n, h'.get? d = some (seqObj "list" out.toArray n)) → Q (.ref d) { s with heap := h' }) :
    wpAny (model prog w) A (call (.builtin "sorted") [.ref l]) Q E s := by
  refine SrtO.sorted_ord (swoT k) hl hz (fun h2 h₁ a ha kk => ?_) fun out hs hb => ?_
  · refine it_sortable (s := { s with heap := h₁ }) (by omega) (fun v hm => ⟨(hp v hm).1.keeps fun b o e _ => (kk b o e).2, (hp v hm).2⟩) fun o e => ?_
    have e' : some o = some (seqObj "list" vs.toArray 0) := e.symm.trans ha
    cases e'
    intro c
    exact absurd (Value.type.inj c) (by decide)
  · exact h _ _ out hs hb (fun b o e => sortedAll_old e) (Nat.le_succ _) (sortedAll_at s.heap vs out.toArray)
end
/-- sorted(xs), xs a list of tuples of whole numbers, none empty (k tells them): a new list in their order -/
def rSortedIT (K : PySem.W.Frag) : List V → Hp → VK → Prop := fun vs H Q => ∃ (a : Addr) (xs : List V) (k : V → List Int), vs = [V.ref a] ∧ SqL K H a xs ∧ (∀ x ∈ xs, ∃ t, x = V.ref t ∧ SqT K H t ((k x).map V.int) ∧ k x ≠ []) ∧
  ∀ ys p, ys.Perm xs → ys.Pairwise (fun x y => lexT (k y) (k x) = false) → H p = none → Q (.ref p) (upd H p (.lst ys))
theorem cr_sortedIT {X : Cx} : CallR X (.builtin "sorted") (rSortedIT X.K) := by
  intro pins s σ H vs us Q I r h
  obtain ⟨a, xs, k, rfl, hs, hx, q⟩ := h
  obtain ⟨its, rv, hl, hz⟩ := I.list hs
  obtain ⟨u, rfl, ru⟩ := vals1 r
  obtain rfl : u = Value.ref a := ru
  obtain ⟨e1, e2⟩ := refs_back rv fun x m => by
    obtain ⟨t, e, _⟩ := hx x m
    exact ⟨t, e⟩
  refine sorted_its (k := fun u => k (backV u)) hl.isList (by rw [← rv.length]; exact hz) (fun v hv => ?_) fun h' d out h1 h2 kp hd hn => ?_
  · obtain ⟨t, rfl⟩ := e2 v hv
    have hm : V.ref t ∈ xs := by rw [e1]; exact List.mem_map.mpr ⟨_, hv, rfl⟩
    obtain ⟨t', e, ht, hne⟩ := hx _ hm
    cases e
    obtain ⟨its2, r2, ⟨o, ho, hc, n, hd⟩, z2⟩ := I.tuple ht
    exact ⟨⟨t, o, its2.toArray, n, rfl, ho, hc, hd, (show Vals ((k (V.ref t)).map V.int) its2.toArray.toList from r2)⟩, hne⟩
  · have h3 : ∀ u ∈ out, ∃ a, u = Value.ref a := fun u hu => e2 u (h2.perm.mem_iff.mp hu)
    obtain ⟨n, hn⟩ := hn
    have hb : SrtO.Stb (fun v u => lexT (k v) (k u)) (out.map backV) xs := by
      rw [e1]
      exact SrtO.Stb.map (swoT k) backV h2
    refine ⟨.ref d, upd H d (.lst (out.map backV)), I.laid (t' := s.toks) kp hd ⟨?_, out, n, vals_back h3, hn⟩, rfl, q _ d hb.perm (SrtO.srtd_map (lt := fun v u => lexT (k v) (k u)) (f := backV) h1) (I.hok.fresh hd)⟩
    rw [hb.len]
    exact hz
end Fo

/-! The program as plain functions over lists of whole numbers. -/
namespace Fo
/-! ### reading.py -/
inductive RS where
  | keyBegin | inKey | text | bslash | less | closing | digit | tagEnd | wrong
  deriving DecidableEq
def isDigit (b : Nat) : Bool := decide (48 ≤ b) && decide (b ≤ 57)
def isKeyByte (b : Nat) : Bool := (decide (97 ≤ b) && decide (b ≤ 122)) || (isDigit b || decide (b = 46))
def sbText (b : Nat) : RS := if b = 92 then .bslash else if b = 60 then .less else if b = 9 then .wrong else .text
def sbKey (s : RS) (b : Nat) : RS := if isKeyByte b = true then .inKey else if b = 61 ∧ s = .inKey then .text else .wrong
def sbTag (s : RS) (b : Nat) : RS :=
  if s = .less ∧ b = 47 then .closing else
  if s = .less then (if isDigit b = true then .digit else .wrong) else
  if s = .closing then (if isDigit b = true then .tagEnd else .wrong) else
  if s = .digit ∧ b = 47 then .tagEnd else
  if b = 62 then .text else .wrong
def sb (s : RS) (b : Nat) : RS :=
  if s = .text then sbText b else
  if s = .keyBegin ∨ s = .inKey then sbKey s b else
  if s = .bslash then (if b ∈ [60, 92, 110, 116] then .text else .wrong) else sbTag s b
/-- the place of the fault in what is left, of which the first place is i -/
def faultFrom (i : Nat) : RS → List Nat → Option Nat
  | s, [] => if s = .text then none else some i
  | s, b :: r => if sb s b = .wrong then some i else faultFrom (i + 1) (sb s b) r
def faultPlace (row : List Nat) (s : RS) : Option Nat := faultFrom 0 s row

/-! ### things.py -/
def sizeAt : List Nat → Nat
  | [] => 1
  | b :: r => if b = 92 then 2 else if b = 60 then (if 47 ∈ r.take 2 then 4 else 3) else 1
theorem sizeAt_pos (l : List Nat) : 1 ≤ sizeAt l := by
  cases l with
  | nil => exact Nat.le_refl 1
  | cons b r =>
    show 1 ≤ if b = 92 then 2 else if b = 60 then (if 47 ∈ r.take 2 then 4 else 3) else 1
    repeat' split
    all_goals decide
def thingsOf (l : List Nat) : List (List Nat) :=
  if h : l = [] then [] else l.take (sizeAt l) :: thingsOf (l.drop (sizeAt l))
  termination_by l.length
  decreasing_by
    rw [List.length_drop]
    have := sizeAt_pos l
    have : 0 < l.length := List.length_pos_iff.mpr h
    omega
theorem thingsOf_nil : thingsOf [] = [] := by rw [thingsOf]; rfl
theorem thingsOf_cons {l : List Nat} (h : l ≠ []) : thingsOf l = l.take (sizeAt l) :: thingsOf (l.drop (sizeAt l)) := by
  rw [thingsOf, dif_neg h]
theorem things_len (l : List Nat) : (thingsOf l).length ≤ l.length := by
  by_cases h : l = []
  · rw [h, thingsOf_nil]; exact Nat.le_refl _
  · rw [thingsOf_cons h, List.length_cons]
    have h1 := sizeAt_pos l
    have h2 : 0 < l.length := List.length_pos_iff.mpr h
    have h3 := things_len (l.drop (sizeAt l))
    rw [List.length_drop] at h3
    omega
  termination_by l.length
  decreasing_by
    rw [List.length_drop]
    omega
def isOpening (t : List Nat) : Bool := decide (t.length = 3)
def isClosing (t : List Nat) : Bool := decide (t.length = 4) && decide (t.getD 1 0 = 47)
def isAlone (t : List Nat) : Bool := decide (t.length = 4) && decide (t.getD 2 0 = 47)
/-- what's open, the last one first; the digits that stood; what's left -/
def tagsRun : List Nat → List Nat → List (List Nat) → Bool
  | st, _, [] => st.isEmpty
  | st, seen, t :: r =>
    if isClosing t = true then (match st with
      | [] => false
      | m :: st' => if m = t.getD 2 0 then tagsRun st' seen r else false)
    else if (isOpening t || isAlone t) = true then
      (if t.getD 1 0 ∈ seen then false else tagsRun (if isOpening t = true then t.getD 1 0 :: st else st) (t.getD 1 0 :: seen) r)
    else tagsRun st seen r
def isTag (t : List Nat) : Bool := isOpening t || isAlone t

theorem things_size (l : List Nat) : ∀ t ∈ thingsOf l, 1 ≤ t.length ∧ t.length ≤ 4 := by
  by_cases h : l = []
  · rw [h, thingsOf_nil]
    intro t ht
    cases ht
  · rw [thingsOf_cons h]
    intro t ht
    have h1 := sizeAt_pos l
    have h2 : 0 < l.length := List.length_pos_iff.mpr h
    rcases List.mem_cons.mp ht with e | ht
    · have h3 : sizeAt l ≤ 4 := by
        cases l with
        | nil => exact absurd rfl h
        | cons b r =>
          show (if b = 92 then 2 else if b = 60 then (if 47 ∈ r.take 2 then 4 else 3) else 1) ≤ 4
          repeat' split
          all_goals decide
      rw [e, List.length_take]
      omega
    · exact things_size (l.drop (sizeAt l)) t ht
  termination_by l.length
  decreasing_by
    rw [List.length_drop]
    omega
/-! ### sentences.py -/
def canBegin (t : List Nat) : Bool := !decide (t = [32]) && !isClosing t
def endingBehind (e : Nat) (t : List Nat) : Nat :=
  if [[33], [46], [63]].contains t = true then 1 else if t = [32] then (if e = 0 then 0 else 2) else if (isClosing t || isAlone t) = true then e else 0
def depthBehind (d : Int) (t : List Nat) : Int := if isOpening t = true then d + 1 else if isClosing t = true then d - 1 else d
/-- the sentence so far, how many tags are open, how it ends -/
def sentGo (cur : List Nat) (d : Int) (e : Nat) : List (List Nat) → List (List Nat)
  | [] => if cur = [] then [] else [cur]
  | t :: r => if (decide (d = 0) && (decide (e = 2) && canBegin t)) = true then cur :: sentGo t (depthBehind d t) (endingBehind 0 t) r else sentGo (cur ++ t) (depthBehind d t) (endingBehind e t) r
def sentencesOf (l : List Nat) : List (List Nat) := sentGo [] 0 0 (thingsOf l)

/-! ### lines.py -/
/-- the lines, of which the first begins with line -/
def linesGo (line : List Nat) : List Nat → List (List Nat)
  | [] => [line]
  | b :: r => if b = 10 then line :: linesGo [] r else linesGo (line ++ [b]) r
def linesOf (t : List Nat) : List (List Nat) := linesGo [] t
def isKept (l : List Nat) : Bool := l.isEmpty || decide (l.getD 0 0 = 35)
def keyOf (l : List Nat) : List Nat := l.takeWhile fun b => decide (b ≠ 61)
def textOf (l : List Nat) : List Nat := l.drop ((keyOf l).length + 1)
def lineFault (l : List Nat) : Option Nat :=
  if isKept l = true then none else match faultPlace l .keyBegin with
    | some p => some p
    | none => if tagsRun [] [] (thingsOf (textOf l)) = true then none else some 998
def toldFault (i f : Nat) : Int := -1000 - 1000 * (i : Int) - (f : Int)
def keyFaultFrom (i : Nat) (seen : List (List Nat)) : List (List Nat) → Option Int
  | [] => none
  | l :: r => if isKept l = true then keyFaultFrom (i + 1) seen r else
      if keyOf l ∈ seen then some (toldFault i 999) else keyFaultFrom (i + 1) (keyOf l :: seen) r
def fileFaultFrom (i : Nat) (all : List (List Nat)) : List (List Nat) → Option Int
  | [] => keyFaultFrom 0 [] all
  | l :: r => match lineFault l with
    | some f => some (toldFault i f)
    | none => fileFaultFrom (i + 1) all r
def fileFault (ls : List (List Nat)) : Option Int := fileFaultFrom 0 ls ls
/-- from this state on an = must come -/
theorem fault_none_mem : ∀ (l : List Nat) (i : Nat) (s : RS), (s = .keyBegin ∨ s = .inKey) → faultFrom i s l = none → 61 ∈ l
  | [], i, s, h, e => by
    have hs : ¬ s = .text := by rcases h with h | h <;> rw [h] <;> decide
    rw [faultFrom, if_neg hs] at e
    cases e
  | b :: l, i, s, h, e => by
    rw [faultFrom] at e
    have hs : ¬ s = .text := by rcases h with h | h <;> rw [h] <;> decide
    have esb : sb s b = sbKey s b := by rw [sb, if_neg hs, if_pos h]
    rw [esb] at e
    by_cases hk : isKeyByte b = true
    · have e2 : sbKey s b = .inKey := by rw [sbKey, if_pos hk]
      rw [e2, if_neg (by decide)] at e
      exact List.mem_cons_of_mem _ (fault_none_mem l (i + 1) .inKey (.inr rfl) e)
    · by_cases he : b = 61 ∧ s = .inKey
      · rw [he.1]
        exact List.mem_cons_self ..
      · have e2 : sbKey s b = .wrong := by rw [sbKey, if_neg hk, if_neg he]
        rw [e2, if_pos rfl] at e
        cases e

/-! ### desk.py's defs -/
def isBytes (m : Nat) (row : List Nat) : Bool := decide (row.length ≤ m) && row.all fun c => decide (c ≤ 255)
def isTrans (w s : List Nat) : Bool := tagsRun [] [] (thingsOf w) && ((thingsOf w).filter isTag).isPerm ((thingsOf s).filter isTag)
def counted (row : List Nat) : List Nat := row.length :: row
/-- the sentences of a line, numbered from i on -/
def numFrom (k : List Nat) : Nat → List (List Nat) → List ((List Nat × Nat) × List Nat)
  | _, [] => []
  | i, s :: r => ((k, i), s) :: numFrom k (i + 1) r
def numLine (l : List Nat) : List ((List Nat × Nat) × List Nat) := numFrom (keyOf l) 0 (sentencesOf (textOf l))

theorem sentGo_len : ∀ (ts : List (List Nat)) (cur : List Nat) (d : Int) (e : Nat), (sentGo cur d e ts).length ≤ ts.length + 1
  | [], cur, d, e => by
    rw [sentGo]
    split
    · exact Nat.zero_le _
    · exact Nat.le_refl _
  | t :: r, cur, d, e => by
    rw [sentGo]
    split
    · rw [List.length_cons, List.length_cons]
      have := sentGo_len r t (depthBehind d t) (endingBehind 0 t)
      omega
    · rw [List.length_cons]
      have := sentGo_len r (cur ++ t) (depthBehind d t) (endingBehind e t)
      omega
theorem sent_len (t : List Nat) : (sentencesOf t).length ≤ t.length + 1 := by
  have h1 := sentGo_len (thingsOf t) [] 0 0
  have h2 := things_len t
  show (sentGo [] 0 0 (thingsOf t)).length ≤ _
  omega
theorem keyOf_lt {l : List Nat} (h : 61 ∈ l) : (keyOf l).length < l.length := by
  induction l with
  | nil => cases h
  | cons b r ih =>
    by_cases e : b = 61
    · have : keyOf (b :: r) = [] := by simp [keyOf, e]
      rw [this]
      exact Nat.succ_pos _
    · have : keyOf (b :: r) = b :: keyOf r := by simp [keyOf, e]
      rw [this, List.length_cons, List.length_cons]
      have := ih ((List.mem_cons.mp h).resolve_left (fun z => e z.symm))
      omega
theorem numFrom_len (k : List Nat) : ∀ (l : List (List Nat)) (i : Nat), (numFrom k i l).length = l.length
  | [], i => rfl
  | s :: r, i => by
    show (numFrom k (i + 1) r).length + 1 = r.length + 1
    rw [numFrom_len k r]
theorem numFrom_snoc (k : List Nat) : ∀ (l : List (List Nat)) (s : List Nat) (i : Nat), numFrom k i (l ++ [s]) = numFrom k i l ++ [((k, i + l.length), s)]
  | [], s, i => rfl
  | x :: r, s, i => by
    show ((k, i), x) :: numFrom k (i + 1) (r ++ [s]) = ((k, i), x) :: (numFrom k (i + 1) r ++ [((k, i + (r.length + 1)), s)])
    rw [numFrom_snoc k r s (i + 1), show i + 1 + r.length = i + (r.length + 1) by omega]
theorem numFrom_keys (k : List Nat) : ∀ (l : List (List Nat)) (i : Nat) (x : (List Nat × Nat) × List Nat), x ∈ numFrom k i l → x.1.1 = k ∧ i ≤ x.1.2 ∧ x.1.2 < i + l.length
  | [], i, x, h => by cases h
  | s :: r, i, x, h => by
    rcases List.mem_cons.mp h with e | h
    · rw [e]
      exact ⟨rfl, Nat.le_refl _, by show i < i + (r.length + 1); omega⟩
    · obtain ⟨h1, h2, h3⟩ := numFrom_keys k r (i + 1) x h
      exact ⟨h1, by omega, by show x.1.2 < i + (r.length + 1); omega⟩
theorem numLine_len {l : List Nat} (h : 61 ∈ l) : (numLine l).length ≤ l.length := by
  unfold numLine
  rw [numFrom_len]
  have h1 := sent_len (textOf l)
  have h2 := keyOf_lt h
  unfold textOf at h1 ⊢
  rw [List.length_drop] at h1
  omega
end Fo

set_option Elab.async false
set_option linter.all false
set_option maxRecDepth 100000
set_option maxHeartbeats 2000000
namespace Fo
open PySem PySem.Spec PyProof.Rows L2

/-! ### values -/
/-- whole numbers from 0 on, as values -/
abbrev vn (n : Nat) : V := .int (n : Int)
abbrev iv (l : List Nat) : List V := l.map vn
theorem iv_take (n : Nat) (l : List Nat) : iv (l.take n) = (iv l).take n := List.map_take
theorem iv_drop (n : Nat) (l : List Nat) : iv (l.drop n) = (iv l).drop n := List.map_drop
theorem iv_app (l m : List Nat) : iv (l ++ m) = iv l ++ iv m := List.map_append
theorem iv_len (l : List Nat) : (iv l).length = l.length := List.length_map _
/-- a name of the module's top holds v -/
def Cn (mg : Str → Option Value) (x : Str) (v : V) : Prop := ∃ u, mg x = some u ∧ RelV v u
theorem pe_gc {X : Cx} {x : Str} {pos : Pos} {v : V} (h : Cn X.mg x v) (hg : Gl X x := by rfl) (hd : (x == ("__debug__" : Str)) = false := by decide) : PE X (.Name x pos) (tC v) := by
  obtain ⟨u, hm, r⟩ := h
  exact pe_glob hg hm r hd

/-! ### defs that may be called -/
def At (K : PySem.W.Frag) (mg : Str → Option Value) (x : Str) (st : Stmt) : Prop := ∃ f fd, Fun K x x st f fd ∧ mg x = some (.ref f)
def MAt (K : PySem.W.Frag) (C : Addr) (m qual : Str) (st : Stmt) : Prop := ∃ f fd, Fun K m qual st f fd ∧ Meth K C m f
def IAt (K : PySem.W.Frag) (C : Addr) (qual : Str) (st : Stmt) : Prop := ∃ f fd, Fun K "__init__" qual st f fd ∧ Mk K C f
/-- where the def stands, what is around -/
structure Wd where
  P : Program
  w : World
  K : PySem.W.Frag
  mg : Str → Option Value
  base : Heap
structure Cal (W : Wd) (k : Nat) (x : Str) (sp : Sp) : Prop where
  ex : ∃ (f : Addr) (fd : FuncData) (ps : List Str), FnOk W.P W.w W.K W.mg W.base CX0 k f fd ps sp ∧ W.mg x = some (.ref f) ∧ PySem.W.keepIn W.K (.ref f) = true ∧ Binds W.K fd ps []
structure Met (W : Wd) (k : Nat) (C : Addr) (m : Str) (sp : Sp) : Prop where
  ex : ∃ (f : Addr) (fd : FuncData) (ps : List Str), Cls W.K C ∧ Meth W.K C m f ∧ FnOk W.P W.w W.K W.mg W.base CX0 k f fd ps sp ∧ Binds W.K fd ps []
structure Mak (W : Wd) (k : Nat) (x : Str) (C : Addr) (sp : Sp) : Prop where
  ex : ∃ (f : Addr) (fd : FuncData) (ps : List Str), Mk W.K C f ∧ FnOk W.P W.w W.K W.mg W.base CX0 k f fd ps sp ∧ W.mg x = some (.ref C) ∧ Binds W.K fd ps []
/-- how the arguments of a def without defaults bind -/
def BindsOk (x qual : Str) (st : Stmt) (ps : List Str) : Prop :=
  ∀ (kV doc pm : Value) (an : Option Addr) (cdv ct : Value) (us : List Value), us.length = ps.length → bindArgs (PySem.W.fnOf x qual (defArgs st) (defBody st) (defScope st) .none kV doc pm an cdv ct) ⟨us, []⟩ = pure (ps.zip us)
def Body (W : Wd) (k : Nat) (qual : Str) (st : Stmt) (N : List Str) (f : Addr) (sp : Sp) : Prop :=
  ∀ (cdv : Value) (A : Around) (outer : List Env) (s : Shared) (H : Hp) (vs : List V) (Q : VK) (E : XK), Room k (A.deeper (envOfC qual (defScope st) s.heap.objs.size f cdv)) → sp vs H Q E →
      ∃ t, PSs (cxOf CX0 W.P W.w W.K W.mg W.base N qual (defScope st) f cdv A outer s H E).nox (defBody st) t ∧ t { nx := fun _ H' => Q .non H', rt := Q } (start N vs) H
theorem cal {W : Wd} {k : Nat} {x : Str} {st : Stmt} {N ps : List Str} {sp : Sp} (a : At W.K W.mg x st) (S : FnScope N ps (defScope st)) (b : BindsOk x x st ps) (len : ∀ vs H Q E, sp vs H Q E → vs.length = ps.length)
    (h : ∀ f, Body W k x st N f sp) : Cal W (k + 1) x sp := by
  obtain ⟨f, fd, F, hm⟩ := a
  exact ⟨f, fd, ps, F.ok S len (h f), hm, F.kp, F.binds b⟩
theorem met {W : Wd} {k : Nat} {C : Addr} {m qual : Str} {st : Stmt} {N ps : List Str} {sp : Sp} (c : Cls W.K C) (a : MAt W.K C m qual st) (S : FnScope N ps (defScope st)) (b : BindsOk m qual st ps) (len : ∀ vs H Q E, sp vs H Q E → vs.length = ps.length)
    (h : ∀ f, Body W k qual st N f sp) : Met W (k + 1) C m sp := by
  obtain ⟨f, fd, F, hm⟩ := a
  exact ⟨f, fd, ps, c, hm, F.ok S len (h f), F.binds b⟩
theorem mak {W : Wd} {k : Nat} {x : Str} {C : Addr} {qual : Str} {st : Stmt} {N ps : List Str} {sp : Sp} (a : IAt W.K C qual st) (hg : W.mg x = some (.ref C)) (S : FnScope N ps (defScope st)) (b : BindsOk "__init__" qual st ps) (len : ∀ vs H Q E, sp vs H Q E → vs.length = ps.length)
    (h : ∀ f, Body W k qual st N f sp) : Mak W (k + 1) x C sp := by
  obtain ⟨f, fd, F, hm⟩ := a
  exact ⟨f, fd, ps, hm, F.ok S len (h f), hg, F.binds b⟩
abbrev wdOf (X : Cx) : Wd := ⟨X.prog, X.w, X.K, X.mg, X.base⟩
section
variable {X : Cx} {k j : Nat} {C : Addr} {x m : Str} {sp : Sp} {p pos apos : Pos} {e o : Expr} {es : List Expr} {ta : TE} {t : TA}
theorem pe_c (c : Cal (wdOf X) k x sp) (hr : Room j X.A) (ha : PA X (e :: es) t) (hk : k ≤ j := by decide) (hg : Gl X x := by rfl)
    (hdb : (x == ("__debug__" : Str)) = false := by decide) (he : starEach (e :: es) X.env = (false, eval e X.env) :: starEach es X.env := by rfl) (hpl : (backTo pos (starEach es X.env)).any (·.1) = false := by rfl) :
    PE X (.Call (.Name x p) (e :: es) [] pos) (tCall sp [] E0 t) := by
  obtain ⟨f, fd, ps, F, hm, kp, b⟩ := c.ex
  exact pe_call F (hr.mono hk) hg hm kp b .nil pass0 ha hdb he hpl
theorem pe_mk (c : Mak (wdOf X) k x C sp) (hr : Room j X.A) (ha : PA X (e :: es) t) (hk : k + 1 ≤ j := by decide) (hg : Gl X x := by rfl)
    (hdb : (x == ("__debug__" : Str)) = false := by decide) (he : starEach (e :: es) X.env = (false, eval e X.env) :: starEach es X.env := by rfl) (hpl : (backTo pos (starEach es X.env)).any (·.1) = false := by rfl) :
    PE X (.Call (.Name x p) (e :: es) [] pos) (tMake C sp [] E0 t) := by
  obtain ⟨f, fd, ps, M, F, hm, b⟩ := c.ex
  exact pe_make M F (hr.mono hk) hg hm b .nil pass0 ha hdb he hpl
theorem pe_mt {pl : Sem Bool} (c : Met (wdOf X) k C m sp) (hr : Room j X.A) (he : PE X o ta) (ha : PA X (e :: es) t) (hk : k ≤ j := by decide)
    (hst : starEach (e :: es) X.env = (false, eval e X.env) :: starEach es X.env := by rfl) (hpl : (backTo pos (starEach es X.env)).any (·.1) = false := by rfl)
    (ht : eval (.Call (.Attribute o m apos) (e :: es) [] pos) X.env = (do
      let ov ← eval o X.env
      standAt apos.atName
      let (f, first) ← holding [ov] (getMethod ov m pl)
      callWith pos f first (backTo pos (starEach (e :: es) X.env)) (backToKw pos (keywordEach [] X.env))) := by rfl) :
    PE X (.Call (.Attribute o m apos) (e :: es) [] pos) (tMeth C m sp [] E0 ta t) := by
  obtain ⟨f, fd, ps, hc, hm, F, b⟩ := c.ex
  exact pe_meth (pl := pl) he hc hm F (hr.mono hk) b .nil pass0 ha hst hpl ht
theorem pe_mt0 {pl : Sem Bool} (c : Met (wdOf X) k C m sp) (hr : Room j X.A) (he : PE X o ta) (hk : k ≤ j := by decide)
    (ht : eval (.Call (.Attribute o m apos) [] [] pos) X.env = (do
      let ov ← eval o X.env
      standAt apos.atName
      let (f, first) ← holding [ov] (getMethod ov m pl)
      callWith pos f first (backTo pos (starEach [] X.env)) (backToKw pos (keywordEach [] X.env))) := by rfl) :
    PE X (.Call (.Attribute o m apos) [] [] pos) (tMeth C m sp [] E0 ta tNil) := by
  obtain ⟨f, fd, ps, hc, hm, F, b⟩ := c.ex
  exact pe_meth0 (pl := pl) he hc hm F (hr.mono hk) b .nil pass0 ht
end

/-! ### data: tuples of whole numbers, lists of these -/
def pd (l : List Nat) : PyData := .tuple (l.map fun (n : Nat) => PyData.int (n : Int))
theorem canAll : ∀ l : List Nat, PyData.canLayAll0 (l.map fun (n : Nat) => PyData.int (n : Int)) = true
  | [] => rfl
  | n :: l => by
    show (PyData.canLay0 (.int (n : Int)) && PyData.canLayAll0 (l.map fun (n : Nat) => PyData.int (n : Int))) = true
    rw [canAll l] <;> rfl
theorem depthAll0 : ∀ l : List Nat, PyData.depthAll (l.map fun (n : Nat) => PyData.int (n : Int)) = 0
  | [] => rfl
  | n :: l => by
    show max (PyData.depth (.int (n : Int))) (PyData.depthAll (l.map fun (n : Nat) => PyData.int (n : Int))) = 0
    rw [depthAll0 l] <;> rfl
theorem can_pd (l : List Nat) : (pd l).canLay0 = true := canAll l
theorem depth_pd (l : List Nat) : (pd l).depth = 1 := by
  show PyData.depthAll (l.map fun (n : Nat) => PyData.int (n : Int)) + 1 = 1
  rw [depthAll0]
theorem shaped_pd (l : List Nat) : SeqAt.shaped (pd l) = true := by
  unfold SeqAt.shaped
  rw [can_pd, depth_pd] <;> rfl
theorem eqvAll_pd : ∀ a b : List Nat, PyData.eqvAll (a.map fun (n : Nat) => PyData.int (n : Int)) (b.map fun (n : Nat) => PyData.int (n : Int)) = decide (a = b)
  | [], [] => rfl
  | [], _ :: _ => rfl
  | _ :: _, [] => rfl
  | x :: a, y :: b => by
    show (((x : Int) == (y : Int)) && PyData.eqvAll (a.map fun (n : Nat) => PyData.int (n : Int)) (b.map fun (n : Nat) => PyData.int (n : Int))) = decide (x :: a = y :: b)
    rw [eqvAll_pd a b]
    by_cases e : x = y
    · subst e
      simp
    · have e2 : ¬ (x : Int) = (y : Int) := by omega
      simp [e, e2]
theorem eqv_pd (a b : List Nat) : PyData.eqv (pd a) (pd b) = decide (a = b) := eqvAll_pd a b
theorem dp_ints {K : PySem.W.Frag} {H : Hp} : ∀ l : List Nat, DpAll K H (iv l) (l.map fun (n : Nat) => PyData.int (n : Int))
  | [] => .nil
  | n :: l => .cons (.int _) (dp_ints l)
theorem dp_pd {K : PySem.W.Frag} {H : Hp} {a : Addr} {l : List Nat} (h : SqT K H a (iv l)) : Dp K H (.ref a) (pd l) := .tup h (dp_ints l)
/-- refs to the tuples ls -/
def TupsAt (K : PySem.W.Frag) (H : Hp) : List V → List (List Nat) → Prop := Paired fun v l => ∃ a, v = .ref a ∧ H a = some (.tup (iv l))
theorem dp_pds {K : PySem.W.Frag} {H : Hp} {vs : List V} {ls : List (List Nat)} (h : TupsAt K H vs ls) : DpAll K H vs (ls.map pd) := by
  unfold TupsAt at h
  induction h with
  | nil => exact .nil
  | cons r t ih =>
    obtain ⟨a, rfl, q⟩ := r
    exact .cons (dp_pd (.inl (.inl q))) ih
theorem canAll_pds : ∀ ls : List (List Nat), PyData.canLayAll0 (ls.map pd) = true
  | [] => rfl
  | l :: ls => by
    show (PyData.canLay0 (pd l) && PyData.canLayAll0 (ls.map pd)) = true
    rw [canAll_pds ls, can_pd] <;> rfl
theorem depthAll_pds : ∀ ls : List (List Nat), PyData.depthAll (ls.map pd) ≤ 1
  | [] => Nat.zero_le _
  | l :: ls => by
    show max (PyData.depth (pd l)) (PyData.depthAll (ls.map pd)) ≤ 1
    have := depthAll_pds ls
    rw [depth_pd]
    omega
theorem shaped_pds (ls : List (List Nat)) : SeqAt.shaped (.list (ls.map pd)) = true := by
  have h1 : PyData.canLay0 (.list (ls.map pd)) = true := canAll_pds ls
  have h2 : PyData.depth (.list (ls.map pd)) ≤ 64 := by
    show PyData.depthAll (ls.map pd) + 1 ≤ 64
    have := depthAll_pds ls
    omega
  unfold SeqAt.shaped
  rw [h1, decide_eq_true h2] <;> rfl
theorem eqvAll_pds : ∀ a b : List (List Nat), PyData.eqvAll (a.map pd) (b.map pd) = decide (a = b)
  | [], [] => rfl
  | [], _ :: _ => rfl
  | _ :: _, [] => rfl
  | x :: a, y :: b => by
    show (PyData.eqv (pd x) (pd y) && PyData.eqvAll (a.map pd) (b.map pd)) = decide (x :: a = y :: b)
    rw [eqvAll_pds a b, eqv_pd]
    by_cases e : x = y
    · subst e
      simp
    · simp [e]
/-- x in a written tuple of tuples -/
def rInDT (K : PySem.W.Frag) : R2 := fun x y H Q => ∃ d ds, Dp K H x d ∧ Dp K H y (.tuple ds) ∧ SeqAt.shaped d = true ∧ PyData.canLayAll0 ds = true ∧ Q (.bl (ds.any fun z => PyData.eqv z d)) H
theorem op_inDT {X : Cx} (hu : X.A.units + 66 < cLine) : OpR X (compareOp .In) (rInDT X.K) := by
  intro pins s σ H x y v u Q I rx ry h
  obtain ⟨d, ds, hd, he, sd, se, q⟩ := h
  obtain ⟨as, r1⟩ := Dp.reads I d x v hd rx
  obtain ⟨bs, r2⟩ := Dp.reads I (.tuple ds) y u he ry
  have h1 := SeqAt.depth_of_shaped sd
  exact SeqAt.in_tuple_reads r2 r1 se (SeqAt.canLay_of_shaped sd) (by omega) ⟨.bl _, H, I, rfl, q⟩
theorem any_pds (x : List Nat) : ∀ ls : List (List Nat), ((ls.map pd).any fun z => PyData.eqv z (pd x)) = ls.contains x
  | [] => rfl
  | l :: ls => by
    rw [List.map_cons, List.any_cons, any_pds x ls, eqv_pd, List.contains_cons]
    by_cases e : l = x
    · subst e
      simp
    · have e2 : ¬ x = l := fun z => e z.symm
      simp [e, e2]

/-! ### heaps -/
theorem Same.sqt {K : PySem.W.Frag} {H H' : Hp} {a : Addr} {xs : List V} (e : Same H H') (h : SqT K H a xs) : SqT K H' a xs := by
  rcases h with (h | ⟨o, h⟩) | h
  · exact .inl (.inl (e _ _ h))
  · exact .inl (.inr ⟨o, e _ _ h⟩)
  · exact .inr h
theorem Same.tups {K : PySem.W.Frag} {H H' : Hp} {vs : List V} {ls : List (List Nat)} (e : Same H H') (h : TupsAt K H vs ls) : TupsAt K H' vs ls :=
  Paired.mapP h fun _ _ ⟨a, q, r⟩ => ⟨a, q, e _ _ r⟩
theorem Same.new {H : Hp} {p : Addr} {o : HO} (h : H p = none) : Same H (upd H p o) := fun b u q => by
  rw [upd_ne (ne_of_none q h)]
  exact q
/-- a list or a tuple of these values stands at a -/
def Sq (K : PySem.W.Frag) (H : Hp) (a : Addr) (xs : List V) : Prop := SqL K H a xs ∨ H a = some (.tup xs)
theorem Same.sq {K : PySem.W.Frag} {H H' : Hp} {a : Addr} {xs : List V} (e : Same H H') (h : Sq K H a xs) : Sq K H' a xs := h.imp (fun q => Same.seq e q) fun q => e _ _ q
theorem Sq.ex {K : PySem.W.Frag} {H H' : Hp} {a : Addr} {xs : List V} (e : Evl.Ex H H') (h : Sq K H a xs) : Sq K H' a xs := Same.sq e h
theorem Sq.r {K : PySem.W.Frag} {H : Hp} {a : Addr} {xs : List V} (h : Sq K H a xs) : SqL K H a xs ∨ SqT K H a xs := h.imp id fun q => .inl (.inl q)
theorem iv_get {l : List Nat} {i : Nat} {y : V} (h : (iv l)[i]? = some y) : ∃ n, l[i]? = some n ∧ y = vn n := by
  rw [List.getElem?_map] at h
  cases e : l[i]? with
  | none =>
    rw [e] at h
    cases h
  | some n =>
    rw [e] at h
    exact ⟨n, rfl, (Option.some.inj h).symm⟩
theorem take_more {α : Type} : ∀ {l : List α} {i : Nat} {x : α}, l[i]? = some x → l.take (i + 1) = l.take i ++ [x]
  | [], i, x, h => by simp at h
  | a :: l, 0, x, h => by
    have e : a = x := Option.some.inj h
    subst e
    rfl
  | a :: l, i + 1, x, h => by
    have ih := take_more (l := l) (i := i) (x := x) h
    show a :: l.take (i + 1) = a :: l.take i ++ [x]
    rw [ih]
    rfl
theorem drop_more {α : Type} : ∀ {l : List α} {i : Nat} {x : α}, l[i]? = some x → l.drop i = x :: l.drop (i + 1)
  | [], i, x, h => by simp at h
  | a :: l, 0, x, h => by
    have e : a = x := Option.some.inj h
    subst e
    rfl
  | a :: l, i + 1, x, h => drop_more (l := l) (i := i) (x := x) h
theorem ite_true {c : Bool} {A B : Prop} (hc : c = true) (h : A) : if c = true then A else B := by
  rw [if_pos hc]
  exact h
theorem ite_false {c : Bool} {A B : Prop} (hc : c = false) (h : B) : if c = true then A else B := by
  rw [hc, if_neg Bool.false_ne_true]
  exact h
theorem ite_b {c : Bool} {A B : Prop} (h1 : c = true → A) (h2 : c = false → B) : if c = true then A else B := by
  cases c with
  | true => exact iteT (h1 rfl)
  | false => exact iteF (h2 rfl)
theorem vn_eq (a b : Nat) : (V.int (a : Int) = V.int (b : Int)) ↔ a = b := by
  constructor
  · intro h
    injection h with h
    omega
  · rintro rfl
    rfl

/-! ### evaluations that Evl lacks -/
open Evl
section
variable {K : PySem.W.Frag} {σ : L2.St} {H H' : Hp} {ta tb tc te : TE} {t u : TT} {x y z v : V} {r r' : R2} {D : Ends} {tu tz : TS}
theorem ev_chain {a b : Bool} (ha : Ev ta σ H x) (hb : Ev tb σ H y) (hr : RV r x y H (.bl a)) (hc : a = true → Ev tc σ H z) (hr' : a = true → RV r' y z H (.bl b)) : Ev (tChain r r' ta tb tc) σ H (.bl (a && b)) := fun H1 e Q q =>
  ha H1 e _ fun H2 e2 => hb H2 (e.trans e2) _ fun H3 e3 => hr H3 ((e.trans e2).trans e3) _ fun H4 e4 => ⟨a, rfl, by
    have e5 := ((e.trans e2).trans e3).trans e4
    have e6 := (e2.trans e3).trans e4
    cases a with
    | true =>
      show tc σ H4 _
      exact hc rfl H4 e5 _ fun H5 e7 => hr' rfl H5 (e5.trans e7) Q fun H6 e8 => q H6 ((e6.trans e7).trans e8)
    | false =>
      show Q (.bl false) H4
      exact q H4 e6⟩
theorem ev_eqn {a b : Nat} (ha : Ev ta σ H (vn a)) (hb : Ev tb σ H (vn b)) : Ev (tOp rEq ta tb) σ H (.bl (decide (a = b))) :=
  ev_is (ev_op ha hb (rv_eq rfl)) (congrArg V.bl (decide_eq_decide.mpr (vn_eq a b)))
theorem ev_nen {a b : Nat} (ha : Ev ta σ H (vn a)) (hb : Ev tb σ H (vn b)) : Ev (tOp rNe ta tb) σ H (.bl (!decide (a = b))) :=
  ev_is (ev_op ha hb (rv_ne rfl)) (congrArg (fun b => V.bl (!b)) (decide_eq_decide.mpr (vn_eq a b)))
/-- for i, x in enumerate(l) -/
theorem s_forE {a : Addr} {xs : List V} {ta : TA} {j1 j2 : Nat} (h : EvA ta σ H [.ref a]) (hx : SqL K H a xs) (Pv : Nat → L2.St → Hp → Prop) (h0 : ∀ H1, Ex H H1 → Pv 0 σ H1) (hl : ∀ i σ' H', i ≤ xs.length → Pv i σ' H' → SqL K H' a xs)
    (hs : ∀ i x σ' H', xs[i]? = some x → Pv i σ' H' → ∀ H2, Ex H' H2 → tu { D with nx := Pv (i + 1), ct := Pv (i + 1), bk := D.nx } ((σ'.set j1 (some (vn i))).set j2 (some x)) H2) (hd : ∀ σ' H', Pv xs.length σ' H' → D.nx σ' H') :
    tFor (iEnum K ta) (gTup K 2 (gCons (gName j1) (gCons (gName j2) gNil))) tu D σ H :=
  h H (Ex.refl H) _ fun H1 e => ⟨a, xs, rfl, ex_l e hx, for_it walk_enum Pv (h0 H1 e) hl (fun i y σ' H2 H3 hi p q => by
    obtain ⟨T, y1, y2, rfl, hT, rfl, e1, e2⟩ := q
    cases e1
    exact ⟨T, _, rfl, st_of upd_same, rfl, _, _, rfl, _, _, rfl, rfl, hs i y2 σ' H2 e2 p _ (Ex.new hT)⟩) hd⟩
theorem q_forE {a : Addr} {xs : List V} {ta : TA} {j1 j2 : Nat} (h : EvA ta σ H [.ref a]) (hx : SqL K H a xs) (Pv : Nat → L2.St → Hp → Prop) (h0 : ∀ H1, Ex H H1 → Pv 0 σ H1) (hl : ∀ i σ' H', i ≤ xs.length → Pv i σ' H' → SqL K H' a xs)
    (hs : ∀ i x σ' H', xs[i]? = some x → Pv i σ' H' → ∀ H2, Ex H' H2 → tu { D with nx := Pv (i + 1), ct := Pv (i + 1), bk := tz D } ((σ'.set j1 (some (vn i))).set j2 (some x)) H2) (hd : ∀ σ' H', Pv xs.length σ' H' → tz D σ' H') :
    tSeq (tFor (iEnum K ta) (gTup K 2 (gCons (gName j1) (gCons (gName j2) gNil))) tu) tz D σ H := s_forE (D := { D with nx := tz D }) h hx Pv h0 hl hs hd
/-- gives a list or a tuple of xs; a tuple of xs -/
def EvQ (K : PySem.W.Frag) (te : TE) (σ : L2.St) (H : Hp) (xs : List V) : Prop := ∀ H1, Ex H H1 → ∀ Q : VK, (∀ p H2, Ex H1 H2 → Sq K H2 p xs → Q (.ref p) H2) → te σ H1 Q
def EvP (K : PySem.W.Frag) (te : TE) (σ : L2.St) (H : Hp) (xs : List V) : Prop := ∀ H1, Ex H H1 → ∀ Q : VK, (∀ p H2, Ex H1 H2 → H2 p = some (.tup xs) → Q (.ref p) H2) → te σ H1 Q
def rSl2 (K : PySem.W.Frag) : V → Option Int → Option Int → Hp → VK → Prop := fun x lo hi H Q => rSlL K x lo hi H Q ∨ rSlA K x lo hi H Q
theorem sl_two {X : Cx} : SlR X (rSl2 X.K) := sl_list.or sl_tupA
theorem cut_whole {xs : List V} {lo hi : Option Int} (h : HT.sIx xs.length 0 lo = 0 ∧ HT.sIx xs.length xs.length hi = xs.length) : cutV xs lo hi = xs := by
  unfold cutV
  rw [h.1, h.2, List.drop_zero, Nat.sub_zero, List.take_length]
theorem cut_nat (xs : List V) (i j : Nat) : cutV xs (some (i : Int)) (some (j : Int)) = (xs.drop i).take (j - i) := by
  unfold cutV
  rw [HT.sIx_nat, HT.sIx_nat]
  by_cases h : i ≤ xs.length
  · rw [Nat.min_eq_left h]
    by_cases h2 : j ≤ xs.length
    · rw [Nat.min_eq_left h2]
    · rw [Nat.min_eq_right (by omega)]
      rw [List.take_of_length_le (by rw [List.length_drop]; omega), List.take_of_length_le (by rw [List.length_drop]; omega)]
  · rw [Nat.min_eq_right (a := i) (by omega), List.drop_length, List.drop_eq_nil_of_le (by omega), List.take_nil, List.take_nil]
theorem cut_from (xs : List V) (i : Nat) : cutV xs (some (i : Int)) none = xs.drop i := by
  unfold cutV
  rw [HT.sIx_nat]
  show (xs.drop (min i xs.length)).take (xs.length - min i xs.length) = xs.drop i
  by_cases h : i ≤ xs.length
  · rw [Nat.min_eq_left h, List.take_of_length_le (by rw [List.length_drop]; omega)]
  · rw [Nat.min_eq_right (by omega), List.drop_length, List.drop_eq_nil_of_le (by omega), List.take_nil]
theorem cut_to (xs : List V) (j : Nat) : cutV xs none (some (j : Int)) = xs.take j := by
  unfold cutV
  rw [HT.sIx_nat]
  show (xs.drop 0).take (min j xs.length - 0) = xs.take j
  rw [List.drop_zero, Nat.sub_zero]
  by_cases h : j ≤ xs.length
  · rw [Nat.min_eq_left h]
  · rw [Nat.min_eq_right (by omega), List.take_length, List.take_of_length_le (by omega)]
theorem eq_sl {tl th : TO} {a : Addr} {xs : List V} {lo hi : Option Int} (h : Ev te σ H (.ref a)) (h1 : EvO tl σ H lo) (h2 : EvO th σ H hi) (hs : Sq K H a xs) : EvQ K (tSl (rSl2 K) te tl th) σ H (cutV xs lo hi) := fun H1 e Q q =>
  h H1 e _ fun H2 e2 => h1 H2 (e.trans e2) _ fun H3 e3 => h2 H3 ((e.trans e2).trans e3) _ fun H4 e4 => by
    have e5 := ((e.trans e2).trans e3).trans e4
    have e6 := (e2.trans e3).trans e4
    rcases hs with hs | hs
    · exact .inl ⟨a, xs, rfl, ex_l e5 hs, fun p hp => q p _ (e6.trans (Ex.new hp)) (.inl (sq_of upd_same))⟩
    · refine .inr ⟨a, xs, rfl, st_of (e5 _ _ hs), fun hw => q a H4 e6 (.inr ?_), fun _ p hp => q p _ (e6.trans (Ex.new hp)) (.inr upd_same)⟩
      rw [cut_whole hw]
      exact e5 _ _ hs
def rTupOf (K : PySem.W.Frag) : List V → Hp → VK → Prop := fun xs H Q => ∃ p ys, xs = [.ref p] ∧ ((SqL K H p ys ∧ ∀ l, H l = none → Q (.ref l) (upd H l (.tup ys))) ∨ (SqT K H p ys ∧ Q (.ref p) H))
theorem ep_tuple {xs : List V} (h : EvQ K te σ H xs) : EvP K (tCB (rTupOf K) (tCons te tNil)) σ H xs := fun H1 e Q q =>
  h H1 e _ fun p H2 e2 hs => ⟨p, xs, rfl, by
    rcases hs with hs | hs
    · exact .inl ⟨hs, fun l hl => q l _ (e2.trans (Ex.new hl)) upd_same⟩
    · exact .inr ⟨st_of hs, q p H2 e2 hs⟩⟩
theorem ev_lenQ {p : Addr} {xs : List V} (ha : Ev ta σ H (.ref p)) (h : Sq K H p xs) : Ev (tCB (rLenS K) (tCons ta tNil)) σ H (vn xs.length) := fun H1 e Q q =>
  ha H1 e _ fun H2 e2 => ⟨p, xs, rfl, (h.ex (e.trans e2)).r, q H2 e2⟩
theorem rv_ixQ {p : Addr} {xs : List V} {i : Nat} (h : Sq K H p xs) (ha : xs[i]? = some v) : RV (rIx K) (.ref p) (vn i) H v := fun H1 e _ q => by
  rcases h with h | h
  · exact .inl ⟨p, xs, (i : Int), v, rfl, rfl, ex_l e h, atI_nat ha, q H1 (Ex.refl H1)⟩
  · exact .inr (.inl ⟨p, xs, (i : Int), v, rfl, rfl, st_of (e _ _ h), atI_nat ha, q H1 (Ex.refl H1)⟩)
theorem ev_addn {a b : Nat} (ha : Ev ta σ H (vn a)) (hb : Ev tb σ H (vn b)) : Ev (tOp (rI0 fun i j => .int (i + j)) ta tb) σ H (vn (a + b)) :=
  ev_is (ev_op ha hb rv_I0) (congrArg V.int (by omega))
theorem ev_ltn {a b : Nat} (ha : Ev ta σ H (vn a)) (hb : Ev tb σ H (vn b)) : Ev (tOp (rI0 fun i j => .bl (decide (i < j))) ta tb) σ H (.bl (decide (a < b))) :=
  ev_is (ev_op ha hb rv_I0) (congrArg V.bl (decide_eq_decide.mpr (by omega)))
/-- other things stay where a list is changed -/
theorem tup_upd {L q : Addr} {xs ys : List V} {o : HO} (hL : H L = some (.lst xs)) (h : H q = some (.tup ys)) : upd H L o q = some (.tup ys) := by
  rw [upd_ne (ne_of h hL (fun z => nomatch z))]
  exact h
theorem tups_upd {L : Addr} {xs vs : List V} {ls : List (List Nat)} {o : HO} (hL : H L = some (.lst xs)) (h : TupsAt K H vs ls) : TupsAt K (upd H L o) vs ls :=
  Paired.mapP h fun _ _ ⟨a, q, r⟩ => ⟨a, q, tup_upd hL r⟩
theorem ex_tups {vs : List V} {ls : List (List Nat)} (e : Ex H H') (h : TupsAt K H vs ls) : TupsAt K H' vs ls := Paired.mapP h fun _ _ ⟨a, q, r⟩ => ⟨a, q, e _ _ r⟩
theorem TupsAt.len {vs : List V} {ls : List (List Nat)} (h : TupsAt K H vs ls) : vs.length = ls.length := Paired.length h
theorem TupsAt.get {vs : List V} {ls : List (List Nat)} {i : Nat} {x : V} (h : TupsAt K H vs ls) (hx : vs[i]? = some x) : ∃ a l, x = .ref a ∧ ls[i]? = some l ∧ H a = some (.tup (iv l)) := by
  obtain ⟨l, hl, a, e, q⟩ := paired_get h hx
  exact ⟨a, l, e, hl, q⟩
theorem TupsAt.snoc {vs : List V} {ls : List (List Nat)} {a : Addr} {l : List Nat} (h : TupsAt K H vs ls) (q : H a = some (.tup (iv l))) : TupsAt K H (vs ++ [.ref a]) (ls ++ [l]) := Paired.snoc h ⟨a, rfl, q⟩
/-- xs.append(a tuple) -/
theorem s_appP {l : Addr} {xs ys : List V} (hl : H l = some (.lst xs)) (ha : Ev ta σ H (.ref l)) (h : EvP K te σ H ys) (hz : xs.length < 100000) (k : ∀ p H1, Ex H H1 → H1 p = some (.tup ys) → H1 l = some (.lst xs) → D.nx σ (upd H1 l (.lst (xs ++ [.ref p])))) :
    tDrop (tBM K "list" rAppend ta (tCons te tNil)) D σ H := ha H (Ex.refl H) _ fun H1 e1 =>
  ⟨Or.inl ⟨rfl, xs, sq_of (e1 l _ hl)⟩, h H1 e1 _ fun p H2 e2 h2 => ⟨l, xs, .ref p, rfl, rfl, e2 l _ (e1 l _ hl), sz_lt hz, k p H2 (e1.trans e2) h2 (e2 l _ (e1 l _ hl))⟩⟩
theorem q_appP {l : Addr} {xs ys : List V} (hl : H l = some (.lst xs)) (ha : Ev ta σ H (.ref l)) (h : EvP K te σ H ys) (hz : xs.length < 100000) (k : ∀ p H1, Ex H H1 → H1 p = some (.tup ys) → H1 l = some (.lst xs) → tz D σ (upd H1 l (.lst (xs ++ [.ref p])))) :
    tSeq (tDrop (tBM K "list" rAppend ta (tCons te tNil))) tz D σ H := s_appP (D := { D with nx := tz D }) hl ha h hz k
theorem ev_din {S : Addr} {kvs : List (Key × V)} {k : Key} (hy : Ev ta σ H (kV k)) (hd : Ev tb σ H (.ref S)) (h : H S = some (.dK kvs)) : Ev (tDIn ta tb) σ H (.bl (valV kvs k).isSome) := fun H1 e Q q =>
  hy H1 e _ fun H2 e2 => hd H2 (e.trans e2) _ fun H3 e3 => ⟨S, _, rfl, DGet.k (((e.trans e2).trans e3) _ _ h), q H3 (e2.trans e3)⟩
theorem s_dput {S : Addr} {kvs : List (Key × V)} {k : Key} (hv : Ev tc σ H v) (hd : Ev tb σ H (.ref S)) (hy : Ev ta σ H (kV k)) (h : H S = some (.dK kvs)) (hl : kvs.length < 100000) (n : ∀ H1, Ex H H1 → D.nx σ (upd H1 S (.dK (putK kvs k v)))) :
    sDPut tb ta tc D σ H := hv H (Ex.refl H) _ fun H1 e1 => hd H1 e1 _ fun H2 e2 => hy H2 (e1.trans e2) _ fun H3 e3 => ⟨S, _, rfl, DPut.k (((e1.trans e2).trans e3) _ _ h) (sz_lt hl), n H3 ((e1.trans e2).trans e3)⟩
theorem q_dput {S : Addr} {kvs : List (Key × V)} {k : Key} (hv : Ev tc σ H v) (hd : Ev tb σ H (.ref S)) (hy : Ev ta σ H (kV k)) (h : H S = some (.dK kvs)) (hl : kvs.length < 100000) (n : ∀ H1, Ex H H1 → tz D σ (upd H1 S (.dK (putK kvs k v)))) :
    tSeq (sDPut tb ta tc) tz D σ H := s_dput (D := { D with nx := tz D }) hv hd hy h hl n
theorem ev_notL {p : Addr} {xs : List V} (ha : Ev ta σ H (.ref p)) (h : Sq K H p xs) : Ev (tNotT K ta) σ H (.bl xs.isEmpty) := fun H1 e Q q =>
  ha H1 e _ fun H2 e2 => ⟨!xs.isEmpty, h.elim (fun z => .inl ⟨xs, ex_l (e.trans e2) z, rfl⟩) fun z => .inr (.inl ⟨xs, st_of ((e.trans e2) _ _ z), rfl⟩), by rw [Bool.not_not]; exact q H2 e2⟩
/-- the truth of a list or tuple -/
def tTru (K : PySem.W.Frag) (ta : TE) : TT := fun σ H Q => ta σ H fun x H' => ∃ k, TruV K x H' k ∧ Q k H'
theorem et_tru {p : Addr} {xs : List V} (ha : Ev ta σ H (.ref p)) (h : Sq K H p xs) : EvT (tTru K ta) σ H (!xs.isEmpty) := fun H1 e Q q =>
  ha H1 e _ fun H2 e2 => ⟨!xs.isEmpty, h.elim (fun z => .inl ⟨xs, ex_l (e.trans e2) z, rfl⟩) fun z => .inr (.inl ⟨xs, st_of ((e.trans e2) _ _ z), rfl⟩), q H2 e2⟩
theorem pt_tru {X : Cx} {a : Expr} {ta : TE} (ha : PE X a ta) (he : ∀ whole, isTrue a X.env whole = (do let v ← whole; standAt a.pos; holding [v] (truthy v)) := by intro _; rfl) : PT X a (tTru X.K ta) := pt_truth ha he
theorem s_asgP {i : Nat} {xs : List V} (h : EvP K te σ H xs) (k : ∀ p H1, Ex H H1 → H1 p = some (.tup xs) → D.nx (σ.set i (some (.ref p))) H1) : tAsg te (gName i) D σ H := h H (Ex.refl H) _ fun p H1 e h1 => k p H1 e h1
theorem q_asgP {i : Nat} {xs : List V} (h : EvP K te σ H xs) (k : ∀ p H1, Ex H H1 → H1 p = some (.tup xs) → tz D (σ.set i (some (.ref p))) H1) : tSeq (tAsg te (gName i)) tz D σ H := s_asgP (D := { D with nx := tz D }) h k
theorem ev_dinT {S b : Addr} {kvs : List (List Key × V)} {k : List Key} (hy : Ev ta σ H (.ref b)) (hd : Ev tb σ H (.ref S)) (hb : H b = some (.tup (k.map kV))) (h : H S = some (.dT kvs)) : Ev (tDIn ta tb) σ H (.bl (valV kvs k).isSome) := fun H1 e Q q =>
  hy H1 e _ fun H2 e2 => hd H2 (e.trans e2) _ fun H3 e3 => ⟨S, _, rfl, DGet.t (((e.trans e2).trans e3) _ _ h) (((e.trans e2).trans e3) _ _ hb), q H3 (e2.trans e3)⟩
theorem s_dputT {S b : Addr} {kvs : List (List Key × V)} {k : List Key} (hv : Ev tc σ H v) (hd : Ev tb σ H (.ref S)) (hy : Ev ta σ H (.ref b)) (hb : H b = some (.tup (k.map kV))) (h : H S = some (.dT kvs)) (hl : kvs.length < 100000) (n : ∀ H1, Ex H H1 → D.nx σ (upd H1 S (.dT (putK kvs k v)))) :
    sDPut tb ta tc D σ H := hv H (Ex.refl H) _ fun H1 e1 => hd H1 e1 _ fun H2 e2 => hy H2 (e1.trans e2) _ fun H3 e3 => ⟨S, _, rfl, DPut.t (((e1.trans e2).trans e3) _ _ h) (((e1.trans e2).trans e3) _ _ hb) (sz_lt hl), n H3 ((e1.trans e2).trans e3)⟩
theorem rv_neT {a b : Addr} {l m : List Nat} (h1 : SqT K H a (iv l)) (h2 : SqT K H b (iv m)) : RV (rNeD K) (.ref a) (.ref b) H (.bl (!decide (l = m))) := fun H1 e _ q =>
  ⟨pd l, pd m, dp_pd (ex_t e h1), dp_pd (ex_t e h2), shaped_pd _, shaped_pd _, by rw [eqv_pd]; exact q H1 (Ex.refl H1)⟩
theorem rv_eqT {a b : Addr} {l m : List Nat} (h1 : SqT K H a (iv l)) (h2 : SqT K H b (iv m)) : RV (rEqD K) (.ref a) (.ref b) H (.bl (decide (l = m))) := fun H1 e _ q =>
  ⟨pd l, pd m, dp_pd (ex_t e h1), dp_pd (ex_t e h2), shaped_pd _, shaped_pd _, by rw [eqv_pd]; exact q H1 (Ex.refl H1)⟩
theorem eq_var {i : Nat} {a : Addr} {xs : List V} (h : σ[i]? = some (some (.ref a))) (hs : Sq K H a xs) : EvQ K (tVar i) σ H xs := fun H1 e Q q => ⟨.ref a, h, q a H1 (Ex.refl H1) (hs.ex e)⟩
theorem s_ext {l b : Addr} {xs zs : List V} (hl : H l = some (.lst xs)) (ha : Ev ta σ H (.ref l)) (hb : Ev tb σ H (.ref b)) (hz : SqT K H b zs) (hn : xs.length + zs.length ≤ 100000) (k : ∀ H1, Ex H H1 → D.nx σ (upd H1 l (.lst (xs ++ zs)))) :
    tDrop (tBM K "list" (rExtendT K) ta (tCons tb tNil)) D σ H := ha H (Ex.refl H) _ fun H1 e1 =>
  ⟨Or.inl ⟨rfl, xs, sq_of (e1 l _ hl)⟩, hb H1 e1 _ fun H2 e2 => ⟨l, b, xs, zs, rfl, rfl, (e1.trans e2) l _ hl, ex_t (e1.trans e2) hz, sz_of hn, k H2 (e1.trans e2)⟩⟩
theorem q_ext {l b : Addr} {xs zs : List V} (hl : H l = some (.lst xs)) (ha : Ev ta σ H (.ref l)) (hb : Ev tb σ H (.ref b)) (hz : SqT K H b zs) (hn : xs.length + zs.length ≤ 100000) (k : ∀ H1, Ex H H1 → tz D σ (upd H1 l (.lst (xs ++ zs)))) :
    tSeq (tDrop (tBM K "list" (rExtendT K) ta (tCons tb tNil))) tz D σ H := s_ext (D := { D with nx := tz D }) hl ha hb hz hn k
end
end Fo

set_option Elab.async false
set_option linter.all false
set_option maxRecDepth 100000
set_option maxHeartbeats 2000000
namespace Fo
open PySem L2
def top (i : Nat) : Stmt := PySem.Challenge.pw_fileoffice_s01_answers.main.body.getD i (.Pass ⟨0, 0, 0, 0⟩)
abbrev s_fault_place : Stmt := top 18
abbrev p_fault_place : List Str := ["row", "state"]
abbrev n_fault_place : List Str := ["row", "state", "place", "byte"]
theorem sc_fault_place : FnScope n_fault_place p_fault_place (defScope s_fault_place) := ⟨rfl, rfl, rfl, by decide +kernel, rfl, by decide +kernel, by decide +kernel⟩
abbrev s_state_behind : Stmt := top 19
abbrev p_state_behind : List Str := ["state", "byte"]
abbrev n_state_behind : List Str := ["state", "byte"]
theorem sc_state_behind : FnScope n_state_behind p_state_behind (defScope s_state_behind) := ⟨rfl, rfl, rfl, by decide +kernel, rfl, by decide +kernel, by decide +kernel⟩
abbrev s_state_behind_text : Stmt := top 20
abbrev p_state_behind_text : List Str := ["byte"]
abbrev n_state_behind_text : List Str := ["byte"]
theorem sc_state_behind_text : FnScope n_state_behind_text p_state_behind_text (defScope s_state_behind_text) := ⟨rfl, rfl, rfl, by decide +kernel, rfl, by decide +kernel, by decide +kernel⟩
abbrev s_state_behind_key : Stmt := top 21
abbrev p_state_behind_key : List Str := ["state", "byte"]
abbrev n_state_behind_key : List Str := ["state", "byte"]
theorem sc_state_behind_key : FnScope n_state_behind_key p_state_behind_key (defScope s_state_behind_key) := ⟨rfl, rfl, rfl, by decide +kernel, rfl, by decide +kernel, by decide +kernel⟩
abbrev s_state_behind_tag : Stmt := top 22
abbrev p_state_behind_tag : List Str := ["state", "byte"]
abbrev n_state_behind_tag : List Str := ["state", "byte"]
theorem sc_state_behind_tag : FnScope n_state_behind_tag p_state_behind_tag (defScope s_state_behind_tag) := ⟨rfl, rfl, rfl, by decide +kernel, rfl, by decide +kernel, by decide +kernel⟩
abbrev s_is_digit : Stmt := top 23
abbrev p_is_digit : List Str := ["byte"]
abbrev n_is_digit : List Str := ["byte"]
theorem sc_is_digit : FnScope n_is_digit p_is_digit (defScope s_is_digit) := ⟨rfl, rfl, rfl, by decide +kernel, rfl, by decide +kernel, by decide +kernel⟩
abbrev s_is_key_byte : Stmt := top 24
abbrev p_is_key_byte : List Str := ["byte"]
abbrev n_is_key_byte : List Str := ["byte"]
theorem sc_is_key_byte : FnScope n_is_key_byte p_is_key_byte (defScope s_is_key_byte) := ⟨rfl, rfl, rfl, by decide +kernel, rfl, by decide +kernel, by decide +kernel⟩
abbrev s_things_of : Stmt := top 26
abbrev p_things_of : List Str := ["text"]
abbrev n_things_of : List Str := ["text", "things", "place", "size"]
theorem sc_things_of : FnScope n_things_of p_things_of (defScope s_things_of) := ⟨rfl, rfl, rfl, by decide +kernel, rfl, by decide +kernel, by decide +kernel⟩
abbrev s_thing_size : Stmt := top 27
abbrev p_thing_size : List Str := ["text", "place"]
abbrev n_thing_size : List Str := ["text", "place"]
theorem sc_thing_size : FnScope n_thing_size p_thing_size (defScope s_thing_size) := ⟨rfl, rfl, rfl, by decide +kernel, rfl, by decide +kernel, by decide +kernel⟩
abbrev s_is_opening : Stmt := top 28
abbrev p_is_opening : List Str := ["thing"]
abbrev n_is_opening : List Str := ["thing"]
theorem sc_is_opening : FnScope n_is_opening p_is_opening (defScope s_is_opening) := ⟨rfl, rfl, rfl, by decide +kernel, rfl, by decide +kernel, by decide +kernel⟩
abbrev s_is_closing : Stmt := top 29
abbrev p_is_closing : List Str := ["thing"]
abbrev n_is_closing : List Str := ["thing"]
theorem sc_is_closing : FnScope n_is_closing p_is_closing (defScope s_is_closing) := ⟨rfl, rfl, rfl, by decide +kernel, rfl, by decide +kernel, by decide +kernel⟩
abbrev s_is_alone : Stmt := top 30
abbrev p_is_alone : List Str := ["thing"]
abbrev n_is_alone : List Str := ["thing"]
theorem sc_is_alone : FnScope n_is_alone p_is_alone (defScope s_is_alone) := ⟨rfl, rfl, rfl, by decide +kernel, rfl, by decide +kernel, by decide +kernel⟩
abbrev s_are_tags_right : Stmt := top 31
abbrev p_are_tags_right : List Str := ["things"]
abbrev n_are_tags_right : List Str := ["things", "unclosed", "seen", "thing"]
theorem sc_are_tags_right : FnScope n_are_tags_right p_are_tags_right (defScope s_are_tags_right) := ⟨rfl, rfl, rfl, by decide +kernel, rfl, by decide +kernel, by decide +kernel⟩
abbrev s_tags_of : Stmt := top 32
abbrev p_tags_of : List Str := ["things"]
abbrev n_tags_of : List Str := ["things", "thing"]
theorem sc_tags_of : FnScope n_tags_of p_tags_of (defScope s_tags_of) := ⟨rfl, rfl, rfl, by decide +kernel, rfl, by decide +kernel, by decide +kernel⟩
abbrev s_lines_of : Stmt := top 38
abbrev p_lines_of : List Str := ["text"]
abbrev n_lines_of : List Str := ["text", "lines", "line", "byte"]
theorem sc_lines_of : FnScope n_lines_of p_lines_of (defScope s_lines_of) := ⟨rfl, rfl, rfl, by decide +kernel, rfl, by decide +kernel, by decide +kernel⟩
abbrev s_file_of : Stmt := top 39
abbrev p_file_of : List Str := ["lines"]
abbrev n_file_of : List Str := ["lines", "text", "line"]
theorem sc_file_of : FnScope n_file_of p_file_of (defScope s_file_of) := ⟨rfl, rfl, rfl, by decide +kernel, rfl, by decide +kernel, by decide +kernel⟩
abbrev s_file_fault : Stmt := top 40
abbrev p_file_fault : List Str := ["lines"]
abbrev n_file_fault : List Str := ["lines", "number", "line", "fault"]
theorem sc_file_fault : FnScope n_file_fault p_file_fault (defScope s_file_fault) := ⟨rfl, rfl, rfl, by decide +kernel, rfl, by decide +kernel, by decide +kernel⟩
abbrev s_line_fault : Stmt := top 41
abbrev p_line_fault : List Str := ["line"]
abbrev n_line_fault : List Str := ["line", "place"]
theorem sc_line_fault : FnScope n_line_fault p_line_fault (defScope s_line_fault) := ⟨rfl, rfl, rfl, by decide +kernel, rfl, by decide +kernel, by decide +kernel⟩
abbrev s_key_fault : Stmt := top 42
abbrev p_key_fault : List Str := ["lines"]
abbrev n_key_fault : List Str := ["lines", "seen", "number", "line", "key"]
theorem sc_key_fault : FnScope n_key_fault p_key_fault (defScope s_key_fault) := ⟨rfl, rfl, rfl, by decide +kernel, rfl, by decide +kernel, by decide +kernel⟩
abbrev s_told_fault : Stmt := top 43
abbrev p_told_fault : List Str := ["number", "fault"]
abbrev n_told_fault : List Str := ["number", "fault"]
theorem sc_told_fault : FnScope n_told_fault p_told_fault (defScope s_told_fault) := ⟨rfl, rfl, rfl, by decide +kernel, rfl, by decide +kernel, by decide +kernel⟩
abbrev s_is_kept : Stmt := top 44
abbrev p_is_kept : List Str := ["line"]
abbrev n_is_kept : List Str := ["line"]
theorem sc_is_kept : FnScope n_is_kept p_is_kept (defScope s_is_kept) := ⟨rfl, rfl, rfl, by decide +kernel, rfl, by decide +kernel, by decide +kernel⟩
abbrev s_key_of : Stmt := top 45
abbrev p_key_of : List Str := ["line"]
abbrev n_key_of : List Str := ["line"]
theorem sc_key_of : FnScope n_key_of p_key_of (defScope s_key_of) := ⟨rfl, rfl, rfl, by decide +kernel, rfl, by decide +kernel, by decide +kernel⟩
abbrev s_text_of : Stmt := top 46
abbrev p_text_of : List Str := ["line"]
abbrev n_text_of : List Str := ["line"]
theorem sc_text_of : FnScope n_text_of p_text_of (defScope s_text_of) := ⟨rfl, rfl, rfl, by decide +kernel, rfl, by decide +kernel, by decide +kernel⟩
abbrev s_line_of : Stmt := top 47
abbrev p_line_of : List Str := ["key", "text"]
abbrev n_line_of : List Str := ["key", "text"]
theorem sc_line_of : FnScope n_line_of p_line_of (defScope s_line_of) := ⟨rfl, rfl, rfl, by decide +kernel, rfl, by decide +kernel, by decide +kernel⟩
abbrev s_texts_of : Stmt := top 48
abbrev p_texts_of : List Str := ["lines"]
abbrev n_texts_of : List Str := ["lines", "texts", "line"]
theorem sc_texts_of : FnScope n_texts_of p_texts_of (defScope s_texts_of) := ⟨rfl, rfl, rfl, by decide +kernel, rfl, by decide +kernel, by decide +kernel⟩
abbrev s_sentences_of : Stmt := top 55
abbrev p_sentences_of : List Str := ["text"]
abbrev n_sentences_of : List Str := ["text", "found", "sentence", "depth", "ending", "thing"]
theorem sc_sentences_of : FnScope n_sentences_of p_sentences_of (defScope s_sentences_of) := ⟨rfl, rfl, rfl, by decide +kernel, rfl, by decide +kernel, by decide +kernel⟩
abbrev s_can_begin : Stmt := top 56
abbrev p_can_begin : List Str := ["thing"]
abbrev n_can_begin : List Str := ["thing"]
theorem sc_can_begin : FnScope n_can_begin p_can_begin (defScope s_can_begin) := ⟨rfl, rfl, rfl, by decide +kernel, rfl, by decide +kernel, by decide +kernel⟩
abbrev s_ending_behind : Stmt := top 57
abbrev p_ending_behind : List Str := ["ending", "thing"]
abbrev n_ending_behind : List Str := ["ending", "thing"]
theorem sc_ending_behind : FnScope n_ending_behind p_ending_behind (defScope s_ending_behind) := ⟨rfl, rfl, rfl, by decide +kernel, rfl, by decide +kernel, by decide +kernel⟩
abbrev s_depth_behind : Stmt := top 58
abbrev p_depth_behind : List Str := ["depth", "thing"]
abbrev n_depth_behind : List Str := ["depth", "thing"]
theorem sc_depth_behind : FnScope n_depth_behind p_depth_behind (defScope s_depth_behind) := ⟨rfl, rfl, rfl, by decide +kernel, rfl, by decide +kernel, by decide +kernel⟩
abbrev s_Desk_init : Stmt := inClass (top 67) 0
abbrev p_Desk_init : List Str := ["self"]
abbrev n_Desk_init : List Str := ["self"]
theorem sc_Desk_init : FnScope n_Desk_init p_Desk_init (defScope s_Desk_init) := ⟨rfl, rfl, rfl, by decide +kernel, rfl, by decide +kernel, by decide +kernel⟩
abbrev s_Desk_lay_file : Stmt := inClass (top 67) 1
abbrev p_Desk_lay_file : List Str := ["self", "text"]
abbrev n_Desk_lay_file : List Str := ["self", "text"]
theorem sc_Desk_lay_file : FnScope n_Desk_lay_file p_Desk_lay_file (defScope s_Desk_lay_file) := ⟨rfl, rfl, rfl, by decide +kernel, rfl, by decide +kernel, by decide +kernel⟩
abbrev s_Desk_lay_newer : Stmt := inClass (top 67) 2
abbrev p_Desk_lay_newer : List Str := ["self", "text"]
abbrev n_Desk_lay_newer : List Str := ["self", "text"]
theorem sc_Desk_lay_newer : FnScope n_Desk_lay_newer p_Desk_lay_newer (defScope s_Desk_lay_newer) := ⟨rfl, rfl, rfl, by decide +kernel, rfl, by decide +kernel, by decide +kernel⟩
abbrev s_Desk_lay : Stmt := inClass (top 67) 3
abbrev p_Desk_lay : List Str := ["self", "text", "is_newer"]
abbrev n_Desk_lay : List Str := ["self", "text", "is_newer", "lines", "fault", "texts", "sentences"]
theorem sc_Desk_lay : FnScope n_Desk_lay p_Desk_lay (defScope s_Desk_lay) := ⟨rfl, rfl, rfl, by decide +kernel, rfl, by decide +kernel, by decide +kernel⟩
abbrev s_Desk_brought_over : Stmt := inClass (top 67) 4
abbrev p_Desk_brought_over : List Str := ["self", "sentences"]
abbrev n_Desk_brought_over : List Str := ["self", "sentences", "first", "translations", "spot", "sentence", "text_in_key"]
theorem sc_Desk_brought_over : FnScope n_Desk_brought_over p_Desk_brought_over (defScope s_Desk_brought_over) := ⟨rfl, rfl, rfl, by decide +kernel, rfl, by decide +kernel, by decide +kernel⟩
abbrev s_Desk_first_done : Stmt := inClass (top 67) 5
abbrev p_Desk_first_done : List Str := ["self"]
abbrev n_Desk_first_done : List Str := ["self", "first", "spot", "translation"]
theorem sc_Desk_first_done : FnScope n_Desk_first_done p_Desk_first_done (defScope s_Desk_first_done) := ⟨rfl, rfl, rfl, by decide +kernel, rfl, by decide +kernel, by decide +kernel⟩
abbrev s_Desk_standing : Stmt := inClass (top 67) 6
abbrev p_Desk_standing : List Str := ["self"]
abbrev n_Desk_standing : List Str := ["self"]
theorem sc_Desk_standing : FnScope n_Desk_standing p_Desk_standing (defScope s_Desk_standing) := ⟨rfl, rfl, rfl, by decide +kernel, rfl, by decide +kernel, by decide +kernel⟩
abbrev s_Desk_list_sentences : Stmt := inClass (top 67) 7
abbrev p_Desk_list_sentences : List Str := ["self"]
abbrev n_Desk_list_sentences : List Str := ["self", "answer", "spot", "sentence"]
theorem sc_Desk_list_sentences : FnScope n_Desk_list_sentences p_Desk_list_sentences (defScope s_Desk_list_sentences) := ⟨rfl, rfl, rfl, by decide +kernel, rfl, by decide +kernel, by decide +kernel⟩
abbrev s_Desk_list_undone : Stmt := inClass (top 67) 8
abbrev p_Desk_list_undone : List Str := ["self"]
abbrev n_Desk_list_undone : List Str := ["self", "undone", "spot", "answer"]
theorem sc_Desk_list_undone : FnScope n_Desk_list_undone p_Desk_list_undone (defScope s_Desk_list_undone) := ⟨rfl, rfl, rfl, by decide +kernel, rfl, by decide +kernel, by decide +kernel⟩
abbrev s_Desk_show_sentence : Stmt := inClass (top 67) 9
abbrev p_Desk_show_sentence : List Str := ["self", "key", "number"]
abbrev n_Desk_show_sentence : List Str := ["self", "key", "number", "spot", "answer"]
theorem sc_Desk_show_sentence : FnScope n_Desk_show_sentence p_Desk_show_sentence (defScope s_Desk_show_sentence) := ⟨rfl, rfl, rfl, by decide +kernel, rfl, by decide +kernel, by decide +kernel⟩
abbrev s_Desk_put_translation : Stmt := inClass (top 67) 10
abbrev p_Desk_put_translation : List Str := ["self", "key", "number", "translation"]
abbrev n_Desk_put_translation : List Str := ["self", "key", "number", "translation", "spot", "refusal"]
theorem sc_Desk_put_translation : FnScope n_Desk_put_translation p_Desk_put_translation (defScope s_Desk_put_translation) := ⟨rfl, rfl, rfl, by decide +kernel, rfl, by decide +kernel, by decide +kernel⟩
abbrev s_Desk_take_translation_away : Stmt := inClass (top 67) 11
abbrev p_Desk_take_translation_away : List Str := ["self", "key", "number"]
abbrev n_Desk_take_translation_away : List Str := ["self", "key", "number", "spot"]
theorem sc_Desk_take_translation_away : FnScope n_Desk_take_translation_away p_Desk_take_translation_away (defScope s_Desk_take_translation_away) := ⟨rfl, rfl, rfl, by decide +kernel, rfl, by decide +kernel, by decide +kernel⟩
abbrev s_Desk_refusal_of : Stmt := inClass (top 67) 12
abbrev p_Desk_refusal_of : List Str := ["self", "spot", "translation"]
abbrev n_Desk_refusal_of : List Str := ["self", "spot", "translation", "place"]
theorem sc_Desk_refusal_of : FnScope n_Desk_refusal_of p_Desk_refusal_of (defScope s_Desk_refusal_of) := ⟨rfl, rfl, rfl, by decide +kernel, rfl, by decide +kernel, by decide +kernel⟩
abbrev s_Desk_show_key : Stmt := inClass (top 67) 13
abbrev p_Desk_show_key : List Str := ["self", "key"]
abbrev n_Desk_show_key : List Str := ["self", "key", "known"]
theorem sc_Desk_show_key : FnScope n_Desk_show_key p_Desk_show_key (defScope s_Desk_show_key) := ⟨rfl, rfl, rfl, by decide +kernel, rfl, by decide +kernel, by decide +kernel⟩
abbrev s_Desk_build_file : Stmt := inClass (top 67) 14
abbrev p_Desk_build_file : List Str := ["self"]
abbrev n_Desk_build_file : List Str := ["self", "line"]
theorem sc_Desk_build_file : FnScope n_Desk_build_file p_Desk_build_file (defScope s_Desk_build_file) := ⟨rfl, rfl, rfl, by decide +kernel, rfl, by decide +kernel, by decide +kernel⟩
abbrev s_Desk_built_line : Stmt := inClass (top 67) 15
abbrev p_Desk_built_line : List Str := ["self", "line"]
abbrev n_Desk_built_line : List Str := ["self", "line", "key"]
theorem sc_Desk_built_line : FnScope n_Desk_built_line p_Desk_built_line (defScope s_Desk_built_line) := ⟨rfl, rfl, rfl, by decide +kernel, rfl, by decide +kernel, by decide +kernel⟩
abbrev s_Desk_built_text : Stmt := inClass (top 67) 16
abbrev p_Desk_built_text : List Str := ["self", "key"]
abbrev n_Desk_built_text : List Str := ["self", "key", "text", "spot"]
theorem sc_Desk_built_text : FnScope n_Desk_built_text p_Desk_built_text (defScope s_Desk_built_text) := ⟨rfl, rfl, rfl, by decide +kernel, rfl, by decide +kernel, by decide +kernel⟩
abbrev s_are_bytes : Stmt := top 68
abbrev p_are_bytes : List Str := ["row", "most"]
abbrev n_are_bytes : List Str := ["row", "most", "number"]
theorem sc_are_bytes : FnScope n_are_bytes p_are_bytes (defScope s_are_bytes) := ⟨rfl, rfl, rfl, by decide +kernel, rfl, by decide +kernel, by decide +kernel⟩
abbrev s_numbered_sentences : Stmt := top 69
abbrev p_numbered_sentences : List Str := ["texts"]
abbrev n_numbered_sentences : List Str := ["texts", "sentences", "key", "text", "number", "sentence"]
theorem sc_numbered_sentences : FnScope n_numbered_sentences p_numbered_sentences (defScope s_numbered_sentences) := ⟨rfl, rfl, rfl, by decide +kernel, rfl, by decide +kernel, by decide +kernel⟩
abbrev s_is_translation : Stmt := top 70
abbrev p_is_translation : List Str := ["translation", "sentence"]
abbrev n_is_translation : List Str := ["translation", "sentence", "things"]
theorem sc_is_translation : FnScope n_is_translation p_is_translation (defScope s_is_translation) := ⟨rfl, rfl, rfl, by decide +kernel, rfl, by decide +kernel, by decide +kernel⟩
abbrev s_counted : Stmt := top 71
abbrev p_counted : List Str := ["row"]
abbrev n_counted : List Str := ["row"]
theorem sc_counted : FnScope n_counted p_counted (defScope s_counted) := ⟨rfl, rfl, rfl, by decide +kernel, rfl, by decide +kernel, by decide +kernel⟩
abbrev s_Reader_init : Stmt := inClass (top 73) 0
abbrev p_Reader_init : List Str := ["self", "numbers"]
abbrev n_Reader_init : List Str := ["self", "numbers"]
theorem sc_Reader_init : FnScope n_Reader_init p_Reader_init (defScope s_Reader_init) := ⟨rfl, rfl, rfl, by decide +kernel, rfl, by decide +kernel, by decide +kernel⟩
abbrev s_Reader_is_at_end : Stmt := inClass (top 73) 1
abbrev p_Reader_is_at_end : List Str := ["self"]
abbrev n_Reader_is_at_end : List Str := ["self"]
theorem sc_Reader_is_at_end : FnScope n_Reader_is_at_end p_Reader_is_at_end (defScope s_Reader_is_at_end) := ⟨rfl, rfl, rfl, by decide +kernel, rfl, by decide +kernel, by decide +kernel⟩
abbrev s_Reader_take_number : Stmt := inClass (top 73) 2
abbrev p_Reader_take_number : List Str := ["self"]
abbrev n_Reader_take_number : List Str := ["self", "number"]
theorem sc_Reader_take_number : FnScope n_Reader_take_number p_Reader_take_number (defScope s_Reader_take_number) := ⟨rfl, rfl, rfl, by decide +kernel, rfl, by decide +kernel, by decide +kernel⟩
abbrev s_Reader_take_row : Stmt := inClass (top 73) 3
abbrev p_Reader_take_row : List Str := ["self"]
abbrev n_Reader_take_row : List Str := ["self", "size", "row"]
theorem sc_Reader_take_row : FnScope n_Reader_take_row p_Reader_take_row (defScope s_Reader_take_row) := ⟨rfl, rfl, rfl, by decide +kernel, rfl, by decide +kernel, by decide +kernel⟩
abbrev s_answers : Stmt := top 84
abbrev p_answers : List Str := ["calls"]
abbrev n_answers : List Str := ["calls", "reader", "desk", "told", "answer"]
theorem sc_answers : FnScope n_answers p_answers (defScope s_answers) := ⟨rfl, rfl, rfl, by decide +kernel, rfl, by decide +kernel, by decide +kernel⟩
abbrev s_answer_call : Stmt := top 85
abbrev p_answer_call : List Str := ["desk", "reader"]
abbrev n_answer_call : List Str := ["desk", "reader", "call"]
theorem sc_answer_call : FnScope n_answer_call p_answer_call (defScope s_answer_call) := ⟨rfl, rfl, rfl, by decide +kernel, rfl, by decide +kernel, by decide +kernel⟩
abbrev s_answer_sentence_call : Stmt := top 86
abbrev p_answer_sentence_call : List Str := ["call", "desk", "reader"]
abbrev n_answer_sentence_call : List Str := ["call", "desk", "reader", "number", "key"]
theorem sc_answer_sentence_call : FnScope n_answer_sentence_call p_answer_sentence_call (defScope s_answer_sentence_call) := ⟨rfl, rfl, rfl, by decide +kernel, rfl, by decide +kernel, by decide +kernel⟩
end Fo
-- fault_place fault_place top 18 0:row 1:state 2:place 3:byte
-- state_behind state_behind top 19 0:state 1:byte
-- state_behind_text state_behind_text top 20 0:byte
-- state_behind_key state_behind_key top 21 0:state 1:byte
-- state_behind_tag state_behind_tag top 22 0:state 1:byte
-- is_digit is_digit top 23 0:byte
-- is_key_byte is_key_byte top 24 0:byte
-- things_of things_of top 26 0:text 1:things 2:place 3:size
-- thing_size thing_size top 27 0:text 1:place
-- is_opening is_opening top 28 0:thing
-- is_closing is_closing top 29 0:thing
-- is_alone is_alone top 30 0:thing
-- are_tags_right are_tags_right top 31 0:things 1:unclosed 2:seen 3:thing
-- tags_of tags_of top 32 0:things 1:thing
-- lines_of lines_of top 38 0:text 1:lines 2:line 3:byte
-- file_of file_of top 39 0:lines 1:text 2:line
-- file_fault file_fault top 40 0:lines 1:number 2:line 3:fault
-- line_fault line_fault top 41 0:line 1:place
-- key_fault key_fault top 42 0:lines 1:seen 2:number 3:line 4:key
-- told_fault told_fault top 43 0:number 1:fault
-- is_kept is_kept top 44 0:line
-- key_of key_of top 45 0:line
-- text_of text_of top 46 0:line
-- line_of line_of top 47 0:key 1:text
-- texts_of texts_of top 48 0:lines 1:texts 2:line
-- sentences_of sentences_of top 55 0:text 1:found 2:sentence 3:depth 4:ending 5:thing
-- can_begin can_begin top 56 0:thing
-- ending_behind ending_behind top 57 0:ending 1:thing
-- depth_behind depth_behind top 58 0:depth 1:thing
-- Desk_init Desk.__init__ inClass (top 67) 0 0:self
-- Desk_lay_file Desk.lay_file inClass (top 67) 1 0:self 1:text
-- Desk_lay_newer Desk.lay_newer inClass (top 67) 2 0:self 1:text
-- Desk_lay Desk.lay inClass (top 67) 3 0:self 1:text 2:is_newer 3:lines 4:fault 5:texts 6:sentences
-- Desk_brought_over Desk.brought_over inClass (top 67) 4 0:self 1:sentences 2:first 3:translations 4:spot 5:sentence 6:text_in_key
-- Desk_first_done Desk.first_done inClass (top 67) 5 0:self 1:first 2:spot 3:translation
-- Desk_standing Desk.standing inClass (top 67) 6 0:self
-- Desk_list_sentences Desk.list_sentences inClass (top 67) 7 0:self 1:answer 2:spot 3:sentence
-- Desk_list_undone Desk.list_undone inClass (top 67) 8 0:self 1:undone 2:spot 3:answer
-- Desk_show_sentence Desk.show_sentence inClass (top 67) 9 0:self 1:key 2:number 3:spot 4:answer
-- Desk_put_translation Desk.put_translation inClass (top 67) 10 0:self 1:key 2:number 3:translation 4:spot 5:refusal
-- Desk_take_translation_away Desk.take_translation_away inClass (top 67) 11 0:self 1:key 2:number 3:spot
-- Desk_refusal_of Desk.refusal_of inClass (top 67) 12 0:self 1:spot 2:translation 3:place
-- Desk_show_key Desk.show_key inClass (top 67) 13 0:self 1:key 2:known
-- Desk_build_file Desk.build_file inClass (top 67) 14 0:self 1:line
-- Desk_built_line Desk.built_line inClass (top 67) 15 0:self 1:line 2:key
-- Desk_built_text Desk.built_text inClass (top 67) 16 0:self 1:key 2:text 3:spot
-- are_bytes are_bytes top 68 0:row 1:most 2:number
-- numbered_sentences numbered_sentences top 69 0:texts 1:sentences 2:key 3:text 4:number 5:sentence
-- is_translation is_translation top 70 0:translation 1:sentence 2:things
-- counted counted top 71 0:row
-- Reader_init Reader.__init__ inClass (top 73) 0 0:self 1:numbers
-- Reader_is_at_end Reader.is_at_end inClass (top 73) 1 0:self
-- Reader_take_number Reader.take_number inClass (top 73) 2 0:self 1:number
-- Reader_take_row Reader.take_row inClass (top 73) 3 0:self 1:size 2:row
-- answers answers top 84 0:calls 1:reader 2:desk 3:told 4:answer
-- answer_call answer_call top 85 0:desk 1:reader 2:call
-- answer_sentence_call answer_sentence_call top 86 0:call 1:desk 2:reader 3:number 4:key

set_option Elab.async false
set_option linter.all false
set_option maxRecDepth 100000
set_option maxHeartbeats 2000000
namespace Fo
open PySem PySem.Spec PyProof.Rows L2 Evl
def RS.str : RS → Str
  | .keyBegin => "no byte of a key yet"
  | .inKey => "within a key"
  | .text => "between the things of a text"
  | .bslash => "behind a backslash"
  | .less => "behind a tag's first byte"
  | .closing => "behind a closing tag's slash"
  | .digit => "behind the digit of a tag that opens or stands alone"
  | .tagEnd => "ahead of a tag's last byte"
  | .wrong => "behind a byte that can't stand there"
/-- what the module's names hold -/
structure TxR (K : PySem.W.Frag) (mg : Str → Option Value) : Prop where
  TAB : Cn mg "TAB" (vn 9)
  DOT : Cn mg "DOT" (vn 46)
  SLASH : Cn mg "SLASH" (vn 47)
  LESS : Cn mg "LESS" (vn 60)
  EQUALS : Cn mg "EQUALS" (vn 61)
  GREATER : Cn mg "GREATER" (vn 62)
  BACKSLASH : Cn mg "BACKSLASH" (vn 92)
  BEHIND : ∃ a, Cn mg "BYTES_BEHIND_BACKSLASH" (.ref a) ∧ ∀ H, SqT K H a (iv [60, 92, 110, 116])
  KEY_BEGIN : Cn mg "KEY_BEGIN" (.str RS.keyBegin.str)
  IN_KEY : Cn mg "IN_KEY" (.str RS.inKey.str)
  IN_TEXT : Cn mg "IN_TEXT" (.str RS.text.str)
  BEHIND_BACKSLASH : Cn mg "BEHIND_BACKSLASH" (.str RS.bslash.str)
  BEHIND_LESS : Cn mg "BEHIND_LESS" (.str RS.less.str)
  BEHIND_CLOSING : Cn mg "BEHIND_CLOSING" (.str RS.closing.str)
  BEHIND_DIGIT : Cn mg "BEHIND_DIGIT" (.str RS.digit.str)
  AT_TAG_END : Cn mg "AT_TAG_END" (.str RS.tagEnd.str)
  WRONG : Cn mg "WRONG" (.str RS.wrong.str)
  len : mg "len" = none
  enumerate : mg "enumerate" = none
/-- of one byte: a value -/
def spByte (g : Nat → V) : Sp := fun vs H Q _ => ∃ n : Nat, vs = [vn n] ∧ RetV (g n) H Q
theorem sv_byte {g : Nat → V} {n : Nat} {H : Hp} : SpV (spByte g) [vn n] H (g n) := fun H1 _ Q q _ => ⟨n, rfl, q⟩
/-- of a state and a byte: a state -/
def spState (g : RS → Nat → RS) : Sp := fun vs H Q _ => ∃ (st : RS) (n : Nat), vs = [.str st.str, vn n] ∧ RetV (.str (g st n).str) H Q
theorem sv_state {g : RS → Nat → RS} {st : RS} {n : Nat} {H : Hp} : SpV (spState g) [.str st.str, vn n] H (.str (g st n).str) := fun H1 _ Q q _ => ⟨st, n, rfl, q⟩
theorem str_inj {a b : RS} : V.str a.str = V.str b.str ↔ a = b := by
  constructor
  · intro h
    injection h with h
    cases a <;> cases b <;> first | rfl | exact absurd h (by decide +kernel)
  · rintro rfl
    rfl
theorem ev_eqs {σ : L2.St} {H : Hp} {ta tb : TE} {a b : RS} (ha : Ev ta σ H (.str a.str)) (hb : Ev tb σ H (.str b.str)) : Ev (tOp rEq ta tb) σ H (.bl (decide (a = b))) :=
  ev_is (ev_op ha hb (rv_eq rfl)) (congrArg V.bl (decide_eq_decide.mpr str_inj))
theorem c_is_digit {W : Wd} (a : At W.K W.mg "is_digit" s_is_digit) : Cal W 1 "is_digit" (spByte fun n => .bl (isDigit n)) := by
  refine cal a sc_is_digit (fun _ _ _ _ _ _ us hl => match us, hl with | [_], _ => rfl) (fun vs H Q E h => by obtain ⟨n, rfl, _⟩ := h; rfl) (fun f cdv A outer s H vs Q E hr h => ?_)
  obtain ⟨n, rfl, q⟩ := h
  refine ⟨_, pss_one (ps_ret (pe_chain op_le op_le pe_int (pv 0) pe_int)), ?_⟩
  refine s_ret (ev_is (ev_chain ev_c (ev_var rfl) rv_I0 (fun _ => ev_c) (fun _ => rv_I0)) (congrArg V.bl ?_)) q
  exact congr (congrArg _ (decide_eq_decide.mpr (by omega))) (decide_eq_decide.mpr (by omega))
theorem c_is_key_byte {W : Wd} (T : TxR W.K W.mg) (a : At W.K W.mg "is_key_byte" s_is_key_byte) (c1 : Cal W 1 "is_digit" (spByte fun n => .bl (isDigit n))) : Cal W 2 "is_key_byte" (spByte fun n => .bl (isKeyByte n)) := by
  refine cal a sc_is_key_byte (fun _ _ _ _ _ _ us hl => match us, hl with | [_], _ => rfl) (fun vs H Q E h => by obtain ⟨n, rfl, _⟩ := h; rfl) (fun f cdv A outer s H vs Q E hr h => ?_)
  obtain ⟨n, rfl, q⟩ := h
  refine ⟨_, pss_one (ps_ret (pe_or (pe_chain op_le op_le pe_int (pv 0) pe_int) (pe_or (pe_c c1 hr (pa_cons (pv 0) pa_nil)) (pe_one (pe_cmpR op_eq (pv 0) (pe_gc T.DOT) (nomark _)))))), ?_⟩
  refine s_ret (ev_is (ev_orV (ev_chain ev_c (ev_var rfl) rv_I0 (fun _ => ev_c) (fun _ => rv_I0)) fun _ => ev_orV (ev_call (ea_cons (ev_var rfl) ea_nil) sv_byte) fun _ => ev_eqn (ev_var rfl) ev_c) (congrArg V.bl ?_)) q
  refine congrFun (congrArg or ?_) _
  exact congr (congrArg _ (decide_eq_decide.mpr (by omega))) (decide_eq_decide.mpr (by omega))
theorem c_sb_text {W : Wd} (T : TxR W.K W.mg) (a : At W.K W.mg "state_behind_text" s_state_behind_text) : Cal W 1 "state_behind_text" (spByte fun n => .str (sbText n).str) := by
  refine cal a sc_state_behind_text (fun _ _ _ _ _ _ us hl => match us, hl with | [_], _ => rfl) (fun vs H Q E h => by obtain ⟨n, rfl, _⟩ := h; rfl) (fun f cdv A outer s H vs Q E hr h => ?_)
  obtain ⟨n, rfl, q⟩ := h
  refine ⟨_, pss_cons (ps_if (pt_cmpR op_eq (pv 0) (pe_gc T.BACKSLASH) (nomark _)) (pss_one (ps_ret (pe_gc T.BEHIND_BACKSLASH))) pss_nil)
    (pss_cons (ps_if (pt_cmpR op_eq (pv 0) (pe_gc T.LESS) (nomark _)) (pss_one (ps_ret (pe_gc T.BEHIND_LESS))) pss_nil)
    (pss_one (ps_ret (pe_ifExp (pt_cmpR op_eq (pv 0) (pe_gc T.TAB) (nomark _)) (pe_gc T.WRONG) (pe_gc T.IN_TEXT))))), ?_⟩
  refine q_when (et_test (ev_eqn (ev_var rfl) ev_c)) (fun b1 H1 e1 => s_ret (ev_is ev_c ?_) fun H2 e2 => q H2 (e1.trans e2)) (fun b1 H1 e1 => ?_)
  · show V.str RS.bslash.str = V.str (sbText n).str
    unfold sbText
    rw [if_pos (of_decide_eq_true b1)]
  refine q_when (et_test (ev_eqn (ev_var rfl) ev_c)) (fun b2 H2 e2 => s_ret (ev_is ev_c ?_) fun H3 e3 => q H3 ((e1.trans e2).trans e3)) (fun b2 H2 e2 => ?_)
  · show V.str RS.less.str = V.str (sbText n).str
    unfold sbText
    rw [if_neg (of_decide_eq_false b1), if_pos (of_decide_eq_true b2)]
  refine s_ret (ev_if (et_test (ev_eqn (ev_var rfl) ev_c)) (fun b3 => ev_is ev_c ?_) (fun b3 => ev_is ev_c ?_)) fun H3 e3 => q H3 ((e1.trans e2).trans e3)
  · show V.str RS.wrong.str = V.str (sbText n).str
    unfold sbText
    rw [if_neg (of_decide_eq_false b1), if_neg (of_decide_eq_false b2), if_pos (of_decide_eq_true b3)]
  · show V.str RS.text.str = V.str (sbText n).str
    unfold sbText
    rw [if_neg (of_decide_eq_false b1), if_neg (of_decide_eq_false b2), if_neg (of_decide_eq_false b3)]

theorem c_sb_key {W : Wd} (T : TxR W.K W.mg) (a : At W.K W.mg "state_behind_key" s_state_behind_key) (c1 : Cal W 2 "is_key_byte" (spByte fun n => .bl (isKeyByte n))) : Cal W 3 "state_behind_key" (spState sbKey) := by
  refine cal a sc_state_behind_key (fun _ _ _ _ _ _ us hl => match us, hl with | [_, _], _ => rfl) (fun vs H Q E h => by obtain ⟨st, n, rfl, _⟩ := h; rfl) (fun f cdv A outer s H vs Q E hr h => ?_)
  obtain ⟨st, n, rfl, q⟩ := h
  refine ⟨_, pss_cons (ps_if (pt_val (pe_c c1 hr (pa_cons (pv 1) pa_nil))) (pss_one (ps_ret (pe_gc T.IN_KEY))) pss_nil)
    (pss_one (ps_ret (pe_ifExp (PW.pt (pw_and (pt_cmpR op_eq (pv 1) (pe_gc T.EQUALS) (nomark _)) (pw_and1 (pt_cmpR op_eq (pv 0) (pe_gc T.IN_KEY) (nomark _))))) (pe_gc T.IN_TEXT) (pe_gc T.WRONG)))), ?_⟩
  refine q_when (et_B (ev_call (ea_cons (ev_var rfl) ea_nil) sv_byte)) (fun b1 H1 e1 => s_ret (ev_is ev_c ?_) fun H2 e2 => q H2 (e1.trans e2)) (fun b1 H1 e1 => ?_)
  · show V.str RS.inKey.str = V.str (sbKey st n).str
    unfold sbKey
    rw [if_pos b1]
  have b1' : ¬ isKeyByte n = true := by rw [b1]; decide
  refine s_ret (ev_if (et_and (et_test (ev_eqn (ev_var rfl) ev_c)) fun _ => et_test (ev_eqs (ev_var rfl) ev_c)) (fun b3 => ev_is ev_c ?_) (fun b3 => ev_is ev_c ?_)) fun H3 e3 => q H3 (e1.trans e3)
  · show V.str RS.text.str = V.str (sbKey st n).str
    unfold sbKey
    rw [if_neg b1', if_pos (by simpa using b3)]
  · show V.str RS.wrong.str = V.str (sbKey st n).str
    unfold sbKey
    rw [if_neg b1', if_neg (by simpa using b3)]
theorem c_sb_tag {W : Wd} (T : TxR W.K W.mg) (a : At W.K W.mg "state_behind_tag" s_state_behind_tag) (c1 : Cal W 1 "is_digit" (spByte fun n => .bl (isDigit n))) : Cal W 2 "state_behind_tag" (spState sbTag) := by
  refine cal a sc_state_behind_tag (fun _ _ _ _ _ _ us hl => match us, hl with | [_, _], _ => rfl) (fun vs H Q E h => by obtain ⟨st, n, rfl, _⟩ := h; rfl) (fun f cdv A outer s H vs Q E hr h => ?_)
  obtain ⟨st, n, rfl, q⟩ := h
  refine ⟨_, pss_cons (ps_if (PW.pt (pw_and (pt_cmpR op_eq (pv 0) (pe_gc T.BEHIND_LESS) (nomark _)) (pw_and1 (pt_cmpR op_eq (pv 1) (pe_gc T.SLASH) (nomark _))))) (pss_one (ps_ret (pe_gc T.BEHIND_CLOSING))) pss_nil)
    (pss_cons (ps_if (pt_cmpR op_eq (pv 0) (pe_gc T.BEHIND_LESS) (nomark _)) (pss_one (ps_ret (pe_ifExp (pt_val (pe_c c1 hr (pa_cons (pv 1) pa_nil))) (pe_gc T.BEHIND_DIGIT) (pe_gc T.WRONG)))) pss_nil)
    (pss_cons (ps_if (pt_cmpR op_eq (pv 0) (pe_gc T.BEHIND_CLOSING) (nomark _)) (pss_one (ps_ret (pe_ifExp (pt_val (pe_c c1 hr (pa_cons (pv 1) pa_nil))) (pe_gc T.AT_TAG_END) (pe_gc T.WRONG)))) pss_nil)
    (pss_cons (ps_if (PW.pt (pw_and (pt_cmpR op_eq (pv 0) (pe_gc T.BEHIND_DIGIT) (nomark _)) (pw_and1 (pt_cmpR op_eq (pv 1) (pe_gc T.SLASH) (nomark _))))) (pss_one (ps_ret (pe_gc T.AT_TAG_END))) pss_nil)
    (pss_one (ps_ret (pe_ifExp (pt_cmpR op_eq (pv 1) (pe_gc T.GREATER) (nomark _)) (pe_gc T.IN_TEXT) (pe_gc T.WRONG))))))), ?_⟩
  have dig : ∀ {H1 : Hp} {x y : RS}, Ev (tIf (tB (tCall (spByte fun n => .bl (isDigit n)) [] E0 (tCons (tVar 1) tNil))) (tC (.str x.str)) (tC (.str y.str))) (start n_state_behind_tag [.str st.str, vn n]) H1 (.str (if isDigit n = true then x else y).str) := by
    intro H1 x y
    refine ev_if (et_B (ev_call (ea_cons (ev_var rfl) ea_nil) sv_byte)) (fun b => ev_is ev_c ?_) (fun b => ev_is ev_c ?_)
    · rw [if_pos b]
    · rw [if_neg (by rw [b]; decide)]
  refine q_when (et_and (et_test (ev_eqs (ev_var rfl) ev_c)) fun _ => et_test (ev_eqn (ev_var rfl) ev_c)) (fun b1 H1 e1 => s_ret (ev_is ev_c ?_) fun H2 e2 => q H2 (e1.trans e2)) (fun b1 H1 e1 => ?_)
  · show V.str RS.closing.str = V.str (sbTag st n).str
    unfold sbTag
    rw [if_pos (by simpa using b1)]
  have c1' : ¬ (st = .less ∧ n = 47) := by simpa using b1
  refine q_when (et_test (ev_eqs (ev_var rfl) ev_c)) (fun b2 H2 e2 => s_ret (ev_is dig ?_) fun H3 e3 => q H3 ((e1.trans e2).trans e3)) (fun b2 H2 e2 => ?_)
  · show V.str (if isDigit n = true then RS.digit else RS.wrong).str = V.str (sbTag st n).str
    unfold sbTag
    rw [if_neg c1', if_pos (of_decide_eq_true b2)]
  refine q_when (et_test (ev_eqs (ev_var rfl) ev_c)) (fun b3 H3 e3 => s_ret (ev_is dig ?_) fun H4 e4 => q H4 (((e1.trans e2).trans e3).trans e4)) (fun b3 H3 e3 => ?_)
  · show V.str (if isDigit n = true then RS.tagEnd else RS.wrong).str = V.str (sbTag st n).str
    unfold sbTag
    rw [if_neg c1', if_neg (of_decide_eq_false b2), if_pos (of_decide_eq_true b3)]
  refine q_when (et_and (et_test (ev_eqs (ev_var rfl) ev_c)) fun _ => et_test (ev_eqn (ev_var rfl) ev_c)) (fun b4 H4 e4 => s_ret (ev_is ev_c ?_) fun H5 e5 => q H5 ((((e1.trans e2).trans e3).trans e4).trans e5)) (fun b4 H4 e4 => ?_)
  · show V.str RS.tagEnd.str = V.str (sbTag st n).str
    unfold sbTag
    rw [if_neg c1', if_neg (of_decide_eq_false b2), if_neg (of_decide_eq_false b3), if_pos (by simpa using b4)]
  have c4' : ¬ (st = .digit ∧ n = 47) := by simpa using b4
  refine s_ret (ev_if (et_test (ev_eqn (ev_var rfl) ev_c)) (fun b5 => ev_is ev_c ?_) (fun b5 => ev_is ev_c ?_)) fun H5 e5 => q H5 ((((e1.trans e2).trans e3).trans e4).trans e5)
  · show V.str RS.text.str = V.str (sbTag st n).str
    unfold sbTag
    rw [if_neg c1', if_neg (of_decide_eq_false b2), if_neg (of_decide_eq_false b3), if_neg c4', if_pos (of_decide_eq_true b5)]
  · show V.str RS.wrong.str = V.str (sbTag st n).str
    unfold sbTag
    rw [if_neg c1', if_neg (of_decide_eq_false b2), if_neg (of_decide_eq_false b3), if_neg c4', if_neg (of_decide_eq_false b5)]
theorem inV_iv (n : Nat) : ∀ l : List Nat, inV (vn n) (iv l) = decide (n ∈ l)
  | [] => rfl
  | m :: l => by
    have ih := inV_iv n l
    show ((((m : Int) == (n : Int))) || inV (vn n) (iv l)) = decide (n ∈ m :: l)
    rw [ih]
    by_cases e : n = m
    · subst e
      simp
    · have e2 : ¬ ((m : Int) = (n : Int)) := by omega
      simp [e, e2]
theorem flat_iv : ∀ l : List Nat, (iv l).all flatV = true
  | [] => rfl
  | _ :: l => flat_iv l
theorem c_sb {W : Wd} (T : TxR W.K W.mg) (a : At W.K W.mg "state_behind" s_state_behind) (c1 : Cal W 1 "state_behind_text" (spByte fun n => .str (sbText n).str)) (c2 : Cal W 3 "state_behind_key" (spState sbKey)) (c3 : Cal W 2 "state_behind_tag" (spState sbTag)) : Cal W 4 "state_behind" (spState sb) := by
  refine cal a sc_state_behind (fun _ _ _ _ _ _ us hl => match us, hl with | [_, _], _ => rfl) (fun vs H Q E h => by obtain ⟨st, n, rfl, _⟩ := h; rfl) (fun f cdv A outer s H vs Q E hr h => ?_)
  obtain ⟨st, n, rfl, q⟩ := h
  obtain ⟨ba, hb, hbt⟩ := T.BEHIND
  refine ⟨_, pss_cons (ps_if (pt_cmpR op_eq (pv 0) (pe_gc T.IN_TEXT) (nomark _)) (pss_one (ps_ret (pe_c c1 hr (pa_cons (pv 1) pa_nil)))) pss_nil)
    (pss_cons (ps_if (PW.pt (pw_or (pt_cmpR op_eq (pv 0) (pe_gc T.KEY_BEGIN) (nomark _)) (pw_or1 (pt_cmpR op_eq (pv 0) (pe_gc T.IN_KEY) (nomark _))))) (pss_one (ps_ret (pe_c c2 hr (pa_cons (pv 0) (pa_cons (pv 1) pa_nil))))) pss_nil)
    (pss_cons (ps_if (pt_cmpR op_eq (pv 0) (pe_gc T.BEHIND_BACKSLASH) (nomark _)) (pss_one (ps_ret (pe_ifExp (pt_cmpR op_in_seq (pv 1) (pe_gc hb) (by rfl)) (pe_gc T.IN_TEXT) (pe_gc T.WRONG)))) pss_nil)
    (pss_one (ps_ret (pe_c c3 hr (pa_cons (pv 0) (pa_cons (pv 1) pa_nil))))))), ?_⟩
  refine q_when (et_test (ev_eqs (ev_var rfl) ev_c)) (fun b1 H1 e1 => s_ret (ev_is (ev_call (ea_cons (ev_var rfl) ea_nil) sv_byte) ?_) fun H2 e2 => q H2 (e1.trans e2)) (fun b1 H1 e1 => ?_)
  · show V.str (sbText n).str = V.str (sb st n).str
    unfold sb
    rw [if_pos (of_decide_eq_true b1)]
  refine q_when (et_or (et_test (ev_eqs (ev_var rfl) ev_c)) fun _ => et_test (ev_eqs (ev_var rfl) ev_c)) (fun b2 H2 e2 => s_ret (ev_is (ev_call (ea_cons (ev_var rfl) (ea_cons (ev_var rfl) ea_nil)) sv_state) ?_) fun H3 e3 => q H3 ((e1.trans e2).trans e3)) (fun b2 H2 e2 => ?_)
  · show V.str (sbKey st n).str = V.str (sb st n).str
    unfold sb
    rw [if_neg (of_decide_eq_false b1), if_pos (by simpa using b2)]
  have c2' : ¬ (st = .keyBegin ∨ st = .inKey) := by simpa using b2
  refine q_when (et_test (ev_eqs (ev_var rfl) ev_c)) (fun b3 H3 e3 => s_ret (ev_if (et_test (ev_op (ev_var rfl) ev_c (rv_isT (hbt _) rfl (flat_iv _)))) (fun b4 => ev_is ev_c ?_) (fun b4 => ev_is ev_c ?_)) fun H4 e4 => q H4 (((e1.trans e2).trans e3).trans e4)) (fun b3 H3 e3 => ?_)
  · rw [inV_iv] at b4
    show V.str RS.text.str = V.str (sb st n).str
    unfold sb
    rw [if_neg (of_decide_eq_false b1), if_neg c2', if_pos (of_decide_eq_true b3), if_pos (of_decide_eq_true b4)]
  · rw [inV_iv] at b4
    show V.str RS.wrong.str = V.str (sb st n).str
    unfold sb
    rw [if_neg (of_decide_eq_false b1), if_neg c2', if_pos (of_decide_eq_true b3), if_neg (of_decide_eq_false b4)]
  refine s_ret (ev_is (ev_call (ea_cons (ev_var rfl) (ea_cons (ev_var rfl) ea_nil)) sv_state) ?_) fun H4 e4 => q H4 (((e1.trans e2).trans e3).trans e4)
  show V.str (sbTag st n).str = V.str (sb st n).str
  unfold sb
  rw [if_neg (of_decide_eq_false b1), if_neg c2', if_neg (of_decide_eq_false b3)]
/-- a number, or None -/
def optV : Option Nat → V
  | none => .non
  | some n => vn n
/-- fault_place: of a list of bytes and a state -/
def spFault (K : PySem.W.Frag) : Sp := fun vs H Q _ => ∃ (p : Addr) (row : List Nat) (st : RS), vs = [.ref p, .str st.str] ∧ SqL K H p (iv row) ∧ RetV (optV (faultPlace row st)) H Q
theorem sv_fault {K : PySem.W.Frag} {p : Addr} {row : List Nat} {st : RS} {H : Hp} (h : SqL K H p (iv row)) : SpV (spFault K) [.ref p, .str st.str] H (optV (faultPlace row st)) := fun H1 e Q q _ => ⟨p, row, st, rfl, ex_l e h, q⟩
/-- the state behind the first bytes -/
def stAt (st : RS) (row : List Nat) (i : Nat) : RS := (row.take i).foldl sb st
theorem stAt_more {st : RS} {row : List Nat} {i n : Nat} (h : row[i]? = some n) : stAt st row (i + 1) = sb (stAt st row i) n := by
  unfold stAt
  rw [take_more h, List.foldl_append]
  rfl
theorem fault_at {row : List Nat} {st : RS} : ∀ {i : Nat}, (∀ j, j < i → stAt st row (j + 1) ≠ .wrong) → i ≤ row.length → faultPlace row st = faultFrom i (stAt st row i) (row.drop i) := by
  intro i
  induction i with
  | zero => intro _ _; rfl
  | succ i ih =>
    intro h hl
    rw [ih (fun j hj => h j (by omega)) (by omega)]
    obtain ⟨n, hn⟩ : ∃ n, row[i]? = some n := ⟨row[i], List.getElem?_eq_getElem (by omega)⟩
    rw [drop_more hn, stAt_more hn]
    have hw := h i (by omega)
    rw [stAt_more hn] at hw
    show (if sb (stAt st row i) n = .wrong then some i else _) = _
    rw [if_neg hw]
theorem c_fault {W : Wd} (T : TxR W.K W.mg) (a : At W.K W.mg "fault_place" s_fault_place) (c1 : Cal W 4 "state_behind" (spState sb)) : Cal W 5 "fault_place" (spFault W.K) := by
  refine cal a sc_fault_place (fun _ _ _ _ _ _ us hl => match us, hl with | [_, _], _ => rfl) (fun vs H Q E h => by obtain ⟨p, row, st, rfl, _⟩ := h; rfl) (fun f cdv A outer s H vs Q E hr h => ?_)
  obtain ⟨p, row, st, rfl, hp, q⟩ := h
  refine ⟨_, pss_cons (ps_for PassesOwn.never rfl (pi_enum (by rfl) T.enumerate (pa_cons (pv 0) pa_nil)) (pg_tup rfl (pgs_cons (pg_name (i := 2) sc_fault_place.nd rfl (.inl rfl)) (pgs_cons (pg_name (i := 3) sc_fault_place.nd rfl (.inl rfl)) pgs_nil)))
      (pss_cons (ps_set (i := 1) sc_fault_place.nd rfl (.inl rfl) (pe_c c1 hr (pa_cons (pv 1) (pa_cons (pv 3) pa_nil))))
      (pss_one (ps_if (pt_cmpR op_eq (pv 1) (pe_gc T.WRONG) (nomark _)) (pss_one (ps_ret (pv 2))) pss_nil))))
    (pss_one (ps_ret (pe_ifExp (pt_cmpR op_eq (pv 1) (pe_gc T.IN_TEXT) (nomark _)) pe_non (pe_callB call_len_seq (by rfl) T.len PySem.boot_len (pa_cons (pv 0) pa_nil))))), ?_⟩
  refine q_forE (K := W.K) (xs := iv row) (ea_cons (ev_var rfl) ea_nil) hp (fun i σ' H' => ∃ v2 v3, σ' = [some (.ref p), some (.str (stAt st row i).str), v2, v3] ∧ Ex H H' ∧ ∀ j, j < i → stAt st row (j + 1) ≠ .wrong)
    (fun H1 e1 => ⟨none, none, rfl, e1, fun j hj => absurd hj (Nat.not_lt_zero _)⟩) (fun i σ' H' _ ⟨_, _, _, e, _⟩ => ex_l e hp) ?_ ?_
  · rintro i x σ' H' hx ⟨v2, v3, rfl, e, hw⟩ H2 e2
    obtain ⟨n, hn, rfl⟩ := iv_get hx
    refine q_asg (ev_call (ea_cons (ev_var rfl) (ea_cons (ev_var rfl) ea_nil)) sv_state) fun H3 e3 => ?_
    rw [← stAt_more hn]
    refine s_when (et_test (ev_eqs (ev_var rfl) ev_c)) (fun b H4 e4 => s_ret (ev_var rfl) fun H5 e5 => ?_) (fun b H4 e4 => ?_)
    · have e6 := (((e.trans e2).trans e3).trans e4).trans e5
      have hb : sb (stAt st row i) n = .wrong := by rw [← stAt_more hn]; exact of_decide_eq_true b
      have hi : i < row.length := (List.getElem?_eq_some_iff.mp hn).1
      have ef : faultPlace row st = some i := by
        rw [fault_at hw (by omega), drop_more hn]
        show (if sb (stAt st row i) n = .wrong then some i else _) = _
        rw [if_pos hb]
      have g := q H5 e6
      rw [ef] at g
      exact g
    · refine ⟨some (vn i), some (vn n), rfl, ((e.trans e2).trans e3).trans e4, fun j hj => ?_⟩
      rcases Nat.lt_succ_iff_lt_or_eq.mp hj with hj | rfl
      · exact hw j hj
      · exact of_decide_eq_false b
  · rintro σ' H' ⟨v2, v3, rfl, e, hw⟩
    rw [List.length_map] at hw ⊢
    have ef : faultPlace row st = if stAt st row row.length = .text then none else some row.length := by
      rw [fault_at hw (Nat.le_refl _), List.drop_length] <;> rfl
    refine s_ret (ev_if (et_test (ev_eqs (ev_var rfl) ev_c)) (fun b => ev_is ev_c ?_) (fun b => ev_is (ev_cb (ea_cons (ev_var rfl) ea_nil) fun H1 e1 Q q => ⟨p, iv row, rfl, .inl (ex_l (e.trans e1) hp), q H1 (Ex.refl H1)⟩) ?_)) fun H1 e1 => q H1 (e.trans e1)
    · rw [ef, if_pos (of_decide_eq_true b)] <;> rfl
    · rw [ef, if_neg (of_decide_eq_false b), List.length_map] <;> rfl
end Fo

set_option Elab.async false
set_option linter.all false
set_option maxRecDepth 100000
set_option maxHeartbeats 2000000
namespace Fo
open PySem PySem.Spec PyProof.Rows L2 Evl
/-- thing_size: of a text and a place in it -/
def spSize (K : PySem.W.Frag) : Sp := fun vs H Q _ => ∃ (p : Addr) (t : List Nat) (i : Nat), vs = [.ref p, vn i] ∧ Sq K H p (iv t) ∧ i < t.length ∧ RetV (vn (sizeAt (t.drop i))) H Q
theorem sv_size {K : PySem.W.Frag} {H : Hp} {p : Addr} {t : List Nat} {i : Nat} (h : Sq K H p (iv t)) (hi : i < t.length) : SpV (spSize K) [.ref p, vn i] H (vn (sizeAt (t.drop i))) := fun H1 e Q q _ => ⟨p, t, i, rfl, h.ex e, hi, q⟩
theorem get_iv {t : List Nat} {i n : Nat} (h : t[i]? = some n) : (iv t)[i]? = some (vn n) := by rw [List.getElem?_map, h]; rfl
theorem c_thing_size {W : Wd} (T : TxR W.K W.mg) (a : At W.K W.mg "thing_size" s_thing_size) : Cal W 1 "thing_size" (spSize W.K) := by
  refine cal a sc_thing_size (fun _ _ _ _ _ _ us hl => match us, hl with | [_, _], _ => rfl) (fun vs H Q E h => by obtain ⟨p, t, i, rfl, _⟩ := h; rfl) (fun f cdv A outer s H vs Q E hr h => ?_)
  obtain ⟨p, t, i, rfl, hp, hi, q⟩ := h
  refine ⟨_, pss_cons (ps_if (pt_cmpR op_eq (pe_ix ix_seq (pv 0) (pv 1) (fun _ _ => rfl)) (pe_gc T.BACKSLASH) (nomark _)) (pss_one (ps_ret pe_int)) pss_nil)
    (pss_cons (ps_if (pt_cmpR op_ne (pe_ix ix_seq (pv 0) (pv 1) (fun _ _ => rfl)) (pe_gc T.LESS) (nomark _)) (pss_one (ps_ret pe_int)) pss_nil)
    (pss_one (ps_ret (pe_ifExp (pt_cmpR op_in_seq (pe_gc T.SLASH) (pe_slice sl_two (pv 0) (po_some (pe_op op_add (pv 1) pe_int)) (po_some (pe_op op_add (pv 1) pe_int))) (by rfl)) pe_int pe_int)))), ?_⟩
  obtain ⟨n, hn⟩ : ∃ n, t[i]? = some n := ⟨t[i], List.getElem?_eq_getElem hi⟩
  have ed := drop_more hn
  have ix : ∀ {H1 : Hp}, Ex H H1 → Ev (tOp (rIx W.K) (tVar 0) (tVar 1)) (start n_thing_size [.ref p, vn i]) H1 (vn n) := fun {H1} e => ev_op (ev_var rfl) (ev_var rfl) (rv_ixQ (hp.ex e) (get_iv hn))
  refine q_when (et_test (ev_eqn (ix (Ex.refl H)) ev_c)) (fun b1 H1 e1 => s_ret (ev_is ev_c ?_) fun H2 e2 => q H2 (e1.trans e2)) (fun b1 H1 e1 => ?_)
  · rw [ed]
    show _ = vn (if n = 92 then 2 else _)
    rw [if_pos (of_decide_eq_true b1)] <;> rfl
  refine q_when (et_test (ev_nen (ix e1) ev_c)) (fun b2 H2 e2 => s_ret (ev_is ev_c ?_) fun H3 e3 => q H3 ((e1.trans e2).trans e3)) (fun b2 H2 e2 => ?_)
  · rw [ed]
    show _ = vn (if n = 92 then 2 else if n = 60 then _ else 1)
    rw [if_neg (of_decide_eq_false b1), if_neg (by simpa using b2)] <;> rfl
  have hn60 : n = 60 := by simpa using b2
  have hs : Sq W.K H2 p (iv t) := hp.ex (e1.trans e2)
  have ht : EvT (tTest (tOp (rIn W.K false) (tC (vn 47)) (tSl (rSl2 W.K) (tVar 0) (tPart (tOp (rI0 fun i j => .int (i + j)) (tVar 1) (tC (.int 1)))) (tPart (tOp (rI0 fun i j => .int (i + j)) (tVar 1) (tC (.int 3))))))) (start n_thing_size [.ref p, vn i]) H2 (decide (47 ∈ (t.drop (i + 1)).take 2)) := by
    refine et_test fun H3 e3 Q q => ?_
    refine eq_sl (H := H2) (ev_var rfl) (eo_some (ev_addn (ev_var rfl) (b := 1) ev_c)) (eo_some (ev_addn (ev_var rfl) (b := 3) ev_c)) hs H3 e3 _ fun p' H4 e4 hs4 => ?_
    have ec : cutV (iv t) (some ((i + 1 : Nat) : Int)) (some ((i + 3 : Nat) : Int)) = iv ((t.drop (i + 1)).take 2) := by
      rw [cut_nat, show i + 3 - (i + 1) = 2 by omega, iv_take, iv_drop]
    rw [ec] at hs4
    refine ⟨p', _, rfl, hs4.r, rfl, flat_iv _, ?_⟩
    show Q (.bl (inV (vn 47) (iv ((t.drop (i + 1)).take 2)))) H4
    rw [inV_iv]
    exact q H4 e4
  refine s_ret (ev_if ht (fun b3 => ev_is ev_c ?_) (fun b3 => ev_is ev_c ?_)) fun H3 e3 => q H3 ((e1.trans e2).trans e3)
  · rw [ed]
    show _ = vn (if n = 92 then 2 else if n = 60 then (if 47 ∈ (t.drop (i + 1)).take 2 then 4 else 3) else 1)
    rw [if_neg (of_decide_eq_false b1), if_pos hn60, if_pos (of_decide_eq_true b3)] <;> rfl
  · rw [ed]
    show _ = vn (if n = 92 then 2 else if n = 60 then (if 47 ∈ (t.drop (i + 1)).take 2 then 4 else 3) else 1)
    rw [if_neg (of_decide_eq_false b1), if_pos hn60, if_neg (of_decide_eq_false b3)] <;> rfl

/-- a new list of the tuples ls is made -/
def RetTs (K : PySem.W.Frag) (ls : List (List Nat)) (H : Hp) (Q : VK) : Prop := ∀ p vs H2, H p = none → Ex H H2 → H2 p = some (.lst vs) → TupsAt K H2 vs ls → Q (.ref p) H2
theorem RetTs.go {K : PySem.W.Frag} {ls : List (List Nat)} {H H' : Hp} {Q : VK} (k : RetTs K ls H Q) (e : Ex H H') : RetTs K ls H' Q := fun p vs H2 hp e2 h1 h2 => k p vs H2 (fresh_back e hp) (e.trans e2) h1 h2
/-- things_of -/
def spThings (K : PySem.W.Frag) : Sp := fun vs H Q _ => ∃ (p : Addr) (t : List Nat), vs = [.ref p] ∧ Sq K H p (iv t) ∧ t.length ≤ 1000 ∧ RetTs K (thingsOf t) H Q
theorem c_things_of {W : Wd} (T : TxR W.K W.mg) (htup : W.mg "tuple" = none) (a : At W.K W.mg "things_of" s_things_of) (c1 : Cal W 1 "thing_size" (spSize W.K)) : Cal W 2 "things_of" (spThings W.K) := by
  refine cal a sc_things_of (fun _ _ _ _ _ _ us hl => match us, hl with | [_], _ => rfl) (fun vs H Q E h => by obtain ⟨p, t, rfl, _⟩ := h; rfl) (fun f cdv A outer s H vs Q E hr h => ?_)
  obtain ⟨p, t, rfl, hp, ht, q⟩ := h
  refine ⟨_, pss_cons (ps_set (i := 1) sc_things_of.nd rfl (.inl rfl) (pe_lst pa_nil))
    (pss_cons (ps_set (i := 2) sc_things_of.nd rfl (.inl rfl) pe_int)
    (pss_cons (ps_while PassesOwn.never (pt_cmpR op_lt (pv 2) (pe_callB call_len_seq (by rfl) T.len PySem.boot_len (pa_cons (pv 0) pa_nil)) (nomark _))
      (pss_cons (ps_set (i := 3) sc_things_of.nd rfl (.inl rfl) (pe_c c1 hr (pa_cons (pv 0) (pa_cons (pv 2) pa_nil))))
      (pss_cons (ps_expr (pe_bm PySem.F.plainAttrs_list PySem.F.slot_list_append PySem.F.type_list_append mt_append (pv 1)
          (pa_cons (pe_callTy call_tuple_of (by rfl) htup PyProof.Rows.boot_tuple (pa_cons (pe_slice sl_two (pv 0) (po_some (pv 2)) (po_some (pe_op op_add (pv 2) (pv 3)))) pa_nil)) pa_nil)))
      (pss_one (ps_aug (i := 2) sc_things_of.nd rfl (.inl rfl) (pv 3) ip_add)))))
    (pss_one (ps_ret (pv 1))))), ?_⟩
  refine q_asgL (el_lst ea_nil (by decide)) fun L H1 hL e1 h1 => q_asg ev_c fun H2 e2 => ?_
  refine q_while (fun m σ' H' => ∃ (i : Nat) (vs : List V) (ls : List (List Nat)) (v3 : Option V), σ' = [some (.ref p), some (.ref L), some (vn i), v3] ∧ Ex H H' ∧ H' L = some (.lst vs) ∧ TupsAt W.K H' vs ls ∧
    ls ++ thingsOf (t.drop i) = thingsOf t ∧ ls.length ≤ i ∧ ls.length ≤ t.length ∧ m = t.length - i) t.length ⟨0, [], [], none, rfl, e1.trans e2, e2 _ _ h1, .nil, rfl, Nat.le_refl _, Nat.zero_le _, rfl⟩ ?_
  rintro m σ' H' ⟨i, vs, ls, v3, rfl, e, hl, hts, eq, hle, hle2, rfl⟩
  have hs : Sq W.K H' p (iv t) := hp.ex e
  refine ⟨decide (i < t.length), et_is (et_test (ev_ltn (ev_var rfl) (ev_lenQ (K := W.K) (ev_var rfl) hs))) (by rw [iv_len]), fun b H3 e3 => ?_, fun b H3 e3 => ?_⟩
  · have hi : i < t.length := of_decide_eq_true b
    have hne : t.drop i ≠ [] := fun z => by
      have := congrArg List.length z
      rw [List.length_drop, List.length_nil] at this
      omega
    refine ⟨fun σ2 H2 => ∃ (vs : List V), σ2 = [some (.ref p), some (.ref L), some (vn (i + sizeAt (t.drop i))), some (vn (sizeAt (t.drop i)))] ∧ Ex H H2 ∧ H2 L = some (.lst vs) ∧ TupsAt W.K H2 vs (ls ++ [(t.drop i).take (sizeAt (t.drop i))]), ?_, ?_⟩
    · rintro σ2 H2 ⟨vs2, rfl, e2', hl2, ht2⟩
      have h1 := sizeAt_pos (t.drop i)
      refine ⟨t.length - (i + sizeAt (t.drop i)), by omega, _, vs2, _, _, rfl, e2', hl2, ht2, ?_, ?_, ?_, rfl⟩
      · rw [← eq, thingsOf_cons hne, List.append_assoc, List.drop_drop] <;> rfl
      · rw [List.length_append]
        show ls.length + 1 ≤ _
        omega
      · rw [List.length_append]
        show ls.length + 1 ≤ _
        omega
    · refine q_asg (ev_call (ea_cons (ev_var rfl) (ea_cons (ev_var rfl) ea_nil)) (sv_size (hs.ex e3) hi)) fun H4 e4 => ?_
      have hs4 : Sq W.K H4 p (iv t) := hs.ex (e3.trans e4)
      have e34 : Ex H' H4 := e3.trans e4
      refine q_appP (K := W.K) (e34 _ _ hl) (ev_var rfl) (ep_tuple (eq_sl (ev_var rfl) (eo_some (ev_var rfl)) (eo_some (ev_addn (ev_var rfl) (ev_var rfl))) hs4)) (by rw [hts.len]; omega) fun p' H5 e5 hp' hl5 => ?_
      have ec : cutV (iv t) (some (i : Int)) (some ((i + sizeAt (t.drop i) : Nat) : Int)) = iv ((t.drop i).take (sizeAt (t.drop i))) := by
        rw [cut_nat, show i + sizeAt (t.drop i) - i = sizeAt (t.drop i) by omega, iv_take, iv_drop]
      rw [ec] at hp'
      refine s_aug rfl (ev_var rfl) fun H6 e6 => ⟨_, rfl, ?_, e6 _ _ upd_same, ?_⟩
      · exact (Ex.mut ((e.trans e34).trans e5) hL).trans e6
      · exact ex_tups e6 ((tups_upd hl5 (ex_tups (e34.trans e5) hts)).snoc (tup_upd hl5 hp'))
  · refine s_ret (ev_var rfl) fun H4 e4 => q L vs H4 hL (e.trans (e3.trans e4)) ((e3.trans e4) _ _ hl) ?_
    have hi : t.length ≤ i := by have := of_decide_eq_false b; omega
    have : thingsOf t = ls := by rw [← eq, List.drop_eq_nil_of_le hi, thingsOf_nil, List.append_nil]
    rw [this]
    exact ex_tups (e3.trans e4) hts

/-- of a thing: a value -/
def spThing (K : PySem.W.Frag) (g : List Nat → V) : Sp := fun vs H Q _ => ∃ (p : Addr) (t : List Nat), vs = [.ref p] ∧ SqT K H p (iv t) ∧ RetV (g t) H Q
theorem sv_thing {K : PySem.W.Frag} {g : List Nat → V} {H : Hp} {p : Addr} {t : List Nat} (h : SqT K H p (iv t)) : SpV (spThing K g) [.ref p] H (g t) := fun H1 e Q q _ => ⟨p, t, rfl, ex_t e h, q⟩
theorem ev_lenT {K : PySem.W.Frag} {σ : L2.St} {H : Hp} {ta : TE} {p : Addr} {t : List Nat} (ha : Ev ta σ H (.ref p)) (h : SqT K H p (iv t)) : Ev (tCB (rLenS K) (tCons ta tNil)) σ H (vn t.length) := by
  exact ev_is (fun H1 e Q q => ha H1 e _ fun H2 e2 => ⟨p, _, rfl, .inr (ex_t (e.trans e2) h), q H2 e2⟩) (congrArg (fun n : Nat => V.int (n : Int)) (iv_len t))
theorem rv_at {K : PySem.W.Frag} {H : Hp} {p : Addr} {t : List Nat} {i : Nat} (h : SqT K H p (iv t)) (hi : i < t.length) : RV (rIxT K) (.ref p) (.int (i : Int)) H (vn (t.getD i 0)) := by
  refine rv_ixT h (atI_nat (get_iv ?_))
  rw [List.getD_eq_getElem?_getD, List.getElem?_eq_getElem hi] <;> rfl
theorem c_is_opening {W : Wd} (T : TxR W.K W.mg) (a : At W.K W.mg "is_opening" s_is_opening) : Cal W 1 "is_opening" (spThing W.K fun t => .bl (isOpening t)) := by
  refine cal a sc_is_opening (fun _ _ _ _ _ _ us hl => match us, hl with | [_], _ => rfl) (fun vs H Q E h => by obtain ⟨p, t, rfl, _⟩ := h; rfl) (fun f cdv A outer s H vs Q E hr h => ?_)
  obtain ⟨p, t, rfl, hp, q⟩ := h
  refine ⟨_, pss_one (ps_ret (pe_cmpR op_eq (pe_callB call_len_seq (by rfl) T.len PySem.boot_len (pa_cons (pv 0) pa_nil)) pe_int (nomark _))), ?_⟩
  exact s_ret (ev_eqn (b := 3) (ev_lenT (K := W.K) (ev_var rfl) hp) ev_c) q
theorem c_is_closing {W : Wd} (T : TxR W.K W.mg) (a : At W.K W.mg "is_closing" s_is_closing) : Cal W 1 "is_closing" (spThing W.K fun t => .bl (isClosing t)) := by
  refine cal a sc_is_closing (fun _ _ _ _ _ _ us hl => match us, hl with | [_], _ => rfl) (fun vs H Q E h => by obtain ⟨p, t, rfl, _⟩ := h; rfl) (fun f cdv A outer s H vs Q E hr h => ?_)
  obtain ⟨p, t, rfl, hp, q⟩ := h
  refine ⟨_, pss_one (ps_ret (pe_and (pe_cmpR op_eq (pe_callB call_len_seq (by rfl) T.len PySem.boot_len (pa_cons (pv 0) pa_nil)) pe_int (nomark _)) (pe_one (pe_cmpR op_eq (pe_ix ix_tup (pv 0) pe_int (fun _ _ => rfl)) (pe_gc T.SLASH) (nomark _))))), ?_⟩
  exact s_ret (ev_andV (ev_eqn (b := 4) (ev_lenT (K := W.K) (ev_var rfl) hp) ev_c) fun b => ev_eqn (ev_op (ev_var rfl) ev_c (rv_at (i := 1) hp (by have := of_decide_eq_true b; omega))) ev_c) q
theorem c_is_alone {W : Wd} (T : TxR W.K W.mg) (a : At W.K W.mg "is_alone" s_is_alone) : Cal W 1 "is_alone" (spThing W.K fun t => .bl (isAlone t)) := by
  refine cal a sc_is_alone (fun _ _ _ _ _ _ us hl => match us, hl with | [_], _ => rfl) (fun vs H Q E h => by obtain ⟨p, t, rfl, _⟩ := h; rfl) (fun f cdv A outer s H vs Q E hr h => ?_)
  obtain ⟨p, t, rfl, hp, q⟩ := h
  refine ⟨_, pss_one (ps_ret (pe_and (pe_cmpR op_eq (pe_callB call_len_seq (by rfl) T.len PySem.boot_len (pa_cons (pv 0) pa_nil)) pe_int (nomark _)) (pe_one (pe_cmpR op_eq (pe_ix ix_tup (pv 0) pe_int (fun _ _ => rfl)) (pe_gc T.SLASH) (nomark _))))), ?_⟩
  exact s_ret (ev_andV (ev_eqn (b := 4) (ev_lenT (K := W.K) (ev_var rfl) hp) ev_c) fun b => ev_eqn (ev_op (ev_var rfl) ev_c (rv_at (i := 2) hp (by have := of_decide_eq_true b; omega))) ev_c) q

/-- of a list of things: a value -/
def spTs (K : PySem.W.Frag) (g : List (List Nat) → V) : Sp := fun vs H Q _ => ∃ (p : Addr) (xs : List V) (ls : List (List Nat)), vs = [.ref p] ∧ SqL K H p xs ∧ TupsAt K H xs ls ∧ ls.length ≤ 1000 ∧ RetV (g ls) H Q
theorem len_isClosing {t : List Nat} (h : isClosing t = true) : t.length = 4 := by
  unfold isClosing at h
  rw [Bool.and_eq_true] at h
  exact of_decide_eq_true h.1
theorem len_isTag {t : List Nat} (h : (isOpening t || isAlone t) = true) : 3 ≤ t.length := by
  rw [Bool.or_eq_true] at h
  rcases h with h | h
  · have := of_decide_eq_true (show decide (t.length = 3) = true from h)
    omega
  · unfold isAlone at h
    rw [Bool.and_eq_true] at h
    have := of_decide_eq_true h.1
    omega
theorem c_tags_right {W : Wd} (T : TxR W.K W.mg) (a : At W.K W.mg "are_tags_right" s_are_tags_right) (c1 : Cal W 1 "is_opening" (spThing W.K fun t => .bl (isOpening t))) (c2 : Cal W 1 "is_closing" (spThing W.K fun t => .bl (isClosing t)))
    (c3 : Cal W 1 "is_alone" (spThing W.K fun t => .bl (isAlone t))) : Cal W 2 "are_tags_right" (spTs W.K fun ls => .bl (tagsRun [] [] ls)) := by
  refine cal a sc_are_tags_right (fun _ _ _ _ _ _ us hl => match us, hl with | [_], _ => rfl) (fun vs H Q E h => by obtain ⟨p, xs, ls, rfl, _⟩ := h; rfl) (fun f cdv A outer s H vs Q E hr h => ?_)
  obtain ⟨p, xs, ls, rfl, hp, hts, hlen, q⟩ := h
  replace q : RetV (.bl (tagsRun [] [] ls)) H Q := q
  have hu := hu_of hr
  refine ⟨_, pss_cons (ps_set (i := 1) sc_are_tags_right.nd rfl (.inl rfl) (pe_lst pa_nil))
    (pss_cons (ps_set (i := 2) sc_are_tags_right.nd rfl (.inl rfl) pe_dnewK)
    (pss_cons (ps_for PassesOwn.never rfl (pi_list (pv 0)) (pg_name (i := 3) sc_are_tags_right.nd rfl (.inl rfl))
      (pss_one (ps_if (pt_val (pe_c c2 hr (pa_cons (pv 3) pa_nil)))
        (pss_one (ps_if (PW.pt (pw_or (pt_not (pt_tru (pv 1))) (pw_or1 (pt_cmpR op_ne (pe_bm0 PySem.F.plainAttrs_list PySem.F.slot_list_pop PySem.F.type_list_pop mt_pop (pv 1)) (pe_ix ix_tup (pv 3) pe_int (fun _ _ => rfl)) (nomark _)))))
          (pss_one (ps_ret pe_bl)) pss_nil))
        (pss_one (ps_if (PW.pt (pw_or (pt_val (pe_c c1 hr (pa_cons (pv 3) pa_nil))) (pw_or1 (pt_val (pe_c c3 hr (pa_cons (pv 3) pa_nil))))))
          (pss_cons (ps_if (pt_cmp (pc_din hu (pe_ix ix_tup (pv 3) pe_int (fun _ _ => rfl)) (pv 2))) (pss_one (ps_ret pe_bl)) pss_nil)
          (pss_cons (ps_dput hu (pv 2) (pe_ix ix_tup (pv 3) pe_int (fun _ _ => rfl)) pe_bl rfl)
          (pss_one (ps_if (pt_val (pe_c c1 hr (pa_cons (pv 3) pa_nil))) (pss_one (ps_expr (pe_bm PySem.F.plainAttrs_list PySem.F.slot_list_append PySem.F.type_list_append mt_append (pv 1) (pa_cons (pe_ix ix_tup (pv 3) pe_int (fun _ _ => rfl)) pa_nil)))) pss_nil))))
          pss_nil)))))
    (pss_one (ps_ret (pe_notT (pv 1)))))), ?_⟩
  refine q_asgL (el_lst ea_nil (by decide)) fun U H1 hU e1 h1 => ?_
  refine fun S hS => ?_
  have hS0 : H S = none := fresh_back e1 hS
  have hUS : U ≠ S := ne_of_none h1 hS
  have drops : ∀ {i : Nat} {l : List Nat}, ls[i]? = some l → ls.drop i = l :: ls.drop (i + 1) := fun h => drop_more h
  refine q_forLn (K := W.K) (xs := xs) (ev_var rfl) (Ex.new hS (o := .dK []) |> fun e => ex_l (e1.trans e) hp) (fun i σ' H' => ∃ (st seen : List Nat) (kvs : List (Key × V)) (v3 : Option V), σ' = [some (.ref p), some (.ref U), some (.ref S), v3] ∧ Ex H H' ∧ H' U = some (.lst (iv st.reverse)) ∧ H' S = some (.dK kvs) ∧
      (∀ n : Nat, (valV kvs (Sum.inl (n : Int))).isSome = decide (n ∈ seen)) ∧ tagsRun st seen (ls.drop i) = tagsRun [] [] ls ∧ kvs.length ≤ i ∧ st.length ≤ i)
    (fun H2 e2 => ⟨[], [], [], none, rfl, (e1.trans (Ex.new hS)).trans e2, e2 _ _ ((Ex.new hS) _ _ h1), e2 _ _ upd_same, fun n => rfl, rfl, Nat.le_refl _, Nat.le_refl _⟩) (fun i σ' H' _ ⟨_, _, _, _, _, e, _⟩ => ex_l e hp) ?_ ?_
  · rintro i x σ' H' hx ⟨st, seen, kvs, v3, rfl, e, hu', hs', hsee, eq, hk, hst⟩
    obtain ⟨ad, l, rfl, hl, hT0⟩ := hts.get hx
    have hT : SqT W.K H ad (iv l) := st_of hT0
    have hi : i < ls.length := (List.getElem?_eq_some_iff.mp hl).1
    rw [drops hl] at eq
    have at_ : ∀ {H2 : Hp}, Ex H H2 → ∀ {j : Nat}, j < l.length → ∀ {σ : L2.St}, σ[3]? = some (some (.ref ad)) → Ev (tOp (rIxT W.K) (tVar 3) (tC (.int (j : Int)))) σ H2 (vn (l.getD j 0)) := fun e2 _ hj _ hσ => ev_op (ev_var hσ) ev_c (rv_at (ex_t e2 hT) hj)
    refine s_if (et_B (ev_call (ea_cons (ev_var rfl) ea_nil) (sv_thing (ex_t e hT)))) (fun b H2 e2 => ?_) (fun b H2 e2 => ?_)
    · have hl4 := len_isClosing b
      cases st with
      | nil =>
        refine ⟨.ref U, rfl, false, .inl ⟨_, sq_of (e2 _ _ hu'), rfl⟩, iteT (iteT ?_)⟩
        have ef : tagsRun [] [] ls = false := by
          rw [← eq]
          show (if isClosing l = true then _ else _) = false
          rw [if_pos b]
        have g := q H2 (e.trans e2)
        rw [ef] at g
        exact g
      | cons m st' =>
        have er : iv (m :: st').reverse = iv st'.reverse ++ [vn m] := by rw [List.reverse_cons, iv_app] <;> rfl
        rw [er] at hu'
        refine ⟨.ref U, rfl, true, .inl ⟨_, sq_of (e2 _ _ hu'), by simp⟩, iteF ?_⟩
        refine ⟨.ref U, rfl, .inl ⟨rfl, _, sq_of (e2 _ _ hu')⟩, U, _, vn m, rfl, rfl, e2 _ _ hu', by simp, ?_⟩
        have e3 : Ex H (upd H2 U (.lst (iv st'.reverse ++ [vn m]).dropLast)) := Ex.mut (e.trans e2) hU
        refine at_ e3 (j := 2) (by omega) rfl _ (Ex.refl _) _ fun H4 e4 => ⟨rfl, _, rfl, ?_⟩
        rw [show decide (V.int (m : Int) = V.int ((l.getD 2 0 : Nat) : Int)) = decide (m = l.getD 2 0) from decide_eq_decide.mpr (vn_eq _ _)]
        have step : tagsRun (m :: st') seen (l :: ls.drop (i + 1)) = if m = l.getD 2 0 then tagsRun st' seen (ls.drop (i + 1)) else false := by
          show (if isClosing l = true then _ else _) = _
          rw [if_pos b]
        rw [step] at eq
        refine ite_b (fun c => ?_) (fun c => ?_)
        · have hne : ¬ m = l.getD 2 0 := by simpa using c
          rw [if_neg hne] at eq
          have g := q H4 (e3.trans e4)
          rw [← eq] at g
          exact g
        · have hme : m = l.getD 2 0 := by simpa using c
          rw [if_pos hme] at eq
          refine ⟨st', seen, kvs, some (.ref ad), rfl, e3.trans e4, ?_, e4 _ _ ?_, hsee, eq, by omega, ?_⟩
          · refine e4 _ _ ?_
            rw [upd_same, List.dropLast_concat]
          · rw [upd_ne (Ne.symm hUS)]
            exact e2 _ _ hs'
          · have : (m :: st').length = st'.length + 1 := rfl
            omega
    · have nb : ¬ isClosing l = true := by rw [b]; decide
      refine s_when (et_or (et_B (ev_call (ea_cons (ev_var rfl) ea_nil) (sv_thing (ex_t (e.trans e2) hT)))) fun _ => et_B (ev_call (ea_cons (ev_var rfl) ea_nil) (sv_thing (ex_t (e.trans e2) hT)))) (fun b2 H3 e3 => ?_) (fun b2 H3 e3 => ?_)
      · have hl3 := len_isTag b2
        have e03 := (e.trans e2).trans e3
        have step : tagsRun st seen (l :: ls.drop (i + 1)) = if l.getD 1 0 ∈ seen then false else tagsRun (if isOpening l = true then l.getD 1 0 :: st else st) (l.getD 1 0 :: seen) (ls.drop (i + 1)) := by
          show (if isClosing l = true then _ else if (isOpening l || isAlone l) = true then _ else _) = _
          rw [if_neg nb, if_pos b2]
        rw [step] at eq
        refine q_when (et_is (et_B (ev_din (k := Sum.inl ((l.getD 1 0 : Nat) : Int)) (at_ e03 (j := 1) (by omega) rfl) (ev_var rfl) ((e2.trans e3) _ _ hs'))) (hsee _)) (fun b3 H4 e4 => s_ret (v := .bl false) ev_c fun H5 e5 => ?_) (fun b3 H4 e4 => ?_)
        · rw [if_pos (of_decide_eq_true b3)] at eq
          have g := q H5 ((e03.trans e4).trans e5)
          rw [← eq] at g
          exact g
        · rw [if_neg (of_decide_eq_false b3)] at eq
          have e04 := e03.trans e4
          refine q_dput (k := Sum.inl ((l.getD 1 0 : Nat) : Int)) (v := .bl true) ev_c (ev_var rfl) (at_ e04 (j := 1) (by omega) rfl) (((e2.trans e3).trans e4) _ _ hs') (by omega) fun H5 e5 => ?_
          have e06 : Ex H (upd H5 S (.dK (putK kvs (Sum.inl ((l.getD 1 0 : Nat) : Int)) (.bl true)))) := Ex.mut (e04.trans e5) hS0
          have hu6 : upd H5 S (.dK (putK kvs (Sum.inl ((l.getD 1 0 : Nat) : Int)) (.bl true))) U = some (.lst (iv st.reverse)) := by
            rw [upd_ne hUS]
            exact (((e2.trans e3).trans e4).trans e5) _ _ hu'
          have hsee' : ∀ n : Nat, (valV (putK kvs (Sum.inl ((l.getD 1 0 : Nat) : Int)) (.bl true)) (Sum.inl (n : Int))).isSome = decide (n ∈ l.getD 1 0 :: seen) := by
            intro n
            rw [valV_put]
            by_cases hn : n = l.getD 1 0
            · rw [hn, if_pos rfl]
              simp
            · rw [if_neg (fun z => hn (by have := Sum.inl.inj z; omega)), hsee n]
              exact decide_eq_decide.mpr ⟨fun h => List.mem_cons_of_mem _ h, fun h => (List.mem_cons.mp h).resolve_left hn⟩
          have hk' : (putK kvs (Sum.inl ((l.getD 1 0 : Nat) : Int)) (.bl true)).length ≤ i + 1 := Nat.le_trans (length_putK _ _ _) (by omega)
          refine s_when (et_B (ev_call (ea_cons (ev_var rfl) ea_nil) (sv_thing (ex_t e06 hT)))) (fun b5 H7 e7 => ?_) (fun b5 H7 e7 => ?_)
          · rw [if_pos b5] at eq
            refine s_app (K := W.K) (e7 _ _ hu6) (ev_var rfl) (at_ (e06.trans e7) (j := 1) (by omega) rfl) (by rw [iv_len, List.length_reverse]; omega) fun H8 e8 => ?_
            refine ⟨l.getD 1 0 :: st, l.getD 1 0 :: seen, _, some (.ref ad), rfl, Ex.mut ((e06.trans e7).trans e8) hU, ?_, ?_, hsee', eq, hk', by have : (l.getD 1 0 :: st).length = st.length + 1 := rfl; omega⟩
            · rw [upd_same, List.reverse_cons, iv_app] <;> rfl
            · rw [upd_ne (Ne.symm hUS)]
              exact (e7.trans e8) _ _ upd_same
          · rw [if_neg (by rw [b5]; decide)] at eq
            exact ⟨st, l.getD 1 0 :: seen, _, some (.ref ad), rfl, e06.trans e7, e7 _ _ hu6, e7 _ _ upd_same, hsee', eq, hk', by omega⟩
      · have step : tagsRun st seen (l :: ls.drop (i + 1)) = tagsRun st seen (ls.drop (i + 1)) := by
          show (if isClosing l = true then _ else if (isOpening l || isAlone l) = true then _ else _) = _
          rw [if_neg nb, if_neg (by rw [b2]; decide)]
        rw [step] at eq
        exact ⟨st, seen, kvs, some (.ref ad), rfl, (e.trans e2).trans e3, (e2.trans e3) _ _ hu', (e2.trans e3) _ _ hs', hsee, eq, by omega, by omega⟩
  · rintro σ' H' ⟨st, seen, kvs, v3, rfl, e, hu', hs', hsee, eq, hk, hst⟩
    refine s_ret (ev_is (ev_notL (K := W.K) (ev_var rfl) (.inl (sq_of hu'))) ?_) fun H2 e2 => q H2 (e.trans e2)
    rw [hts.len, List.drop_length] at eq
    show V.bl (iv st.reverse).isEmpty = V.bl (tagsRun [] [] ls)
    rw [← eq]
    show _ = V.bl st.isEmpty
    cases st <;> simp

/-! ### tags_of -/
def lexN (a b : List Nat) : Bool := lexT (a.map Int.ofNat) (b.map Int.ofNat)
theorem map_ofNat_inj : ∀ {a b : List Nat}, a.map Int.ofNat = b.map Int.ofNat → a = b
  | [], [], _ => rfl
  | [], _ :: _, h => by simp at h
  | _ :: _, [], h => by simp at h
  | x :: a, y :: b, h => by
    rw [List.map_cons, List.map_cons] at h
    injection h with h1 h2
    rw [Int.ofNat.inj h1, map_ofNat_inj h2]
theorem lexN_anti {a b : List Nat} (h1 : lexN a b = false) (h2 : lexN b a = false) : a = b := map_ofNat_inj (lexT_anti _ _ h1 h2)
/-- in their order -/
abbrev SrtN (l : List (List Nat)) : Prop := l.Pairwise fun a b => lexN b a = false
/-- which of them are kept by a comprehension -/
theorem given_tups {K : PySem.W.Frag} {H : Hp} {xs : List V} {ls : List (List Nat)} (p : List Nat → Bool) (h : TupsAt K H xs ls) : ∀ n, n ≤ ls.length → TupsAt K H (given n (fun i => p (ls.getD i [])) (fun i => xs.getD i .non)) ((ls.take n).filter p)
  | 0, _ => by
    rw [List.take_zero]
    exact .nil
  | n + 1, hn => by
    have ih := given_tups p h n (by omega)
    have hl : ls[n]? = some ls[n] := List.getElem?_eq_getElem (by omega)
    have hxl : n < xs.length := by rw [h.len]; omega
    have hx : xs[n]? = some xs[n] := List.getElem?_eq_getElem hxl
    obtain ⟨a, l, ea, hl2, ha⟩ := h.get hx
    rw [hl2] at hl
    have eg : ls.getD n [] = l := by rw [List.getD_eq_getElem?_getD, hl2] <;> rfl
    have ex : xs.getD n .non = .ref a := by rw [List.getD_eq_getElem?_getD, hx, ea] <;> rfl
    rw [take_more hl2, List.filter_append]
    cases hp : p l with
    | true =>
      rw [given_yes (show p (ls.getD n []) = true by rw [eg]; exact hp)]
      have e1 : [l].filter p = [l] := by simp [hp]
      rw [e1, ex]
      exact ih.snoc ha
    | false =>
      rw [given_no (show p (ls.getD n []) = false by rw [eg]; exact hp)]
      have e1 : [l].filter p = [] := by simp [hp]
      rw [e1, List.append_nil]
      exact ih
/-- the numbers of a tuple that H knows -/
def numOf : V → Nat
  | .int i => i.toNat
  | _ => 0
def numsAt (H : Hp) : V → List Nat
  | .ref a => match H a with
    | some (.tup vs) => vs.map numOf
    | _ => []
  | _ => []
theorem iv_inj : ∀ {a b : List Nat}, iv a = iv b → a = b
  | [], [], _ => rfl
  | [], _ :: _, h => by simp at h
  | _ :: _, [], h => by simp at h
  | x :: a, y :: b, h => by
    rw [show iv (x :: a) = vn x :: iv a from rfl, show iv (y :: b) = vn y :: iv b from rfl] at h
    injection h with h1 h2
    rw [(vn_eq x y).mp h1, iv_inj h2]
theorem nums_iv : ∀ l : List Nat, (iv l).map numOf = l
  | [] => rfl
  | n :: l => by
    show (n : Int).toNat :: (iv l).map numOf = n :: l
    rw [nums_iv l, Int.toNat_natCast]
theorem numsAt_eq {H : Hp} {a : Addr} {l : List Nat} (h : H a = some (.tup (iv l))) : numsAt H (.ref a) = l := by
  show (match H a with | some (.tup vs) => vs.map numOf | _ => []) = l
  rw [h]
  exact nums_iv l
theorem nums_tups {K : PySem.W.Frag} {H : Hp} {xs : List V} {ls : List (List Nat)} (h : TupsAt K H xs ls) : xs.map (numsAt H) = ls := by
  unfold TupsAt at h
  induction h with
  | nil => rfl
  | cons r t ih =>
    obtain ⟨a, rfl, q⟩ := r
    rw [List.map_cons, ih, numsAt_eq q]
theorem tups_of {K : PySem.W.Frag} {H : Hp} : ∀ {ys : List V}, (∀ y ∈ ys, ∃ a l, y = .ref a ∧ H a = some (.tup (iv l))) → TupsAt K H ys (ys.map (numsAt H))
  | [], _ => .nil
  | y :: ys, h => by
    obtain ⟨a, l, rfl, q⟩ := h y (List.mem_cons_self ..)
    rw [List.map_cons, numsAt_eq q]
    exact .cons ⟨a, rfl, q⟩ (tups_of (K := K) fun z hz => h z (List.mem_cons_of_mem _ hz))
theorem TupsAt.mem {K : PySem.W.Frag} {H : Hp} {xs : List V} {ls : List (List Nat)} (h : TupsAt K H xs ls) {x : V} (hx : x ∈ xs) : ∃ a l, x = .ref a ∧ H a = some (.tup (iv l)) ∧ l ∈ ls := by
  obtain ⟨i, hi⟩ := List.mem_iff_getElem?.mp hx
  obtain ⟨a, l, e, hl, q⟩ := h.get hi
  exact ⟨a, l, e, q, List.mem_of_getElem? hl⟩
theorem s_retCB1 {σ : L2.St} {H : Hp} {D : Ends} {r : List V → Hp → VK → Prop} {te : TE} {xs : List V} (h : EvL te σ H xs) (k : ∀ p H1, H p = none → Ex H H1 → H1 p = some (.lst xs) → r [.ref p] H1 D.rt) : tRet (tCB r (tCons te tNil)) D σ H :=
  h H (Ex.refl H) _ fun p H1 hp e h1 => k p H1 hp e h1
def spTags (K : PySem.W.Frag) : Sp := fun vs H Q _ => ∃ (p : Addr) (xs : List V) (ls : List (List Nat)), vs = [.ref p] ∧ SqL K H p xs ∧ TupsAt K H xs ls ∧ ls.length ≤ 1000 ∧ ∀ ys : List (List Nat), ys.Perm (ls.filter isTag) → SrtN ys → RetTs K ys H Q
theorem c_tags_of {W : Wd} (T : TxR W.K W.mg) (hsrt : W.mg "sorted" = none) (a : At W.K W.mg "tags_of" s_tags_of) (c1 : Cal W 1 "is_opening" (spThing W.K fun t => .bl (isOpening t))) (c3 : Cal W 1 "is_alone" (spThing W.K fun t => .bl (isAlone t))) : Cal W 2 "tags_of" (spTags W.K) := by
  refine cal a sc_tags_of (fun _ _ _ _ _ _ us hl => match us, hl with | [_], _ => rfl) (fun vs H Q E h => by obtain ⟨p, xs, ls, rfl, _⟩ := h; rfl) (fun f cdv A outer s H vs Q E hr h => ?_)
  obtain ⟨p, xs, ls, rfl, hp, hts, hlen, q⟩ := h
  refine ⟨_, pss_one (ps_ret (pe_callB cr_sortedIT (by rfl) hsrt (by decide +kernel) (pa_cons (pe_lc (own := [("thing", 1)]) (g := gName 1) (by rfl) sc_tags_of.nd (pi_list (pv 0)) (blkOk_by (own := [("thing", 1)]) (N := n_tags_of) (sc := defScope s_tags_of) (by decide +kernel)) (fun _ _ _ _ _ => pg_name (i := 1) sc_tags_of.nd rfl (Or.inl rfl))
      (fun _ _ _ _ _ => pts_one (PW.pt (pw_or (pt_val (pe_c c1 hr (pa_cons (pv 1) pa_nil))) (pw_or1 (pt_val (pe_c c3 hr (pa_cons (pv 1) pa_nil))))))) (fun _ _ _ _ _ => pv 1)) pa_nil))), ?_⟩
  have lc := el_lcL (K := W.K) (σ := start n_tags_of [.ref p]) (H := H) (xs := xs) (tl := tVar 0) (j := 1) (vs := [1]) (t := tOr (tB (tCall (spThing W.K fun t => .bl (isOpening t)) [] E0 (tCons (tVar 1) tNil))) (tB (tCall (spThing W.K fun t => .bl (isAlone t)) [] E0 (tCons (tVar 1) tNil)))) (te := tVar 1)
    (fun i => isTag (ls.getD i [])) (fun i => xs.getD i .non) (ev_var rfl) hp (by rw [hts.len]; omega) (fun x => rfl) (fun i x H1 e1 hx => by
      obtain ⟨ad, l, rfl, hl, hT⟩ := hts.get hx
      have eg : ls.getD i [] = l := by rw [List.getD_eq_getElem?_getD, hl] <;> rfl
      show EvT _ _ _ (isTag (ls.getD i []))
      rw [eg]
      exact et_or (et_B (ev_call (ea_cons (ev_var rfl) ea_nil) (sv_thing (st_of (e1 _ _ hT))))) fun _ => et_B (ev_call (ea_cons (ev_var rfl) ea_nil) (sv_thing (st_of (e1 _ _ hT)))))
    (fun i x H1 e1 hx _ => ev_is (ev_var rfl) (by show x = xs.getD i .non; rw [List.getD_eq_getElem?_getD, hx] <;> rfl))
  refine s_retCB1 (xs := given xs.length (fun i => isTag (ls.getD i [])) (fun i => xs.getD i .non)) lc fun L H2 hL e2 hl2 => ?_
  have hg : TupsAt W.K H2 (given xs.length (fun i => isTag (ls.getD i [])) (fun i => xs.getD i .non)) (ls.filter isTag) := by
    have := given_tups (K := W.K) isTag (ex_tups e2 hts) ls.length (Nat.le_refl _)
    rw [List.take_length] at this
    rw [hts.len]
    exact this
  refine ⟨L, _, fun v => (numsAt H2 v).map Int.ofNat, rfl, sq_of hl2, fun x hx => ?_, fun ys p' hperm hsort hp' => ?_⟩
  · obtain ⟨ad, l, rfl, hT, hl⟩ := hg.mem hx
    have ht := (List.mem_filter.mp hl).2
    refine ⟨ad, rfl, ?_, ?_⟩
    · show SqT W.K H2 ad (((numsAt H2 (.ref ad)).map Int.ofNat).map V.int)
      rw [numsAt_eq hT, List.map_map]
      exact st_of hT
    · show (numsAt H2 (.ref ad)).map Int.ofNat ≠ []
      rw [numsAt_eq hT]
      have := len_isTag ht
      intro z
      rw [List.map_eq_nil_iff.mp z] at this
      exact absurd this (by decide)
  · have hm : ∀ y ∈ ys, ∃ a l, y = .ref a ∧ H2 a = some (.tup (iv l)) := fun y hy => by
      obtain ⟨ad, l, e, hT, _⟩ := hg.mem (hperm.mem_iff.mp hy)
      exact ⟨ad, l, e, hT⟩
    refine q (ys.map (numsAt H2)) ?_ ?_ p' ys _ (fresh_back e2 hp') (e2.trans (Ex.new hp')) upd_same (ex_tups (Ex.new hp') (tups_of hm))
    · rw [← nums_tups hg]
      exact hperm.map _
    · exact List.pairwise_map.mpr hsort
end Fo

set_option Elab.async false
set_option linter.all false
set_option maxRecDepth 100000
set_option maxHeartbeats 2000000
namespace Fo
open PySem PySem.Spec PyProof.Rows L2 Evl
structure TxL (K : PySem.W.Frag) (mg : Str → Option Value) : Prop where
  LINE_END : Cn mg "LINE_END" (vn 10)
  REMARK : Cn mg "REMARK" (vn 35)
  WRONG_TAGS : Cn mg "WRONG_TAGS" (vn 998)
  KEY_TWICE : Cn mg "KEY_TWICE" (vn 999)
  tuple : mg "tuple" = none
/-- a list of whole numbers stands at each -/
def LinesAt (H : Hp) : List V → List (List Nat) → Prop := Paired fun v l => ∃ a, v = .ref a ∧ H a = some (.lst (iv l))
theorem ex_lines {H H' : Hp} {vs : List V} {ls : List (List Nat)} (e : Ex H H') (h : LinesAt H vs ls) : LinesAt H' vs ls := Paired.mapP h fun _ _ ⟨a, q, r⟩ => ⟨a, q, e _ _ r⟩
theorem LinesAt.len {H : Hp} {vs : List V} {ls : List (List Nat)} (h : LinesAt H vs ls) : vs.length = ls.length := Paired.length h
theorem LinesAt.get {H : Hp} {vs : List V} {ls : List (List Nat)} {i : Nat} {x : V} (h : LinesAt H vs ls) (hx : vs[i]? = some x) : ∃ a l, x = .ref a ∧ ls[i]? = some l ∧ H a = some (.lst (iv l)) := by
  obtain ⟨l, hl, a, e, q⟩ := paired_get h hx
  exact ⟨a, l, e, hl, q⟩
/-- a list of whole numbers stands at each, and each place is of the kind N -/
def LnsAt (N : Addr → Prop) (H : Hp) : List V → List (List Nat) → Prop := Paired fun v l => ∃ a, v = .ref a ∧ N a ∧ H a = some (.lst (iv l))
theorem LnsAt.at {N : Addr → Prop} {H : Hp} {vs : List V} {ls : List (List Nat)} (h : LnsAt N H vs ls) : LinesAt H vs ls := Paired.mapP h fun _ _ ⟨a, q, _, r⟩ => ⟨a, q, r⟩
theorem LnsAt.mono {N N' : Addr → Prop} {H H' : Hp} {vs : List V} {ls : List (List Nat)} (h : LnsAt N H vs ls) (hk : ∀ a xs, N a → H a = some (.lst xs) → N' a ∧ H' a = some (.lst xs)) : LnsAt N' H' vs ls := Paired.mapP h fun _ _ ⟨a, q, n, r⟩ => ⟨a, q, hk a _ n r⟩
/-- a new list of new lists -/
def RetLs (ls : List (List Nat)) (H : Hp) (Q : VK) : Prop := ∀ p vs H2, H p = none → Ex H H2 → H2 p = some (.lst vs) → LnsAt (fun a => H a = none) H2 vs ls → Q (.ref p) H2
def spLines (K : PySem.W.Frag) : Sp := fun vs H Q _ => ∃ (p : Addr) (t : List Nat), vs = [.ref p] ∧ SqL K H p (iv t) ∧ t.length ≤ 1000 ∧ RetLs (linesOf t) H Q
theorem c_lines_of {W : Wd} (T : TxL W.K W.mg) (a : At W.K W.mg "lines_of" s_lines_of) : Cal W 1 "lines_of" (spLines W.K) := by
  refine cal a sc_lines_of (fun _ _ _ _ _ _ us hl => match us, hl with | [_], _ => rfl) (fun vs H Q E h => by obtain ⟨p, t, rfl, _⟩ := h; rfl) (fun f cdv A outer s H vs Q E hr h => ?_)
  obtain ⟨p, t, rfl, hp, ht, q⟩ := h
  refine ⟨_, pss_cons (ps_set (i := 1) sc_lines_of.nd rfl (.inl rfl) (pe_lst pa_nil))
    (pss_cons (ps_set (i := 2) sc_lines_of.nd rfl (.inl rfl) (pe_lst pa_nil))
    (pss_cons (ps_for PassesOwn.never rfl (pi_list (pv 0)) (pg_name (i := 3) sc_lines_of.nd rfl (.inl rfl))
      (pss_one (ps_if (pt_cmpR op_eq (pv 3) (pe_gc T.LINE_END) (nomark _))
        (pss_cons (ps_expr (pe_bm PySem.F.plainAttrs_list PySem.F.slot_list_append PySem.F.type_list_append mt_append (pv 1) (pa_cons (pv 2) pa_nil)))
        (pss_one (ps_set (i := 2) sc_lines_of.nd rfl (.inl rfl) (pe_lst pa_nil))))
        (pss_one (ps_expr (pe_bm PySem.F.plainAttrs_list PySem.F.slot_list_append PySem.F.type_list_append mt_append (pv 2) (pa_cons (pv 3) pa_nil)))))))
    (pss_cons (ps_expr (pe_bm PySem.F.plainAttrs_list PySem.F.slot_list_append PySem.F.type_list_append mt_append (pv 1) (pa_cons (pv 2) pa_nil)))
    (pss_one (ps_ret (pv 1)))))), ?_⟩
  refine q_asgL (el_lst ea_nil (by decide)) fun L H1 hL e1 h1 => q_asgL (el_lst ea_nil (by decide)) fun C H2 hC e2 h2 => ?_
  refine q_forLn (K := W.K) (xs := iv t) (ev_var rfl) (ex_l (e1.trans e2) hp) (fun i σ' H' => ∃ (C : Addr) (line : List Nat) (vs : List V) (ls : List (List Nat)) (v3 : Option V), σ' = [some (.ref p), some (.ref L), some (.ref C), v3] ∧ Ex H H' ∧ H C = none ∧ C ≠ L ∧
      H' L = some (.lst vs) ∧ H' C = some (.lst (iv line)) ∧ Paired (fun v l => ∃ a, v = .ref a ∧ H a = none ∧ a ≠ C ∧ a ≠ L ∧ H' a = some (.lst (iv l))) vs ls ∧ ls ++ linesGo line (t.drop i) = linesOf t ∧ ls.length ≤ i ∧ line.length ≤ i)
    (fun H3 e3 => ⟨C, [], [], [], none, rfl, (e1.trans e2).trans e3, fresh_back e1 hC, Ne.symm (ne_of_none h1 hC), e3 _ _ (e2 _ _ h1), e3 _ _ h2, .nil, rfl, Nat.le_refl _, Nat.le_refl _⟩) (fun i σ' H' _ ⟨_, _, _, _, _, _, e, _⟩ => ex_l e hp) ?_ ?_
  · rintro i x σ' H' hx ⟨C, line, vs, ls, v3, rfl, e, hC0, hCL, hl, hc, hp', eq, hle, hll⟩
    obtain ⟨n, hn, rfl⟩ := iv_get hx
    have hi : i < t.length := (List.getElem?_eq_some_iff.mp hn).1
    rw [drop_more hn] at eq
    have lvs : vs.length = ls.length := Paired.length hp'
    refine s_if (et_test (ev_eqn (ev_var rfl) ev_c)) (fun b H3 e3 => ?_) (fun b H3 e3 => ?_)
    · have hn10 : n = 10 := of_decide_eq_true b
      refine q_app (K := W.K) (e3 _ _ hl) (ev_var rfl) (ev_var (i := 2) rfl) (by omega) fun H4 e4 => s_asgL (el_lst ea_nil (by decide)) fun C' H5 hC' e5 h5 => ?_
      have e05 : Ex H (upd H4 L (.lst (vs ++ [.ref C]))) := Ex.mut ((e.trans e3).trans e4) hL
      have hCC : C ≠ C' := by
        refine ne_of_none (o := .lst (iv line)) ?_ hC'
        rw [upd_ne hCL]
        exact (e3.trans e4) _ _ hc
      have hLC : C' ≠ L := Ne.symm (ne_of_none upd_same hC')
      refine ⟨C', [], vs ++ [.ref C], ls ++ [line], some (vn n), rfl, e05.trans e5, fresh_back e05 hC', hLC, e5 _ _ upd_same, h5, ?_, ?_, ?_, Nat.zero_le _⟩
      · refine Paired.snoc (Paired.mapP hp' fun v l ⟨ad, ev, n0, n1, n2, h⟩ => ?_) ⟨C, rfl, hC0, hCC, hCL, e5 _ _ ?_⟩
        · have hh : upd H4 L (.lst (vs ++ [.ref C])) ad = some (.lst (iv l)) := by
            rw [upd_ne n2]
            exact (e3.trans e4) _ _ h
          exact ⟨ad, ev, n0, ne_of_none hh hC', n2, e5 _ _ hh⟩
        · rw [upd_ne hCL]
          exact (e3.trans e4) _ _ hc
      · rw [← eq]
        show _ = ls ++ (if n = 10 then line :: linesGo [] (t.drop (i + 1)) else _)
        rw [if_pos hn10, List.append_assoc] <;> rfl
      · rw [List.length_append]
        show ls.length + 1 ≤ _
        omega
    · refine s_app (K := W.K) (e3 _ _ hc) (ev_var rfl) (ev_var (i := 3) rfl) (by rw [iv_len]; omega) fun H4 e4 => ?_
      refine ⟨C, line ++ [n], vs, ls, some (vn n), rfl, Ex.mut ((e.trans e3).trans e4) hC0, hC0, hCL, ?_, ?_, ?_, ?_, by omega, ?_⟩
      · rw [upd_ne (Ne.symm hCL)]
        exact (e3.trans e4) _ _ hl
      · rw [upd_same, iv_app] <;> rfl
      · refine Paired.mapP hp' fun v l ⟨ad, ev, n0, n1, n2, h⟩ => ⟨ad, ev, n0, n1, n2, ?_⟩
        rw [upd_ne n1]
        exact (e3.trans e4) _ _ h
      · rw [← eq]
        show _ = ls ++ (if n = 10 then _ else linesGo (line ++ [n]) (t.drop (i + 1)))
        rw [if_neg (of_decide_eq_false b)]
      · rw [List.length_append]
        show line.length + 1 ≤ _
        omega
  · rintro σ' H' ⟨C, line, vs, ls, v3, rfl, e, hC0, hCL, hl, hc, hp', eq, hle, hll⟩
    have lvs : vs.length = ls.length := Paired.length hp'
    rw [iv_len] at hle hll eq
    rw [List.drop_length] at eq
    refine q_app (K := W.K) hl (ev_var rfl) (ev_var (i := 2) rfl) (by omega) fun H4 e4 => s_ret (ev_var rfl) fun H5 e5 => ?_
    refine q L _ H5 hL ((Ex.mut (e.trans e4) hL).trans e5) (e5 _ _ upd_same) ?_
    rw [← eq]
    refine Paired.snoc (Paired.mapP hp' fun v l ⟨ad, ev, n0, n1, n2, h⟩ => ⟨ad, ev, n0, e5 _ _ ?_⟩) ⟨C, rfl, hC0, e5 _ _ ?_⟩
    · rw [upd_ne n2]
      exact e4 _ _ h
    · rw [upd_ne hCL]
      exact e4 _ _ hc

/-- of a line: a value -/
def spLine (K : PySem.W.Frag) (g : List Nat → V) : Sp := fun vs H Q _ => ∃ (p : Addr) (l : List Nat), vs = [.ref p] ∧ SqL K H p (iv l) ∧ RetV (g l) H Q
theorem sv_line {K : PySem.W.Frag} {g : List Nat → V} {H : Hp} {p : Addr} {l : List Nat} (h : SqL K H p (iv l)) : SpV (spLine K g) [.ref p] H (g l) := fun H1 e Q q _ => ⟨p, l, rfl, ex_l e h, q⟩
theorem rv_atL {K : PySem.W.Frag} {H : Hp} {p : Addr} {t : List Nat} {i : Nat} (h : SqL K H p (iv t)) (hi : i < t.length) : RV (rIxL K) (.ref p) (.int (i : Int)) H (vn (t.getD i 0)) := by
  refine rv_ixL h (atI_nat (get_iv ?_))
  rw [List.getD_eq_getElem?_getD, List.getElem?_eq_getElem hi] <;> rfl
theorem c_is_kept {W : Wd} (T : TxL W.K W.mg) (a : At W.K W.mg "is_kept" s_is_kept) : Cal W 1 "is_kept" (spLine W.K fun l => .bl (isKept l)) := by
  refine cal a sc_is_kept (fun _ _ _ _ _ _ us hl => match us, hl with | [_], _ => rfl) (fun vs H Q E h => by obtain ⟨p, l, rfl, _⟩ := h; rfl) (fun f cdv A outer s H vs Q E hr h => ?_)
  obtain ⟨p, l, rfl, hp, q⟩ := h
  refine ⟨_, pss_one (ps_ret (pe_or (pe_notT (pv 0)) (pe_one (pe_cmpR op_eq (pe_ix ix_list (pv 0) pe_int (fun _ _ => rfl)) (pe_gc T.REMARK) (nomark _))))), ?_⟩
  refine s_ret (ev_is (ev_orV (ev_notL (K := W.K) (ev_var rfl) (.inl hp)) fun b => ev_eqn (ev_op (ev_var rfl) ev_c (rv_atL (i := 0) hp ?_)) ev_c) ?_) q
  · cases l with
    | nil => cases b
    | cons x r => exact Nat.succ_pos _
  · show V.bl ((iv l).isEmpty || decide (l.getD 0 0 = 35)) = V.bl (l.isEmpty || decide (l.getD 0 0 = 35))
    cases l <;> rfl
/-- where the first = stands -/
theorem key_split : ∀ {l : List Nat}, 61 ∈ l → l[(keyOf l).length]? = some 61 ∧ l.take (keyOf l).length = keyOf l ∧ ∀ m z, m < (keyOf l).length → l[m]? = some z → z ≠ 61
  | [], h => by cases h
  | b :: l, h => by
    by_cases e : b = 61
    · have ek : keyOf (b :: l) = [] := by simp [keyOf, e]
      rw [ek]
      exact ⟨by rw [e]; rfl, rfl, fun m z hm => absurd hm (Nat.not_lt_zero _)⟩
    · have ek : keyOf (b :: l) = b :: keyOf l := by simp [keyOf, e]
      obtain ⟨h1, h2, h3⟩ := key_split (l := l) ((List.mem_cons.mp h).resolve_left (fun z => e z.symm))
      rw [ek]
      refine ⟨h1, by show b :: l.take (keyOf l).length = _; rw [h2], fun m z hm hz => ?_⟩
      cases m with
      | zero =>
        have : b = z := Option.some.inj hz
        rw [← this]
        exact e
      | succ m => exact h3 m z (by have : m + 1 < (keyOf l).length + 1 := hm; omega) hz
theorem ev_index {K : PySem.W.Frag} {σ : L2.St} {H : Hp} {ta tb : TE} {p : Addr} {l : List Nat} (ha : Ev ta σ H (.ref p)) (hb : Ev tb σ H (vn 61)) (h : SqL K H p (iv l)) (hm : 61 ∈ l) : Ev (tBM K "list" (rIndex K) ta (tCons tb tNil)) σ H (vn (keyOf l).length) := fun H1 e Q q =>
  ha H1 e _ fun H2 e2 => ⟨.inl ⟨rfl, _, ex_l (e.trans e2) h⟩, hb H2 (e.trans e2) _ fun H3 e3 => by
    obtain ⟨h1, h2, h3⟩ := key_split hm
    refine ⟨p, iv l, vn 61, (keyOf l).length, vn 61, rfl, rfl, ex_l ((e.trans e2).trans e3) h, rfl, flat_iv _, get_iv h1, rfl, fun m z hm hz => ?_, q H3 (e2.trans e3)⟩
    obtain ⟨n, hn, rfl⟩ := iv_get hz
    have := h3 m n hm hn
    show ((n : Int) == ((61 : Nat) : Int)) = false
    exact beq_eq_false_iff_ne.mpr (by omega)⟩
/-- a new tuple is handed back -/
def RetP (xs : List V) (H : Hp) (Q : VK) : Prop := ∀ p H2, Ex H H2 → H2 p = some (.tup xs) → Q (.ref p) H2
def spPart (K : PySem.W.Frag) (g : List Nat → List Nat) : Sp := fun vs H Q _ => ∃ (p : Addr) (l : List Nat), vs = [.ref p] ∧ SqL K H p (iv l) ∧ 61 ∈ l ∧ RetP (iv (g l)) H Q
theorem ep_call {K : PySem.W.Frag} {σ : L2.St} {H : Hp} {g : List Nat → List Nat} {ta : TE} {E : XK} {p : Addr} {l : List Nat} (ha : Ev ta σ H (.ref p)) (h : SqL K H p (iv l)) (hm : 61 ∈ l) : EvP K (tCall (spPart K g) [] E (tCons ta tNil)) σ H (iv (g l)) := fun H1 e Q q =>
  ha H1 e _ fun H2 e2 => ⟨p, l, rfl, ex_l (e.trans e2) h, hm, fun p' H3 e3 h3 => q p' H3 (e2.trans e3) h3⟩
theorem s_retP {K : PySem.W.Frag} {σ : L2.St} {H : Hp} {D : Ends} {te : TE} {xs : List V} (h : EvP K te σ H xs) (k : ∀ p H1, Ex H H1 → H1 p = some (.tup xs) → D.rt (.ref p) H1) : tRet te D σ H := h H (Ex.refl H) _ k
theorem c_key_of {W : Wd} (T : TxL W.K W.mg) (TR : TxR W.K W.mg) (a : At W.K W.mg "key_of" s_key_of) : Cal W 1 "key_of" (spPart W.K keyOf) := by
  refine cal a sc_key_of (fun _ _ _ _ _ _ us hl => match us, hl with | [_], _ => rfl) (fun vs H Q E h => by obtain ⟨p, l, rfl, _⟩ := h; rfl) (fun f cdv A outer s H vs Q E hr h => ?_)
  obtain ⟨p, l, rfl, hp, hm, q⟩ := h
  refine ⟨_, pss_one (ps_ret (pe_callTy call_tuple_of (by rfl) T.tuple PyProof.Rows.boot_tuple (pa_cons (pe_slice sl_two (pv 0) po_none (po_some (pe_bm PySem.F.plainAttrs_list PySem.F.slot_list_index PySem.F.type_list_index mt_index (pv 0) (pa_cons (pe_gc TR.EQUALS) pa_nil)))) pa_nil))), ?_⟩
  have h1 := ep_tuple (eq_sl (K := W.K) (σ := start n_key_of [.ref p]) (H := H) (te := tVar 0) (a := p) (ev_var rfl) eo_none (eo_some (ev_index (K := W.K) (ta := tVar 0) (tb := tC (vn 61)) (ev_var rfl) ev_c hp hm)) (.inl hp))
  refine s_retP h1 fun p' H1 e1 hp' => q p' H1 e1 ?_
  rw [cut_to, ← iv_take, (key_split hm).2.1] at hp'
  exact hp'
theorem c_text_of {W : Wd} (T : TxL W.K W.mg) (TR : TxR W.K W.mg) (a : At W.K W.mg "text_of" s_text_of) : Cal W 1 "text_of" (spPart W.K textOf) := by
  refine cal a sc_text_of (fun _ _ _ _ _ _ us hl => match us, hl with | [_], _ => rfl) (fun vs H Q E h => by obtain ⟨p, l, rfl, _⟩ := h; rfl) (fun f cdv A outer s H vs Q E hr h => ?_)
  obtain ⟨p, l, rfl, hp, hm, q⟩ := h
  refine ⟨_, pss_one (ps_ret (pe_callTy call_tuple_of (by rfl) T.tuple PyProof.Rows.boot_tuple (pa_cons (pe_slice sl_two (pv 0) (po_some (pe_op op_add (pe_bm PySem.F.plainAttrs_list PySem.F.slot_list_index PySem.F.type_list_index mt_index (pv 0) (pa_cons (pe_gc TR.EQUALS) pa_nil)) pe_int)) po_none) pa_nil))), ?_⟩
  have h1 := ep_tuple (eq_sl (K := W.K) (σ := start n_text_of [.ref p]) (H := H) (te := tVar 0) (a := p) (ev_var rfl) (eo_some (ev_addn (b := 1) (ev_index (K := W.K) (ta := tVar 0) (tb := tC (vn 61)) (ev_var rfl) ev_c hp hm) (tb := tC (.int 1)) ev_c)) eo_none (.inl hp))
  refine s_retP h1 fun p' H1 e1 hp' => q p' H1 e1 ?_
  rw [cut_from, ← iv_drop] at hp'
  exact hp'
def spTold : Sp := fun vs H Q _ => ∃ (i f : Nat), vs = [vn i, vn f] ∧ RetV (.int (toldFault i f)) H Q
theorem sv_told {H : Hp} {i f : Nat} : SpV spTold [vn i, vn f] H (.int (toldFault i f)) := fun H1 e Q q _ => ⟨i, f, rfl, q⟩
theorem c_told {W : Wd} (a : At W.K W.mg "told_fault" s_told_fault) : Cal W 1 "told_fault" spTold := by
  refine cal a sc_told_fault (fun _ _ _ _ _ _ us hl => match us, hl with | [_, _], _ => rfl) (fun vs H Q E h => by obtain ⟨i, f, rfl, _⟩ := h; rfl) (fun f cdv A outer s H vs Q E hr h => ?_)
  obtain ⟨i, f, rfl, q⟩ := h
  refine ⟨_, pss_one (ps_ret (pe_op op_sub (pe_op op_sub (pe_un un_neg pe_int) (pe_op op_mul pe_int (pv 0))) (pv 1))), ?_⟩
  exact s_ret (ev_op (ev_op (ev_un ev_c ru_neg) (ev_op ev_c (ev_var rfl) (rv_I (.inl ⟨by decide, by decide⟩))) rv_I0) (ev_var rfl) rv_I0) q
/-- x is not None, of a number or None -/
theorem et_notN {σ : L2.St} {H : Hp} {te : TE} {o : Option Nat} (h : Ev te σ H (optV o)) : EvT (tB (tNotN te)) σ H o.isSome := fun H1 e Q q =>
  h H1 e _ fun H2 e2 => ⟨_, rfl, by
    cases o with
    | none => exact q H2 e2
    | some n => exact q H2 e2⟩
def spLF (K : PySem.W.Frag) : Sp := fun vs H Q E => ∃ (p : Addr) (l : List Nat), vs = [.ref p] ∧ SqL K H p (iv l) ∧ l.length ≤ 1000 ∧ RetV (optV (lineFault l)) H Q
theorem c_line_fault {W : Wd} (T : TxL W.K W.mg) (TR : TxR W.K W.mg) (a : At W.K W.mg "line_fault" s_line_fault) (c1 : Cal W 1 "is_kept" (spLine W.K fun l => .bl (isKept l))) (c2 : Cal W 5 "fault_place" (spFault W.K))
    (c3 : Cal W 2 "are_tags_right" (spTs W.K fun ls => .bl (tagsRun [] [] ls))) (c4 : Cal W 2 "things_of" (spThings W.K)) (c5 : Cal W 1 "text_of" (spPart W.K textOf)) : Cal W 6 "line_fault" (spLF W.K) := by
  refine cal a sc_line_fault (fun _ _ _ _ _ _ us hl => match us, hl with | [_], _ => rfl) (fun vs H Q E h => by obtain ⟨p, l, rfl, _⟩ := h; rfl) (fun f cdv A outer s H vs Q E hr h => ?_)
  obtain ⟨p, l, rfl, hp, hlen, q⟩ := h
  refine ⟨_, pss_cons (ps_if (pt_val (pe_c c1 hr (pa_cons (pv 0) pa_nil))) (pss_one (ps_ret pe_non)) pss_nil)
    (pss_cons (ps_set (i := 1) sc_line_fault.nd rfl (.inl rfl) (pe_c c2 hr (pa_cons (pv 0) (pa_cons (pe_gc TR.KEY_BEGIN) pa_nil))))
    (pss_cons (ps_if (pt_cmp (pc_notN (pv 1))) (pss_one (ps_ret (pv 1))) pss_nil)
    (pss_one (ps_ret (pe_ifExp (pt_val (pe_c c3 hr (pa_cons (pe_c c4 hr (pa_cons (pe_c c5 hr (pa_cons (pv 0) pa_nil)) pa_nil)) pa_nil))) pe_non (pe_gc T.WRONG_TAGS)))))), ?_⟩
  refine q_when (et_B (ev_call (ea_cons (ev_var rfl) ea_nil) (sv_line hp))) (fun b H1 e1 => s_ret (ev_is ev_c ?_) fun H2 e2 => q H2 (e1.trans e2)) (fun b H1 e1 => ?_)
  · rw [lineFault, if_pos b] <;> rfl
  have nb : ¬ isKept l = true := by rw [b]; decide
  refine q_asg (ev_call (ea_cons (ev_var rfl) (ea_cons ev_c ea_nil)) (sv_fault (st := .keyBegin) (ex_l e1 hp))) fun H2 e2 => ?_
  cases hf : faultPlace l .keyBegin with
  | some pl =>
    have ef : lineFault l = some pl := by
      rw [lineFault, if_neg nb]
      simp only [hf]
    refine q_when (et_notN (o := some pl) (ev_var rfl)) (fun b H3 e3 => s_ret (v := optV (some pl)) (ev_var rfl) fun H4 e4 => ?_) (fun b => by cases b)
    have g := q H4 (((e1.trans e2).trans e3).trans e4)
    rw [ef] at g
    exact g
  | none =>
    have ef : lineFault l = if tagsRun [] [] (thingsOf (textOf l)) = true then none else some 998 := by
      rw [lineFault, if_neg nb]
      simp only [hf]
    have hm : 61 ∈ l := fault_none_mem l 0 .keyBegin (.inl rfl) hf
    refine q_when (et_notN (o := none) (ev_var rfl)) (fun b => by cases b) (fun b H3 e3 => ?_)
    have e03 := (e1.trans e2).trans e3
    have tl : (textOf l).length ≤ 1000 := by
      unfold textOf
      rw [List.length_drop]
      omega
    have tr : Ev (tCall (spTs W.K fun ls => .bl (tagsRun [] [] ls)) [] E0 (tCons (tCall (spThings W.K) [] E0 (tCons (tCall (spPart W.K textOf) [] E0 (tCons (tVar 0) tNil)) tNil)) tNil)) ((start n_line_fault [.ref p]).set 1 (some .non)) H3 (.bl (tagsRun [] [] (thingsOf (textOf l)))) := fun H4 e4 Q q =>
      ep_call (σ := (start n_line_fault [.ref p]).set 1 (some .non)) (K := W.K) (g := textOf) (E := E0) (ta := tVar 0) (ev_var rfl) (ex_l (e03.trans e4) hp) hm H4 (Ex.refl H4) _ fun p2 H5 e5 h5 => ⟨p2, textOf l, rfl, .inr h5, tl, fun p3 vs H6 hp3 e6 h6 ht => ⟨p3, vs, thingsOf (textOf l), rfl, sq_of h6, ht, Nat.le_trans (things_len _) tl, fun H7 e7 => q H7 ((e5.trans e6).trans e7)⟩⟩
    refine s_ret (ev_if (et_B tr) (fun b => ev_is ev_c ?_) (fun b => ev_is ev_c ?_)) fun H4 e4 => q H4 (e03.trans e4)
    · rw [ef, if_pos b] <;> rfl
    · rw [ef, if_neg (by rw [b]; decide)] <;> rfl

def optI : Option Int → V
  | none => .non
  | some n => .int n
def kk (l : List Nat) : List Key := l.map fun (n : Nat) => Sum.inl (n : Int)
theorem kk_v (l : List Nat) : (kk l).map kV = iv l := by
  unfold kk
  rw [List.map_map]
  rfl
theorem kk_inj : ∀ {a b : List Nat}, kk a = kk b → a = b
  | [], [], _ => rfl
  | [], _ :: _, h => by simp [kk] at h
  | _ :: _, [], h => by simp [kk] at h
  | x :: a, y :: b, h => by
    have h' : Sum.inl (x : Int) :: kk a = (Sum.inl (y : Int) : Key) :: kk b := h
    injection h' with h1 h2
    have := Sum.inl.inj h1
    rw [kk_inj h2, show x = y by omega]
/-- of the list of lines: a number or None -/
def spFaults (K : PySem.W.Frag) (P : List (List Nat) → Prop) (g : List (List Nat) → Option Int) : Sp := fun vs H Q _ => ∃ (p : Addr) (xs : List V) (ls : List (List Nat)), vs = [.ref p] ∧ SqL K H p xs ∧ LinesAt H xs ls ∧ ls.length ≤ 1000 ∧ P ls ∧ RetV (optI (g ls)) H Q
def Keyed (ls : List (List Nat)) : Prop := ∀ l ∈ ls, isKept l = false → 61 ∈ l
theorem c_key_fault {W : Wd} (T : TxL W.K W.mg) (TR : TxR W.K W.mg) (a : At W.K W.mg "key_fault" s_key_fault) (c1 : Cal W 1 "is_kept" (spLine W.K fun l => .bl (isKept l))) (c2 : Cal W 1 "key_of" (spPart W.K keyOf)) (c3 : Cal W 1 "told_fault" spTold) :
    Cal W 2 "key_fault" (spFaults W.K Keyed (keyFaultFrom 0 [])) := by
  refine cal a sc_key_fault (fun _ _ _ _ _ _ us hl => match us, hl with | [_], _ => rfl) (fun vs H Q E h => by obtain ⟨p, xs, ls, rfl, _⟩ := h; rfl) (fun f cdv A outer s H vs Q E hr h => ?_)
  obtain ⟨p, xs, ls, rfl, hp, hls, hlen, hK, q⟩ := h
  have hu := hu_of hr
  refine ⟨_, pss_cons (ps_set (i := 1) sc_key_fault.nd rfl (.inl rfl) pe_dnewT)
    (pss_cons (ps_for PassesOwn.never rfl (pi_enum (by rfl) TR.enumerate (pa_cons (pv 0) pa_nil)) (pg_tup rfl (pgs_cons (pg_name (i := 2) sc_key_fault.nd rfl (.inl rfl)) (pgs_cons (pg_name (i := 3) sc_key_fault.nd rfl (.inl rfl)) pgs_nil)))
      (pss_one (ps_if (pt_not (pt_val (pe_c c1 hr (pa_cons (pv 3) pa_nil))))
        (pss_cons (ps_set (i := 4) sc_key_fault.nd rfl (.inl rfl) (pe_c c2 hr (pa_cons (pv 3) pa_nil)))
        (pss_cons (ps_if (pt_cmp (pc_din hu (pv 4) (pv 1))) (pss_one (ps_ret (pe_c c3 hr (pa_cons (pv 2) (pa_cons (pe_gc T.KEY_TWICE) pa_nil))))) pss_nil)
        (pss_one (ps_dput hu (pv 1) (pv 4) pe_bl rfl)))) pss_nil)))
    (pss_one (ps_ret pe_non))), ?_⟩
  refine fun S hS => ?_
  refine q_forE (K := W.K) (xs := xs) (ea_cons (ev_var rfl) ea_nil) (ex_l (Ex.new hS) hp) (fun i σ' H' => ∃ (seen : List (List Nat)) (kvs : List (List Key × V)) (v2 v3 v4 : Option V), σ' = [some (.ref p), some (.ref S), v2, v3, v4] ∧ Ex H H' ∧ H' S = some (.dT kvs) ∧
      (∀ k : List Nat, (valV kvs (kk k)).isSome = decide (k ∈ seen)) ∧ keyFaultFrom i seen (ls.drop i) = keyFaultFrom 0 [] ls ∧ kvs.length ≤ i)
    (fun H2 e2 => ⟨[], [], none, none, none, rfl, (Ex.new hS).trans e2, e2 _ _ upd_same, fun _ => rfl, rfl, Nat.le_refl _⟩) (fun i σ' H' _ ⟨_, _, _, _, _, _, e, _⟩ => ex_l e hp) ?_ ?_
  · rintro i x σ' H' hx ⟨seen, kvs, v2, v3, v4, rfl, e, hs', hsee, eq, hk⟩ H2 e2
    obtain ⟨ad, l, rfl, hl, hA⟩ := hls.get hx
    have hi : i < ls.length := (List.getElem?_eq_some_iff.mp hl).1
    rw [drop_more hl] at eq
    refine s_when (et_not (et_B (ev_call (ea_cons (ev_var rfl) ea_nil) (sv_line (sq_of ((e.trans e2) _ _ hA)))))) (fun b H3 e3 => ?_) (fun b H3 e3 => ?_)
    · have nb : isKept l = false := by simpa using b
      have step : keyFaultFrom i seen (l :: ls.drop (i + 1)) = if keyOf l ∈ seen then some (toldFault i 999) else keyFaultFrom (i + 1) (keyOf l :: seen) (ls.drop (i + 1)) := by
        rw [keyFaultFrom, if_neg (by rw [nb]; decide)]
      rw [step] at eq
      have hm : 61 ∈ l := hK l (List.mem_of_getElem? hl) nb
      have e03 := (e.trans e2).trans e3
      refine q_asgP (ep_call (K := W.K) (g := keyOf) (ev_var rfl) (sq_of (e03 _ _ hA)) hm) fun kd H4 e4 hkd => ?_
      have hkd' : H4 kd = some (.tup ((kk (keyOf l)).map kV)) := by rw [kk_v]; exact hkd
      have hS4 : H4 S = some (.dT kvs) := (((e2.trans e3).trans e4)) _ _ hs'
      refine q_when (et_is (et_B (ev_dinT (ev_var rfl) (ev_var rfl) hkd' hS4)) (hsee _)) (fun b2 H5 e5 => s_ret (ev_call (ea_cons (ev_var rfl) (ea_cons ev_c ea_nil)) sv_told) fun H6 e6 => ?_) (fun b2 H5 e5 => ?_)
      · rw [if_pos (of_decide_eq_true b2)] at eq
        have g := q H6 (((e03.trans e4).trans e5).trans e6)
        rw [← eq] at g
        exact g
      · rw [if_neg (of_decide_eq_false b2)] at eq
        refine s_dputT (v := .bl true) ev_c (ev_var rfl) (ev_var rfl) (e5 _ _ hkd') (e5 _ _ hS4) (by omega) fun H6 e6 => ?_
        refine ⟨keyOf l :: seen, _, some (vn i), some (.ref ad), some (.ref kd), rfl, Ex.mut (((e03.trans e4).trans e5).trans e6) hS, upd_same, fun k => ?_, eq, Nat.le_trans (length_putK _ _ _) (by omega)⟩
        rw [valV_put]
        by_cases hn : k = keyOf l
        · rw [hn, if_pos rfl]
          simp
        · rw [if_neg (fun z => hn (kk_inj z)), hsee k]
          exact decide_eq_decide.mpr ⟨fun h => List.mem_cons_of_mem _ h, fun h => (List.mem_cons.mp h).resolve_left hn⟩
    · have nb : isKept l = true := by simpa using b
      have step : keyFaultFrom i seen (l :: ls.drop (i + 1)) = keyFaultFrom (i + 1) seen (ls.drop (i + 1)) := by
        rw [keyFaultFrom, if_pos nb]
      rw [step] at eq
      exact ⟨seen, kvs, some (vn i), some (.ref ad), v4, rfl, (e.trans e2).trans e3, (e2.trans e3) _ _ hs', hsee, eq, by omega⟩
  · rintro σ' H' ⟨seen, kvs, v2, v3, v4, rfl, e, hs', hsee, eq, hk⟩
    rw [hls.len, List.drop_length] at eq
    refine s_ret (v := .non) ev_c fun H2 e2 => ?_
    have g := q H2 (e.trans e2)
    rw [← eq] at g
    exact g
theorem et_notI {σ : L2.St} {H : Hp} {te : TE} {o : Option Int} (h : Ev te σ H (optI o)) : EvT (tB (tNotN te)) σ H o.isSome := fun H1 e Q q =>
  h H1 e _ fun H2 e2 => ⟨_, rfl, by
    cases o with
    | none => exact q H2 e2
    | some n => exact q H2 e2⟩
theorem lineFault_keyed {l : List Nat} (h : lineFault l = none) (hk : isKept l = false) : 61 ∈ l := by
  rw [lineFault, if_neg (by rw [hk]; decide)] at h
  cases hf : faultPlace l .keyBegin with
  | some p =>
    simp only [hf] at h
    cases h
  | none => exact fault_none_mem l 0 .keyBegin (.inl rfl) hf
theorem c_file_fault {W : Wd} (T : TxL W.K W.mg) (TR : TxR W.K W.mg) (a : At W.K W.mg "file_fault" s_file_fault) (c1 : Cal W 6 "line_fault" (spLF W.K)) (c2 : Cal W 2 "key_fault" (spFaults W.K Keyed (keyFaultFrom 0 []))) (c3 : Cal W 1 "told_fault" spTold) :
    Cal W 7 "file_fault" (spFaults W.K (fun ls => ∀ l ∈ ls, l.length ≤ 1000) fileFault) := by
  refine cal a sc_file_fault (fun _ _ _ _ _ _ us hl => match us, hl with | [_], _ => rfl) (fun vs H Q E h => by obtain ⟨p, xs, ls, rfl, _⟩ := h; rfl) (fun f cdv A outer s H vs Q E hr h => ?_)
  obtain ⟨p, xs, ls, rfl, hp, hls, hlen, hsz, q⟩ := h
  refine ⟨_, pss_cons (ps_for PassesOwn.never rfl (pi_enum (by rfl) TR.enumerate (pa_cons (pv 0) pa_nil)) (pg_tup rfl (pgs_cons (pg_name (i := 1) sc_file_fault.nd rfl (.inl rfl)) (pgs_cons (pg_name (i := 2) sc_file_fault.nd rfl (.inl rfl)) pgs_nil)))
      (pss_cons (ps_set (i := 3) sc_file_fault.nd rfl (.inl rfl) (pe_c c1 hr (pa_cons (pv 2) pa_nil)))
      (pss_one (ps_if (pt_cmp (pc_notN (pv 3))) (pss_one (ps_ret (pe_c c3 hr (pa_cons (pv 1) (pa_cons (pv 3) pa_nil))))) pss_nil))))
    (pss_one (ps_ret (pe_c c2 hr (pa_cons (pv 0) pa_nil)))), ?_⟩
  refine q_forE (K := W.K) (xs := xs) (ea_cons (ev_var rfl) ea_nil) hp (fun i σ' H' => ∃ (v1 v2 v3 : Option V), σ' = [some (.ref p), v1, v2, v3] ∧ Ex H H' ∧ fileFaultFrom i ls (ls.drop i) = fileFault ls ∧ ∀ j l, j < i → ls[j]? = some l → lineFault l = none)
    (fun H2 e2 => ⟨none, none, none, rfl, e2, rfl, fun j l hj => absurd hj (Nat.not_lt_zero _)⟩) (fun i σ' H' _ ⟨_, _, _, _, e, _⟩ => ex_l e hp) ?_ ?_
  · rintro i x σ' H' hx ⟨v1, v2, v3, rfl, e, eq, hno⟩ H2 e2
    obtain ⟨ad, l, rfl, hl, hA⟩ := hls.get hx
    rw [drop_more hl] at eq
    have sv : SpV (spLF W.K) [.ref ad] H2 (optV (lineFault l)) := fun H1 e1 Q q _ => ⟨ad, l, rfl, sq_of (((e.trans e2).trans e1) _ _ hA), hsz l (List.mem_of_getElem? hl), q⟩
    refine q_asg (ev_call (ea_cons (ev_var rfl) ea_nil) sv) fun H3 e3 => ?_
    cases hf : lineFault l with
    | some fl =>
      refine s_when (et_notN (o := some fl) (ev_var rfl)) (fun b H4 e4 => s_ret (ev_call (ea_cons (ev_var rfl) (ea_cons (x := vn fl) (ev_var rfl) ea_nil)) sv_told) fun H5 e5 => ?_) (fun b => by cases b)
      have step : fileFaultFrom i ls (l :: ls.drop (i + 1)) = some (toldFault i fl) := by
        rw [fileFaultFrom]
        simp only [hf]
      rw [step] at eq
      have g := q H5 ((((e.trans e2).trans e3).trans e4).trans e5)
      rw [← eq] at g
      exact g
    | none =>
      refine s_when (et_notN (o := none) (ev_var rfl)) (fun b => by cases b) (fun b H4 e4 => ?_)
      have step : fileFaultFrom i ls (l :: ls.drop (i + 1)) = fileFaultFrom (i + 1) ls (ls.drop (i + 1)) := by
        rw [fileFaultFrom]
        simp only [hf]
      rw [step] at eq
      refine ⟨some (vn i), some (.ref ad), some .non, rfl, ((e.trans e2).trans e3).trans e4, eq, fun j l' hj hl' => ?_⟩
      rcases Nat.lt_succ_iff_lt_or_eq.mp hj with hj | rfl
      · exact hno j l' hj hl'
      · rw [hl] at hl'
        cases hl'
        exact hf
  · rintro σ' H' ⟨v1, v2, v3, rfl, e, eq, hno⟩
    rw [hls.len, List.drop_length] at eq
    have hK : Keyed ls := fun l hl hk => by
      obtain ⟨j, hj⟩ := List.mem_iff_getElem?.mp hl
      exact lineFault_keyed (hno j l (by rw [hls.len]; exact (List.getElem?_eq_some_iff.mp hj).1) hj) hk
    have sv : SpV (spFaults W.K Keyed (keyFaultFrom 0 [])) [.ref p] H' (optI (keyFaultFrom 0 [] ls)) := fun H1 e1 Q q _ => ⟨p, xs, ls, rfl, ex_l (e.trans e1) hp, ex_lines (e.trans e1) hls, hlen, hK, q⟩
    refine s_ret (ev_call (ea_cons (ev_var rfl) ea_nil) sv) fun H2 e2 => ?_
    have g := q H2 (e.trans e2)
    rw [← eq] at g
    exact g
end Fo

set_option Elab.async false
set_option linter.all false
set_option maxRecDepth 100000
set_option maxHeartbeats 2000000
namespace Fo
open PySem PySem.Spec PyProof.Rows L2 Evl
structure TxS (K : PySem.W.Frag) (mg : Str → Option Value) : Prop where
  BLANK : ∃ a, Cn mg "BLANK" (.ref a) ∧ ∀ H, SqT K H a (iv [32])
  STOPS : ∃ a, Cn mg "STOPS" (.ref a) ∧ ∀ H, Dp K H (.ref a) (.tuple ([[33], [46], [63]].map pd))
  NO_STOP : Cn mg "NO_STOP" (vn 0)
  STOP : Cn mg "STOP" (vn 1)
  STOP_AND_BLANK : Cn mg "STOP_AND_BLANK" (vn 2)
theorem c_can_begin {W : Wd} (T : TxS W.K W.mg) (a : At W.K W.mg "can_begin" s_can_begin) (c2 : Cal W 1 "is_closing" (spThing W.K fun t => .bl (isClosing t))) : Cal W 2 "can_begin" (spThing W.K fun t => .bl (canBegin t)) := by
  refine cal a sc_can_begin (fun _ _ _ _ _ _ us hl => match us, hl with | [_], _ => rfl) (fun vs H Q E h => by obtain ⟨p, t, rfl, _⟩ := h; rfl) (fun f cdv A outer s H vs Q E hr h => ?_)
  obtain ⟨p, t, rfl, hp, q⟩ := h
  obtain ⟨ba, hb, hbt⟩ := T.BLANK
  refine ⟨_, pss_one (ps_ret (pe_and (pe_cmpR (op_neD hr.units) (pv 0) (pe_gc hb) (nomark _)) (pe_one (pe_not (pe_c c2 hr (pa_cons (pv 0) pa_nil)))))), ?_⟩
  exact s_ret (ev_andV (ev_op (ev_var rfl) ev_c (rv_neT hp (hbt _))) fun _ => ev_notV (ev_call (ea_cons (ev_var rfl) ea_nil) (sv_thing hp))) q
def spEnding (K : PySem.W.Frag) : Sp := fun vs H Q _ => ∃ (n : Nat) (p : Addr) (t : List Nat), vs = [vn n, .ref p] ∧ SqT K H p (iv t) ∧ RetV (vn (endingBehind n t)) H Q
theorem sv_ending {K : PySem.W.Frag} {H : Hp} {n : Nat} {p : Addr} {t : List Nat} (h : SqT K H p (iv t)) : SpV (spEnding K) [vn n, .ref p] H (vn (endingBehind n t)) := fun H1 e Q q _ => ⟨n, p, t, rfl, ex_t e h, q⟩
theorem c_ending {W : Wd} (T : TxS W.K W.mg) (a : At W.K W.mg "ending_behind" s_ending_behind) (c2 : Cal W 1 "is_closing" (spThing W.K fun t => .bl (isClosing t))) (c3 : Cal W 1 "is_alone" (spThing W.K fun t => .bl (isAlone t))) : Cal W 2 "ending_behind" (spEnding W.K) := by
  refine cal a sc_ending_behind (fun _ _ _ _ _ _ us hl => match us, hl with | [_, _], _ => rfl) (fun vs H Q E h => by obtain ⟨n, p, t, rfl, _⟩ := h; rfl) (fun f cdv A outer s H vs Q E hr h => ?_)
  obtain ⟨n, p, t, rfl, hp, q⟩ := h
  obtain ⟨ba, hb, hbt⟩ := T.BLANK
  obtain ⟨sa, hs, hst⟩ := T.STOPS
  have hu : (A.deeper (envOfC "ending_behind" (defScope s_ending_behind) s.heap.objs.size f cdv)).units + 66 < cLine := by have := hr.un; omega
  refine ⟨_, pss_cons (ps_if (pt_cmpR (op_inDT hu) (pv 1) (pe_gc hs) (by rfl)) (pss_one (ps_ret (pe_gc T.STOP))) pss_nil)
    (pss_cons (ps_if (pt_cmpR (op_eqD hr.units) (pv 1) (pe_gc hb) (nomark _)) (pss_one (ps_ret (pe_ifExp (pt_cmpR op_eq (pv 0) (pe_gc T.NO_STOP) (nomark _)) (pe_gc T.NO_STOP) (pe_gc T.STOP_AND_BLANK)))) pss_nil)
    (pss_one (ps_ret (pe_ifExp (PW.pt (pw_or (pt_val (pe_c c2 hr (pa_cons (pv 1) pa_nil))) (pw_or1 (pt_val (pe_c c3 hr (pa_cons (pv 1) pa_nil)))))) (pv 0) (pe_gc T.NO_STOP))))), ?_⟩
  have inS : ∀ {H1 : Hp}, Ex H H1 → RV (rInDT W.K) (.ref p) (.ref sa) H1 (.bl ([[33], [46], [63]].contains t)) := fun {H1} e1 H2 e2 Q q =>
    ⟨pd t, _, dp_pd (ex_t (e1.trans e2) hp), hst H2, shaped_pd _, canAll_pds _, by rw [any_pds]; exact q H2 (Ex.refl H2)⟩
  refine q_when (et_test (ev_op (ev_var rfl) ev_c (inS (Ex.refl H)))) (fun b1 H1 e1 => s_ret (ev_is ev_c ?_) fun H2 e2 => q H2 (e1.trans e2)) (fun b1 H1 e1 => ?_)
  · rw [endingBehind, if_pos b1]
  have nb1 : ¬ ([[33], [46], [63]].contains t = true) := by rw [b1]; decide
  refine q_when (et_test (ev_op (ev_var rfl) ev_c (rv_eqT (ex_t e1 hp) (hbt _)))) (fun b2 H2 e2 => s_ret (ev_if (et_test (ev_eqn (ev_var rfl) ev_c)) (fun b3 => ev_is ev_c ?_) (fun b3 => ev_is ev_c ?_)) fun H3 e3 => q H3 ((e1.trans e2).trans e3)) (fun b2 H2 e2 => ?_)
  · rw [endingBehind, if_neg nb1, if_pos (of_decide_eq_true b2), if_pos (of_decide_eq_true b3)]
  · rw [endingBehind, if_neg nb1, if_pos (of_decide_eq_true b2), if_neg (of_decide_eq_false b3)]
  have e02 := e1.trans e2
  refine s_ret (ev_if (et_or (et_B (ev_call (ea_cons (ev_var rfl) ea_nil) (sv_thing (ex_t e02 hp)))) fun _ => et_B (ev_call (ea_cons (ev_var rfl) ea_nil) (sv_thing (ex_t e02 hp)))) (fun b4 => ev_is (ev_var rfl) ?_) (fun b4 => ev_is ev_c ?_)) fun H3 e3 => q H3 (e02.trans e3)
  · rw [endingBehind, if_neg nb1, if_neg (of_decide_eq_false b2), if_pos b4]
  · rw [endingBehind, if_neg nb1, if_neg (of_decide_eq_false b2), if_neg (by rw [b4]; decide)]
def spDepth (K : PySem.W.Frag) : Sp := fun vs H Q _ => ∃ (n : Int) (p : Addr) (t : List Nat), vs = [.int n, .ref p] ∧ SqT K H p (iv t) ∧ RetV (.int (depthBehind n t)) H Q
theorem sv_depth {K : PySem.W.Frag} {H : Hp} {n : Int} {p : Addr} {t : List Nat} (h : SqT K H p (iv t)) : SpV (spDepth K) [.int n, .ref p] H (.int (depthBehind n t)) := fun H1 e Q q _ => ⟨n, p, t, rfl, ex_t e h, q⟩
theorem c_depth {W : Wd} (a : At W.K W.mg "depth_behind" s_depth_behind) (c1 : Cal W 1 "is_opening" (spThing W.K fun t => .bl (isOpening t))) (c2 : Cal W 1 "is_closing" (spThing W.K fun t => .bl (isClosing t))) : Cal W 2 "depth_behind" (spDepth W.K) := by
  refine cal a sc_depth_behind (fun _ _ _ _ _ _ us hl => match us, hl with | [_, _], _ => rfl) (fun vs H Q E h => by obtain ⟨n, p, t, rfl, _⟩ := h; rfl) (fun f cdv A outer s H vs Q E hr h => ?_)
  obtain ⟨n, p, t, rfl, hp, q⟩ := h
  refine ⟨_, pss_cons (ps_if (pt_val (pe_c c1 hr (pa_cons (pv 1) pa_nil))) (pss_one (ps_ret (pe_op op_add (pv 0) pe_int))) pss_nil)
    (pss_one (ps_ret (pe_ifExp (pt_val (pe_c c2 hr (pa_cons (pv 1) pa_nil))) (pe_op op_sub (pv 0) pe_int) (pv 0)))), ?_⟩
  refine q_when (et_B (ev_call (ea_cons (ev_var rfl) ea_nil) (sv_thing hp))) (fun b1 H1 e1 => s_ret (ev_is (ev_op (ev_var rfl) ev_c rv_I0) ?_) fun H2 e2 => q H2 (e1.trans e2)) (fun b1 H1 e1 => ?_)
  · rw [depthBehind, if_pos b1]
  refine s_ret (ev_if (et_B (ev_call (ea_cons (ev_var rfl) ea_nil) (sv_thing (ex_t e1 hp)))) (fun b2 => ev_is (ev_op (ev_var rfl) ev_c rv_I0) ?_) (fun b2 => ev_is (ev_var rfl) ?_)) fun H3 e3 => q H3 (e1.trans e3)
  · rw [depthBehind, if_neg (by rw [b1]; decide), if_pos b2]
  · rw [depthBehind, if_neg (by rw [b1]; decide), if_neg (by rw [b2]; decide)]
/-- sentences_of -/
def spSents (K : PySem.W.Frag) : Sp := fun vs H Q _ => ∃ (p : Addr) (t : List Nat), vs = [.ref p] ∧ Sq K H p (iv t) ∧ t.length ≤ 1000 ∧ RetTs K (sentencesOf t) H Q
theorem c_sentences_of {W : Wd} (T : TxS W.K W.mg) (TL : TxL W.K W.mg) (a : At W.K W.mg "sentences_of" s_sentences_of) (c1 : Cal W 2 "things_of" (spThings W.K)) (c2 : Cal W 2 "can_begin" (spThing W.K fun t => .bl (canBegin t))) (c3 : Cal W 2 "ending_behind" (spEnding W.K)) (c4 : Cal W 2 "depth_behind" (spDepth W.K)) :
    Cal W 3 "sentences_of" (spSents W.K) := by
  refine cal a sc_sentences_of (fun _ _ _ _ _ _ us hl => match us, hl with | [_], _ => rfl) (fun vs H Q E h => by obtain ⟨p, t, rfl, _⟩ := h; rfl) (fun f cdv A outer s H vs Q E hr h => ?_)
  obtain ⟨p, t, rfl, hp, hlen, q⟩ := h
  refine ⟨_, pss_cons (ps_set (i := 1) sc_sentences_of.nd rfl (.inl rfl) (pe_lst pa_nil))
    (pss_cons (ps_set (i := 2) sc_sentences_of.nd rfl (.inl rfl) (pe_lst pa_nil))
    (pss_cons (ps_set (i := 3) sc_sentences_of.nd rfl (.inl rfl) pe_int)
    (pss_cons (ps_set (i := 4) sc_sentences_of.nd rfl (.inl rfl) (pe_gc T.NO_STOP))
    (pss_cons (ps_for PassesOwn.never rfl (pi_list (pe_c c1 hr (pa_cons (pv 0) pa_nil))) (pg_name (i := 5) sc_sentences_of.nd rfl (.inl rfl))
      (pss_cut (ps_if (PW.pt (pw_and (pt_cmpR op_eq (pv 3) pe_int (nomark _)) (pw_and (pt_cmpR op_eq (pv 4) (pe_gc T.STOP_AND_BLANK) (nomark _)) (pw_and1 (pt_val (pe_c c2 hr (pa_cons (pv 5) pa_nil)))))))
          (pss_cons (ps_expr (pe_bm PySem.F.plainAttrs_list PySem.F.slot_list_append PySem.F.type_list_append mt_append (pv 1) (pa_cons (pe_callTy call_tuple_of (by rfl) TL.tuple PyProof.Rows.boot_tuple (pa_cons (pv 2) pa_nil)) pa_nil)))
          (pss_cons (ps_set (i := 2) sc_sentences_of.nd rfl (.inl rfl) (pe_lst pa_nil))
          (pss_one (ps_set (i := 4) sc_sentences_of.nd rfl (.inl rfl) (pe_gc T.NO_STOP))))) pss_nil)
      (pss_cons (ps_expr (pe_bm PySem.F.plainAttrs_list PySem.F.slot_list_extend PySem.F.type_list_extend mt_extendT (pv 2) (pa_cons (pv 5) pa_nil)))
      (pss_cons (ps_set (i := 4) sc_sentences_of.nd rfl (.inl rfl) (pe_c c3 hr (pa_cons (pv 4) (pa_cons (pv 5) pa_nil))))
      (pss_one (ps_set (i := 3) sc_sentences_of.nd rfl (.inl rfl) (pe_c c4 hr (pa_cons (pv 3) (pa_cons (pv 5) pa_nil)))))))))
    (pss_cons (ps_if (pt_tru (pv 2)) (pss_one (ps_expr (pe_bm PySem.F.plainAttrs_list PySem.F.slot_list_append PySem.F.type_list_append mt_append (pv 1) (pa_cons (pe_callTy call_tuple_of (by rfl) TL.tuple PyProof.Rows.boot_tuple (pa_cons (pv 2) pa_nil)) pa_nil)))) pss_nil)
    (pss_one (ps_ret (pv 1)))))))), ?_⟩
  refine q_asgL (el_lst ea_nil (by decide)) fun F H1 hF e1 h1 => q_asgL (el_lst ea_nil (by decide)) fun C H2 hC e2 h2 => q_asg ev_c fun H3 e3 => q_asg ev_c fun H4 e4 => ?_
  have hC0 : H C = none := fresh_back e1 hC
  have hFC : F ≠ C := ne_of_none h1 hC
  have e04 : Ex H H4 := ((e1.trans e2).trans e3).trans e4
  refine ⟨.ref p, rfl, p, t, rfl, hp.ex e04, hlen, fun L vs H5 hL e5 hl5 hts => ⟨L, rfl, ⟨vs, sq_of hl5⟩, ?_⟩⟩
  have hlt : (thingsOf t).length ≤ 1000 := Nat.le_trans (things_len t) hlen
  refine for_list (K := W.K) (xs := vs) (fun i σ' H' => ∃ (C : Addr) (cur : List Nat) (d : Int) (e : Nat) (fvs : List V) (fs : List (List Nat)) (v5 : Option V), σ' = [some (.ref p), some (.ref F), some (.ref C), some (.int d), some (vn e), v5] ∧ Ex H H' ∧ H' L = some (.lst vs) ∧ TupsAt W.K H' vs (thingsOf t) ∧
      H C = none ∧ C ≠ F ∧ C ≠ L ∧ F ≠ L ∧ H' F = some (.lst fvs) ∧ H' C = some (.lst (iv cur)) ∧ TupsAt W.K H' fvs fs ∧ fs ++ sentGo cur d e ((thingsOf t).drop i) = sentencesOf t ∧ fs.length ≤ i ∧ cur.length ≤ 4 * i)
    ⟨C, [], 0, 0, [], [], none, rfl, e04.trans e5, hl5, hts, hC0, Ne.symm hFC, ne_of_none ((e3.trans e4) _ _ h2) hL, ne_of_none (((e2.trans e3).trans e4) _ _ h1) hL, e5 _ _ (((e2.trans e3).trans e4) _ _ h1), e5 _ _ ((e3.trans e4) _ _ h2), .nil, rfl, Nat.le_refl _, Nat.le_refl _⟩
    (fun i σ' H' _ ⟨_, _, _, _, _, _, _, _, _, hl, _⟩ => sq_of hl) ?_ ?_
  · rintro i x σ' H' hx ⟨C, cur, d, e, fvs, fs, v5, rfl, ex, hl, hts, hC0, hCF, hCL, hFL, hf, hc, hfs, eq, hfl, hcl⟩
    obtain ⟨ad, l, rfl, hlx, hT⟩ := hts.get hx
    have hi : i < (thingsOf t).length := (List.getElem?_eq_some_iff.mp hlx).1
    have hl4 := (things_size t l (List.mem_of_getElem? hlx)).2
    rw [drop_more hlx] at eq
    refine q_cut (M := fun σ2 H2 => ∃ (C : Addr) (cur : List Nat) (e' : Nat) (fvs : List V) (fs : List (List Nat)), σ2 = [some (.ref p), some (.ref F), some (.ref C), some (.int d), some (vn e'), some (.ref ad)] ∧ Ex H H2 ∧ H2 L = some (.lst vs) ∧ TupsAt W.K H2 vs (thingsOf t) ∧
      H C = none ∧ C ≠ F ∧ C ≠ L ∧ H2 F = some (.lst fvs) ∧ H2 C = some (.lst (iv cur)) ∧ TupsAt W.K H2 fvs fs ∧ fs ++ sentGo (cur ++ l) (depthBehind d l) (endingBehind e' l) ((thingsOf t).drop (i + 1)) = sentencesOf t ∧ fs.length ≤ i + 1 ∧ cur.length ≤ 4 * i ∧ H2 ad = some (.tup (iv l))) ?_ ?_
    · refine s_when (et_is (et_and (et_test (ev_is (ev_op (ev_var rfl) ev_c (rv_eq rfl)) (show V.bl (decide (V.int d = V.int 0)) = V.bl (decide (d = 0)) from congrArg V.bl (decide_eq_decide.mpr ⟨fun h => by injection h, fun h => by rw [h]⟩)))) fun _ => et_and (et_test (ev_eqn (ev_var rfl) ev_c)) fun _ => et_B (ev_call (ea_cons (ev_var rfl) ea_nil) (sv_thing (st_of hT)))) rfl) (fun b H6 e6 => ?_) (fun b H6 e6 => ?_)
      · rw [sentGo, if_pos b] at eq
        refine q_appP (K := W.K) (e6 _ _ hf) (ev_var rfl) (ep_tuple (eq_var (a := C) rfl (.inl (sq_of (e6 _ _ hc))))) (by rw [hfs.len]; omega) fun tp H7 e7 htp hf7 => q_asgL (el_lst ea_nil (by decide)) fun C' H8 hC' e8 h8 => s_asg ev_c fun H9 e9 => ?_
        have e67 := e6.trans e7
        have hE : Ex H (upd H7 F (.lst (fvs ++ [.ref tp]))) := Ex.mut (ex.trans e67) hF
        have hL7 : upd H7 F (.lst (fvs ++ [.ref tp])) L = some (.lst vs) := by rw [upd_ne (Ne.symm hFL)]; exact e67 _ _ hl
        have hts7 : TupsAt W.K (upd H7 F (.lst (fvs ++ [.ref tp]))) vs (thingsOf t) := tups_upd hf7 (ex_tups e67 hts)
        have e89 := e8.trans e9
        refine ⟨C', [], 0, fvs ++ [.ref tp], fs ++ [cur], rfl, hE.trans e89, e89 _ _ hL7, ex_tups e89 hts7, fresh_back hE hC', Ne.symm (ne_of_none upd_same hC'), Ne.symm (ne_of_none hL7 hC'), e89 _ _ upd_same, e9 _ _ h8, ?_, ?_, ?_, Nat.zero_le _, ?_⟩
        · exact ex_tups e89 ((tups_upd hf7 (ex_tups e67 hfs)).snoc (tup_upd hf7 htp))
        · rw [← eq, List.append_assoc] <;> rfl
        · rw [List.length_append]
          show fs.length + 1 ≤ _
          omega
        · exact e89 _ _ (tup_upd hf7 (e67 _ _ hT))
      · rw [sentGo, if_neg (by rw [b]; decide)] at eq
        exact ⟨C, cur, e, fvs, fs, rfl, ex.trans e6, e6 _ _ hl, ex_tups e6 hts, hC0, hCF, hCL, e6 _ _ hf, e6 _ _ hc, ex_tups e6 hfs, eq, by omega, hcl, e6 _ _ hT⟩
    · rintro σ2 H2 ⟨C, cur, e', fvs, fs, rfl, ex, hl, hts, hC0, hCF, hCL, hf, hc, hfs, eq, hfl, hcl, hT⟩
      refine q_ext (K := W.K) hc (ev_var rfl) (ev_var (i := 5) rfl) (st_of hT) (by rw [iv_len, iv_len]; omega) fun H6 e6 => ?_
      have hc6 : H6 C = some (.lst (iv cur)) := e6 _ _ hc
      have hT7 : upd H6 C (.lst (iv cur ++ iv l)) ad = some (.tup (iv l)) := tup_upd hc6 (e6 _ _ hT)
      refine q_asg (ev_call (ea_cons (ev_var rfl) (ea_cons (ev_var rfl) ea_nil)) (sv_ending (st_of hT7))) fun H8 e8 => s_asg (ev_call (ea_cons (ev_var rfl) (ea_cons (ev_var rfl) ea_nil)) (sv_depth (st_of (e8 _ _ hT7)))) fun H9 e9 => ?_
      have e89 := e8.trans e9
      refine ⟨C, cur ++ l, depthBehind d l, endingBehind e' l, fvs, fs, some (.ref ad), rfl, (Ex.mut (ex.trans e6) hC0).trans e89, e89 _ _ ?_, ex_tups e89 (tups_upd hc6 (ex_tups e6 hts)), hC0, hCF, hCL, hFL, e89 _ _ ?_, e89 _ _ ?_, ex_tups e89 (tups_upd hc6 (ex_tups e6 hfs)), eq, hfl, ?_⟩
      · rw [upd_ne (Ne.symm hCL)]
        exact e6 _ _ hl
      · rw [upd_ne (Ne.symm hCF)]
        exact e6 _ _ hf
      · rw [upd_same, iv_app]
      · rw [List.length_append]
        omega
  · rintro σ' H' ⟨C, cur, d, e, fvs, fs, v5, rfl, ex, hl, hts, hC0, hCF, hCL, hFL, hf, hc, hfs, eq, hfl, hcl⟩
    rw [hts.len, List.drop_length] at eq
    rw [hts.len] at hfl hcl
    have fin : ∀ (fvs' : List V) (fs' : List (List Nat)) (H6 : Hp), Ex H H6 → H6 F = some (.lst fvs') → TupsAt W.K H6 fvs' fs' → fs' = sentencesOf t → ∀ {σ : L2.St}, σ[1]? = some (some (.ref F)) → tRet (tVar 1) { nx := fun _ H' => Q .non H', rt := Q } σ H6 := fun fvs' fs' H6 e6 h6 ht6 ef σ hσ =>
      s_ret (ev_var hσ) fun H7 e7 => q F fvs' H7 hF (e6.trans e7) (e7 _ _ h6) (by rw [← ef]; exact ex_tups e7 ht6)
    refine q_when (et_is (et_tru (K := W.K) (ev_var rfl) (.inl (sq_of hc))) (show (!(iv cur).isEmpty) = !decide (cur = []) by cases cur <;> rfl)) (fun b H6 e6 => ?_) (fun b H6 e6 => ?_)
    · have hne : ¬ cur = [] := by simpa using b
      rw [sentGo, if_neg hne] at eq
      refine s_appP (K := W.K) (e6 _ _ hf) (ev_var rfl) (ep_tuple (eq_var (a := C) rfl (.inl (sq_of (e6 _ _ hc))))) (by rw [hfs.len]; omega) fun tp H7 e7 htp hf7 => ?_
      exact fin _ _ _ (Ex.mut (ex.trans (e6.trans e7)) hF) upd_same ((tups_upd hf7 (ex_tups (e6.trans e7) hfs)).snoc (tup_upd hf7 htp)) eq rfl
    · have hne : cur = [] := by simpa using b
      rw [sentGo, if_pos hne, List.append_nil] at eq
      exact fin _ _ _ (ex.trans e6) (e6 _ _ hf) (ex_tups e6 hfs) eq rfl
end Fo

set_option Elab.async false
set_option linter.all false
set_option maxRecDepth 100000
set_option maxHeartbeats 2000000
namespace Fo
open PySem PySem.Spec PyProof.Rows L2 Evl
/-! ### an object's attributes -/
theorem lk_here {k : Str} {v : V} {r : List (Str × V)} : List.lookup k ((k, v) :: r) = some v := by
  have e : (k == k) = true := beq_self_eq_true k
  simp only [List.lookup, e]
theorem lk_past {k g : Str} {v : V} {r : List (Str × V)} (h : (k == g) = false) : List.lookup k ((g, v) :: r) = List.lookup k r := by
  simp only [List.lookup, h]
theorem put_here {f : Str} {v x : V} {r : List (Str × V)} : putF f v ((f, x) :: r) = (f, v) :: r := if_pos rfl
theorem put_past {f g : Str} {v x : V} {r : List (Str × V)} (h : ¬ g = f) : putF f v ((g, x) :: r) = (g, x) :: putF f v r := if_neg h
/-- all but what stands at a is as it was -/
def Ch (a : Addr) (H H' : Hp) : Prop := ∀ b o, H b = some o → b ≠ a → H' b = some o
theorem Ch.of_ex {a : Addr} {H H' : Hp} (e : Ex H H') : Ch a H H' := fun b o h _ => e b o h
theorem Ch.refl (a : Addr) (H : Hp) : Ch a H H := fun _ _ h _ => h
theorem Ch.trans {a : Addr} {H H1 H2 : Hp} (x : Ch a H H1) (y : Ch a H1 H2) : Ch a H H2 := fun b o h n => y b o (x b o h n) n
theorem Ch.upd {a : Addr} {H : Hp} {o : HO} : Ch a H (upd H a o) := fun b u h n => by rw [upd_ne n]; exact h
theorem Ch.sql {K : PySem.W.Frag} {a c : Addr} {H H' : Hp} {C dx : Addr} {fs : List (Str × V)} {xs : List V} (x : Ch a H H') (ha : H a = some (.ins C dx fs)) (h : SqL K H c xs) : SqL K H' c xs := by
  rcases h with (h | ⟨o, h⟩) | h
  · exact .inl (.inl (x _ _ h (ne_of h ha (fun z => nomatch z))))
  · exact .inl (.inr ⟨o, x _ _ h (ne_of h ha (fun z => nomatch z))⟩)
  · exact .inr h
/-! ### Reader -/
structure TxD (K : PySem.W.Frag) (mg : Str → Option Value) (C : Addr) : Prop where
  cl : Cls K C
  nN : NoAttr K C "numbers"
  nP : NoAttr K C "place"
def rF (c : Addr) (i : Nat) : List (Str × V) := [("numbers", .ref c), ("place", vn i)]
def RdAt (C : Addr) (H : Hp) (a c : Addr) (i : Nat) : Prop := ∃ dx, H a = some (.ins C dx (rF c i))
theorem rF_n (c : Addr) (i : Nat) : (rF c i).lookup ("numbers" : Str) = some (.ref c) := lk_here
theorem rF_p (c : Addr) (i : Nat) : (rF c i).lookup ("place" : Str) = some (vn i) := (lk_past (by decide +kernel)).trans lk_here
theorem rF_no (c : Addr) (i : Nat) {m : Str} (h1 : (m == ("numbers" : Str)) = false) (h2 : (m == ("place" : Str)) = false) : (rF c i).lookup m = none := (lk_past h1).trans ((lk_past h2).trans rfl)
theorem rF_put (c : Addr) (i j : Nat) : putF "place" (vn j) (rF c i) = rF c j := (put_past (by decide +kernel)).trans (congrArg _ put_here)
theorem RdAt.ch {C a c b : Addr} {i : Nat} {H H' : Hp} (h : RdAt C H a c i) (x : Ch b H H') (n : a ≠ b) : RdAt C H' a c i := let ⟨dx, q⟩ := h; ⟨dx, x _ _ q n⟩
theorem RdAt.ex {C a c : Addr} {i : Nat} {H H' : Hp} (h : RdAt C H a c i) (x : Ex H H') : RdAt C H' a c i := let ⟨dx, q⟩ := h; ⟨dx, x _ _ q⟩
theorem ev_fld {K : PySem.W.Frag} {σ : L2.St} {H : Hp} {ta : TE} {a C dx : Addr} {fs : List (Str × V)} {f : Str} {v : V} (ha : Ev ta σ H (.ref a)) (h : H a = some (.ins C dx fs)) (c : Cls K C) (n : NoAttr K C f) (l : fs.lookup f = some v) : Ev (tFld K ta f) σ H v := fun H1 e Q q =>
  ha H1 e _ fun H2 e2 => ⟨a, C, dx, fs, v, rfl, (e.trans e2) _ _ h, c, n, l, q H2 e2⟩
def spRInit (C : Addr) : Sp := fun vs H Q _ => ∃ (p dx c : Addr), vs = [.ref p, .ref c] ∧ H p = some (.ins C dx []) ∧ ∀ H' : Hp, RdAt C H' p c 0 → Ch p H H' → Q .non H'
theorem c_reader_init {W : Wd} {C : Addr} (T : TxD W.K W.mg C) (g : W.mg "Reader" = some (.ref C)) (a : IAt W.K C "Reader.__init__" s_Reader_init) : Mak W 1 "Reader" C (spRInit C) := by
  refine mak a g sc_Reader_init (fun _ _ _ _ _ _ us hl => match us, hl with | [_, _], _ => rfl) (fun vs H Q E h => by obtain ⟨p, dx, c, rfl, _⟩ := h; rfl) (fun f cdv A outer s H vs Q E hr h => ?_)
  obtain ⟨p, dx, c, rfl, hp, k⟩ := h
  refine ⟨_, pss_cons (ps_fld (pv 0) (pv 1) rfl) (pss_one (ps_fld (pv 0) pe_int rfl)), ?_⟩
  refine ⟨_, rfl, _, rfl, p, C, dx, [], rfl, hp, T.cl, T.nN, (by show 0 < 1000; decide), ?_⟩
  refine ⟨_, rfl, p, C, dx, _, rfl, upd_same, T.cl, T.nP, (by show 1 < 1000; decide), ?_⟩
  refine k _ ⟨dx, upd_same.trans (congrArg (fun q => some (HO.ins C dx q)) ?_)⟩ (Ch.upd.trans Ch.upd)
  exact put_past (by decide +kernel)
def spEnd (K : PySem.W.Frag) (C : Addr) : Sp := fun vs H Q _ => ∃ (a c : Addr) (l : List Nat) (i : Nat), vs = [.ref a] ∧ RdAt C H a c i ∧ SqL K H c (iv l) ∧ RetV (.bl (decide (i = l.length))) H Q
theorem c_at_end {W : Wd} {C : Addr} (T : TxD W.K W.mg C) (TR : TxR W.K W.mg) (a : MAt W.K C "is_at_end" "Reader.is_at_end" s_Reader_is_at_end) : Met W 1 C "is_at_end" (spEnd W.K C) := by
  refine met T.cl a sc_Reader_is_at_end (fun _ _ _ _ _ _ us hl => match us, hl with | [_], _ => rfl) (fun vs H Q E h => by obtain ⟨p, c, l, i, rfl, _⟩ := h; rfl) (fun f cdv A outer s H vs Q E hr h => ?_)
  obtain ⟨p, c, l, i, rfl, ⟨dx, hp⟩, hc, q⟩ := h
  refine ⟨_, pss_one (ps_ret (pe_cmpR op_eq (pe_fld (pv 0) rfl) (pe_callB call_len_seq (by rfl) TR.len PySem.boot_len (pa_cons (pe_fld (pv 0) rfl) pa_nil)) (nomark _))), ?_⟩
  refine s_ret (ev_is (ev_eqn (ev_fld (ev_var rfl) hp T.cl T.nP (rF_p c i)) (ev_lenQ (K := W.K) (ev_fld (ev_var rfl) hp T.cl T.nN (rF_n c i)) (.inl hc))) ?_) q
  rw [iv_len]
def spTake (K : PySem.W.Frag) (C : Addr) : Sp := fun vs H Q _ => ∃ (a c : Addr) (l : List Nat) (i n : Nat), vs = [.ref a] ∧ RdAt C H a c i ∧ SqL K H c (iv l) ∧ l[i]? = some n ∧ ∀ H', RdAt C H' a c (i + 1) → Ch a H H' → Q (vn n) H'
theorem c_take_number {W : Wd} {C : Addr} (T : TxD W.K W.mg C) (a : MAt W.K C "take_number" "Reader.take_number" s_Reader_take_number) : Met W 1 C "take_number" (spTake W.K C) := by
  refine met T.cl a sc_Reader_take_number (fun _ _ _ _ _ _ us hl => match us, hl with | [_], _ => rfl) (fun vs H Q E h => by obtain ⟨p, c, l, i, n, rfl, _⟩ := h; rfl) (fun f cdv A outer s H vs Q E hr h => ?_)
  obtain ⟨p, c, l, i, n, rfl, ⟨dx, hp⟩, hc, hn, k⟩ := h
  refine ⟨_, pss_cons (ps_set (i := 1) sc_Reader_take_number.nd rfl (.inl rfl) (pe_ix ix_list (pe_fld (pv 0) rfl) (pe_fld (pv 0) rfl) (fun _ _ => rfl)))
    (pss_cons (ps_fldaug (pv 0) pe_int in_add) (pss_one (ps_ret (pv 1)))), ?_⟩
  refine q_asg (ev_op (ev_fld (ev_var rfl) hp T.cl T.nN (rF_n c i)) (ev_fld (ev_var rfl) hp T.cl T.nP (rF_p c i)) (rv_ixL hc (atI_nat (get_iv hn)))) fun H1 e1 => ?_
  refine ⟨_, rfl, p, C, dx, _, vn i, rfl, e1 _ _ hp, T.cl, T.nP, rF_p c i, ⟨_, _, rfl, rfl, dx, _, e1 _ _ hp, (by show 2 < 1000; decide), ?_⟩⟩
  refine s_ret (ev_var rfl) fun H2 e2 => k H2 ⟨dx, e2 _ _ (upd_same.trans (congrArg (fun q => some (HO.ins C dx q)) ?_))⟩ (((Ch.of_ex e1).trans Ch.upd).trans (Ch.of_ex e2))
  exact rF_put c i (i + 1)
def spRow (K : PySem.W.Frag) (C : Addr) : Sp := fun vs H Q _ => ∃ (a c : Addr) (l : List Nat) (i n : Nat), vs = [.ref a] ∧ RdAt C H a c i ∧ SqL K H c (iv l) ∧ l[i]? = some n ∧
  ∀ p H', H p = none → RdAt C H' a c (i + 1 + n) → Ch a H H' → H' p = some (.lst (iv ((l.drop (i + 1)).take n))) → Q (.ref p) H'
theorem c_take_row {W : Wd} {C : Addr} (T : TxD W.K W.mg C) (a : MAt W.K C "take_row" "Reader.take_row" s_Reader_take_row) (c1 : Met W 1 C "take_number" (spTake W.K C)) : Met W 2 C "take_row" (spRow W.K C) := by
  refine met T.cl a sc_Reader_take_row (fun _ _ _ _ _ _ us hl => match us, hl with | [_], _ => rfl) (fun vs H Q E h => by obtain ⟨p, c, l, i, n, rfl, _⟩ := h; rfl) (fun f cdv A outer s H vs Q E hr h => ?_)
  obtain ⟨p, c, l, i, n, rfl, ⟨dx, hp⟩, hc, hn, k⟩ := h
  refine ⟨_, pss_cons (ps_set (i := 1) sc_Reader_take_row.nd rfl (.inl rfl) (pe_mt0 c1 hr (pv 0)))
    (pss_cons (ps_set (i := 2) sc_Reader_take_row.nd rfl (.inl rfl) (pe_slice sl_list (pe_fld (pv 0) rfl) (po_some (pe_fld (pv 0) rfl)) (po_some (pe_op op_add (pe_fld (pv 0) rfl) (pv 1)))))
    (pss_cons (ps_fldaug (pv 0) (pv 1) in_add) (pss_one (ps_ret (pv 2))))), ?_⟩
  refine ⟨_, rfl, p, dx, _, rfl, hp, rF_no c i (by decide +kernel) (by decide +kernel), p, c, l, i, n, rfl, ⟨dx, hp⟩, hc, hn, fun H1 ⟨dx1, hp1⟩ ch1 => ?_⟩
  have hc1 : SqL W.K H1 c (iv l) := ch1.sql hp hc
  refine q_asgL (el_sl (K := W.K) (a := c) (xs := iv l) (ev_fld (ev_var rfl) hp1 T.cl T.nN (rF_n c _)) (eo_some (ev_fld (ev_var rfl) hp1 T.cl T.nP (rF_p c _))) (eo_some (ev_addn (ev_fld (ev_var rfl) hp1 T.cl T.nP (rF_p c _)) (ev_var rfl))) hc1) fun r H2 hr2 e2 h2 => ?_
  refine ⟨_, rfl, p, C, dx1, _, vn (i + 1), rfl, e2 _ _ hp1, T.cl, T.nP, rF_p c _, ⟨_, rfl, _, _, rfl, rfl, dx1, _, e2 _ _ hp1, (by show 2 < 1000; decide), ?_⟩⟩
  have hrp : r ≠ p := Ne.symm (ne_of_none hp1 hr2)
  have hr0 : H r = none := by
    cases q : H r with
    | none => rfl
    | some o =>
      rw [ch1 r o q hrp] at hr2
      cases hr2
  refine s_ret (ev_var rfl) fun H3 e3 => k r H3 hr0 ⟨dx1, e3 _ _ (upd_same.trans (congrArg (fun q => some (HO.ins C dx1 q)) ?_))⟩ (((ch1.trans (Ch.of_ex e2)).trans Ch.upd).trans (Ch.of_ex e3)) ?_
  · exact rF_put c (i + 1) (i + 1 + n)
  · refine e3 _ _ ?_
    rw [upd_ne hrp, h2, cut_nat, show i + 1 + n - (i + 1) = n by omega, iv_take, iv_drop]
end Fo

set_option linter.all false
/-! Tables: keys and lists of numbers, in an order. -/
namespace Fo
section
variable {α : Type} [DecidableEq α]
def valA (l : List (α × List Nat)) (k : α) : Option (List Nat) := (l.find? fun x => decide (x.1 = k)).map (·.2)
def putA (l : List (α × List Nat)) (k : α) (s : List Nat) : List (α × List Nat) :=
  if (l.any fun x => decide (x.1 = k)) = true then l.map (fun x => if x.1 = k then (x.1, s) else x) else l ++ [(k, s)]
def dropA (l : List (α × List Nat)) (k : α) : List (α × List Nat) := l.filter fun x => decide (x.1 ≠ k)
theorem valA_nil {k : α} : valA ([] : List (α × List Nat)) k = none := rfl
theorem valA_pos {p : α × List Nat} {r : List (α × List Nat)} {k : α} (e : p.1 = k) : valA (p :: r) k = some p.2 := by simp [valA, List.find?_cons, e]
theorem valA_neg {p : α × List Nat} {r : List (α × List Nat)} {k : α} (e : ¬ p.1 = k) : valA (p :: r) k = valA r k := by simp [valA, List.find?_cons, e]
theorem valA_any (k : α) : ∀ l : List (α × List Nat), (l.any fun x => decide (x.1 = k)) = (valA l k).isSome
  | [] => rfl
  | p :: r => by
    rw [List.any_cons]
    by_cases e : p.1 = k
    · simp only [valA_pos e, decide_eq_true e, Bool.true_or, Option.isSome_some]
    · rw [valA_neg e, decide_eq_false e, Bool.false_or]; exact valA_any k r
theorem putA_new {l : List (α × List Nat)} {k : α} (s : List Nat) (h : valA l k = none) : putA l k s = l ++ [(k, s)] := by
  unfold putA
  rw [valA_any, h]
  exact if_neg (by decide)
theorem length_putA (l : List (α × List Nat)) (k : α) (s : List Nat) : (putA l k s).length ≤ l.length + 1 := by
  unfold putA
  split
  · rw [List.length_map]; omega
  · rw [List.length_append, List.length_cons, List.length_nil]; omega
end
theorem valA_none {α : Type} [DecidableEq α] {k : α} : ∀ {l : List (α × List Nat)}, (∀ x ∈ l, x.1 ≠ k) → valA l k = none
  | [], _ => rfl
  | x :: l, h => by
    rw [valA_neg (h x (List.mem_cons_self ..))]
    exact valA_none fun y hy => h y (List.mem_cons_of_mem _ hy)
section
variable {α : Type} [DecidableEq α]
theorem valA_app (k : α) : ∀ (a b : List (α × List Nat)), valA (a ++ b) k = (valA a k).or (valA b k)
  | [], b => by rw [List.nil_append, valA_nil, Option.none_or]
  | x :: a, b => by
    rw [List.cons_append]
    by_cases e : x.1 = k
    · rw [valA_pos e, valA_pos e, Option.some_or]
    · rw [valA_neg e, valA_neg e, valA_app k a b]
theorem valA_some {k : α} {s : List Nat} : ∀ {l : List (α × List Nat)}, valA l k = some s → (k, s) ∈ l
  | [], h => by cases h
  | x :: l, h => by
    by_cases e : x.1 = k
    · rw [valA_pos e] at h
      injection h with h
      rw [← e, ← h]
      exact List.mem_cons_self ..
    · rw [valA_neg e] at h
      exact List.mem_cons_of_mem _ (valA_some h)
theorem valA_mem {k : α} {s : List Nat} : ∀ {l : List (α × List Nat)}, (l.map (·.1)).Nodup → (k, s) ∈ l → valA l k = some s
  | x :: l, nd, h => by
    rw [List.map_cons, List.nodup_cons] at nd
    rcases List.mem_cons.mp h with e | h
    · rw [← e]
      exact valA_pos rfl
    · have : ¬ x.1 = k := fun z => nd.1 (by rw [z]; exact List.mem_map.mpr ⟨_, h, rfl⟩)
      rw [valA_neg this]
      exact valA_mem nd.2 h
end
end Fo

set_option Elab.async false
set_option linter.all false
set_option maxRecDepth 100000
set_option maxHeartbeats 2000000
/-! Dicts whose keys are nested tuples and whose values are tuples of whole numbers, as tables. -/
namespace Fo
open PySem PySem.Spec PyProof.Rows L2 Evl
/-- the keys: how a tuple tells them -/
structure KeyFn (α : Type) where
  ek : α → NestedKey
  inj : ∀ a b, ek a = ek b → a = b
  dp : ∀ a, (ek a).depth ≤ 8
section
variable {α : Type} [DecidableEq α] {F : KeyFn α} {W : Wd} {K : PySem.W.Frag} {H H' : Hp} {d : Addr} {l : List (α × List Nat)} {k : α} {s : List Nat}
def SDr (F : KeyFn α) (H : Hp) (kv : NestedKey × V) (x : α × List Nat) : Prop := kv.1 = F.ek x.1 ∧ ∃ a, kv.2 = .ref a ∧ H a = some (.tup (iv x.2))
/-- to be read; to be written -/
def SR (W : Wd) (F : KeyFn α) (H : Hp) (d : Addr) (l : List (α × List Nat)) : Prop := ∃ kvs, DR W.P W.w H d kvs ∧ Paired (SDr F H) kvs l
def SD (W : Wd) (F : KeyFn α) (H : Hp) (d : Addr) (l : List (α × List Nat)) : Prop := ∃ kvs, DN W.P W.w H d kvs ∧ Paired (SDr F H) kvs l
theorem SD.r (S : SD W F H d l) : SR W F H d l := let ⟨kvs, D, P⟩ := S; ⟨kvs, D.r, P⟩
theorem sdr_keeps (ht : ∀ b xs, H b = some (.tup xs) → H' b = some (.tup xs)) {kvs : List (NestedKey × V)} (P : Paired (SDr F H) kvs l) : Paired (SDr F H') kvs l :=
  Paired.mapP P fun _ _ ⟨e, a, ea, h⟩ => ⟨e, a, ea, ht _ _ h⟩
theorem SD.keeps (ht : ∀ b xs, H b = some (.tup xs) → H' b = some (.tup xs)) (he : ∀ o, H d = some o → H' d = some o) (S : SD W F H d l) : SD W F H' d l := let ⟨kvs, D, P⟩ := S; ⟨kvs, D.keeps ht he, sdr_keeps ht P⟩
theorem SR.keeps (ht : ∀ b xs, H b = some (.tup xs) → H' b = some (.tup xs)) (he : ∀ o, H d = some o → H' d = some o) (S : SR W F H d l) : SR W F H' d l := let ⟨kvs, D, P⟩ := S; ⟨kvs, D.keeps ht he, sdr_keeps ht P⟩
theorem SD.ex (e : Ex H H') (S : SD W F H d l) : SD W F H' d l := S.keeps (fun b _ h => e b _ h) fun o h => e d o h
theorem SR.ex (e : Ex H H') (S : SR W F H d l) : SR W F H' d l := S.keeps (fun b _ h => e b _ h) fun o h => e d o h
/-- another object is changed, which is no tuple -/
theorem SD.upd {a : Addr} {o u : HO} (S : SD W F H d l) (ha : H a = some u) (hu : ∀ xs, u ≠ .tup xs) (n : d ≠ a) : SD W F (upd H a o) d l :=
  S.keeps (fun b xs h => by rw [upd_ne (ne_of h ha (fun z => hu xs z.symm))]; exact h) fun o h => by rw [upd_ne n]; exact h
theorem SR.upd {a : Addr} {o u : HO} (S : SR W F H d l) (ha : H a = some u) (hu : ∀ xs, u ≠ .tup xs) (n : d ≠ a) : SR W F (L2.upd H a o) d l :=
  S.keeps (fun b xs h => by rw [upd_ne (ne_of h ha (fun z => hu xs z.symm))]; exact h) fun o h => by rw [upd_ne n]; exact h
theorem sd_val {kvs : List (NestedKey × V)} (P : Paired (SDr F H) kvs l) (k : α) : (valA l k = none ∧ valV kvs (F.ek k) = none) ∨ ∃ s a, valA l k = some s ∧ valV kvs (F.ek k) = some (.ref a) ∧ H a = some (.tup (iv s)) := by
  induction P with
  | nil => exact .inl ⟨rfl, rfl⟩
  | @cons p q ps qs h t ih =>
    obtain ⟨e, a, ea, ha⟩ := h
    by_cases c : q.1 = k
    · refine .inr ⟨q.2, a, valA_pos c, ?_, ha⟩
      rw [valV_pos (by rw [e, c]), ea]
    · have c' : ¬ p.1 = F.ek k := fun z => c (F.inj _ _ (e.symm.trans z))
      rw [valA_neg c, valV_neg c']
      exact ih
theorem sd_put {kvs : List (NestedKey × V)} (P : Paired (SDr F H) kvs l) {a : Addr} (ha : H a = some (.tup (iv s))) : Paired (SDr F H) (putK kvs (F.ek k) (.ref a)) (putA l k s) := by
  have e : (kvs.any fun kv => decide (kv.1 = F.ek k)) = l.any fun x => decide (x.1 = k) := by
    rw [valV_any, valA_any]
    rcases sd_val P k with ⟨h1, h2⟩ | ⟨s, a, h1, h2, _⟩ <;> rw [h1, h2] <;> rfl
  unfold putK putA
  rw [e]
  split
  · next hc =>
    clear e hc
    induction P with
    | nil => exact .nil
    | @cons p q ps qs h t ih =>
      rw [List.map_cons, List.map_cons]
      refine .cons ?_ ih
      by_cases c : q.1 = k
      · rw [if_pos c, if_pos (h.1.trans (by rw [c]))]
        exact ⟨h.1, a, rfl, ha⟩
      · rw [if_neg c, if_neg (fun z => c (F.inj _ _ (h.1.symm.trans z)))]
        exact h
  · exact Paired.snoc P ⟨rfl, a, rfl, ha⟩
theorem sd_drop {kvs : List (NestedKey × V)} (P : Paired (SDr F H) kvs l) (k : α) : Paired (SDr F H) (dropK kvs (F.ek k)) (dropA l k) := by
  unfold dropK dropA
  induction P with
  | nil => exact .nil
  | @cons p q ps qs h t ih =>
    rw [List.filter_cons, List.filter_cons]
    by_cases c : q.1 = k
    · have z1 : ¬ decide (p.1 ≠ F.ek k) = true := by simp [h.1, c]
      have z2 : ¬ decide (q.1 ≠ k) = true := by simp [c]
      rw [if_neg z1, if_neg z2]; exact ih
    · have c' : ¬ p.1 = F.ek k := fun z => c (F.inj _ _ (h.1.symm.trans z))
      have z1 : decide (p.1 ≠ F.ek k) = true := by simp [c']
      have z2 : decide (q.1 ≠ k) = true := by simp [c]
      rw [if_pos z1, if_pos z2]; exact .cons h ih
theorem SR.len (S : SR W F H d l) : l.length ≤ sizeLine := let ⟨kvs, D, P⟩ := S; by rw [← Paired.length P]; exact D.1
theorem sd_keys {kvs : List (NestedKey × V)} (P : Paired (SDr F H) kvs l) : kvs.map (·.1) = (l.map (·.1)).map F.ek := by
  induction P with
  | nil => rfl
  | cons h t ih => rw [List.map_cons, List.map_cons, List.map_cons, ih, h.1]
theorem SD.nodup (S : SD W F H d l) : (l.map (·.1)).Nodup := by
  obtain ⟨kvs, ⟨_, _, nd, _⟩, P⟩ := S
  rw [sd_keys P] at nd
  exact (List.pairwise_map.mp nd).imp fun h e => h (congrArg _ e)
end
/-- gives a tuple that is the key k -/
def EvN (k : NestedKey) (te : TE) (σ : L2.St) (H : Hp) : Prop := ∀ H1, Ex H H1 → ∀ Q : VK, (∀ b H2, Ex H1 H2 → NT H2 k (.ref b) → Q (.ref b) H2) → te σ H1 Q
theorem nt_ex {H H' : Hp} {k : NestedKey} {v : V} (e : Ex H H') (h : NT H k v) : NT H' k v := NT.keeps (fun b _ q => e b _ q) _ _ h
section
variable {α : Type} [DecidableEq α] {F : KeyFn α} {W : Wd} {K : PySem.W.Frag} {H H' : Hp} {d : Addr} {l : List (α × List Nat)} {k : α} {s : List Nat} {σ : L2.St} {ty td tv tx : TE} {D : Ends} {tz tu : TS}
theorem en_var {k : NestedKey} {i : Nat} {b : Addr} (h : σ[i]? = some (some (.ref b))) (hk : NT H k (.ref b)) : EvN k (tVar i) σ H := fun H1 e Q q => ⟨.ref b, h, q b H1 (Ex.refl H1) (nt_ex e hk)⟩
theorem ev_sin (hy : EvN (F.ek k) ty σ H) (hd : Ev td σ H (.ref d)) (S : SR W F H d l) : Ev (tNIn W.P W.w ty td) σ H (.bl (valA l k).isSome) := fun H1 e Q q =>
  hy H1 e _ fun b H2 e2 hk => hd H2 (e.trans e2) _ fun H3 e3 => by
    obtain ⟨kvs, D, P⟩ := S.ex ((e.trans e2).trans e3)
    refine ⟨d, _, rfl, ⟨kvs, F.ek k, b, D, rfl, nt_ex e3 hk, F.dp k, rfl⟩, ?_⟩
    have : (valV kvs (F.ek k)).isSome = (valA l k).isSome := by
      rcases sd_val P k with ⟨h1, h2⟩ | ⟨s, a, h1, h2, _⟩ <;> rw [h1, h2] <;> rfl
    rw [this]
    exact q H3 (e2.trans e3)
theorem ev_snin (hy : EvN (F.ek k) ty σ H) (hd : Ev td σ H (.ref d)) (S : SR W F H d l) : Ev (tNNotIn W.P W.w ty td) σ H (.bl (!(valA l k).isSome)) := fun H1 e Q q =>
  hy H1 e _ fun b H2 e2 hk => hd H2 (e.trans e2) _ fun H3 e3 => by
    obtain ⟨kvs, D, P⟩ := S.ex ((e.trans e2).trans e3)
    refine ⟨d, _, rfl, ⟨kvs, F.ek k, b, D, rfl, nt_ex e3 hk, F.dp k, rfl⟩, ?_⟩
    have : (valV kvs (F.ek k)).isSome = (valA l k).isSome := by
      rcases sd_val P k with ⟨h1, h2⟩ | ⟨s, a, h1, h2, _⟩ <;> rw [h1, h2] <;> rfl
    rw [this]
    exact q H3 (e2.trans e3)
theorem ep_sget (hd : Ev td σ H (.ref d)) (hy : EvN (F.ek k) ty σ H) (S : SR W F H d l) (hv : valA l k = some s) : EvP K (tNGet W.P W.w td ty) σ H (iv s) := fun H1 e Q q =>
  hd H1 e _ fun H2 e2 => hy H2 (e.trans e2) _ fun b H3 e3 hk => by
    obtain ⟨kvs, D, P⟩ := S.ex ((e.trans e2).trans e3)
    rcases sd_val P k with ⟨h1, _⟩ | ⟨s', a, h1, h2, h3⟩
    · rw [h1] at hv
      cases hv
    · rw [h1] at hv
      cases hv
      exact ⟨d, .ref a, rfl, ⟨kvs, F.ek k, b, D, rfl, hk, F.dp k, h2.symm⟩, q a H3 (e2.trans e3) h3⟩
theorem ev_slen {ta : TE} (hd : Ev ta σ H (.ref d)) (S : SR W F H d l) : Ev (tCB (rLenN W.P W.w) (tCons ta tNil)) σ H (vn l.length) := fun H1 e Q q =>
  hd H1 e _ fun H2 e2 => by
    obtain ⟨kvs, D, P⟩ := S.ex (e.trans e2)
    refine ⟨d, kvs, rfl, D, ?_⟩
    rw [Paired.length P]
    exact q H2 e2
/-- d[k] = a tuple -/
theorem s_sput (hv : EvP K tv σ H (iv s)) (hd : Ev td σ H (.ref d)) (hy : EvN (F.ek k) ty σ H) (S : SD W F H d l) (hl : l.length < 100000) (n : ∀ H1 o, Ex H H1 → SD W F (upd H1 d o) d (putA l k s) → D.nx σ (upd H1 d o)) :
    sNPut W.P W.w td ty tv D σ H := hv H (Ex.refl H) _ fun a H1 e1 ha => hd H1 e1 _ fun H2 e2 => hy H2 (e1.trans e2) _ fun b H3 e3 hk => by
  obtain ⟨kvs, D', P⟩ := S.ex ((e1.trans e2).trans e3)
  refine ⟨d, rfl, kvs, F.ek k, b, D', rfl, hk, F.dp k, ?_, fun o Dn => n H3 o ((e1.trans e2).trans e3) ⟨_, Dn, ?_⟩⟩
  · rw [Paired.length P]
    exact sz_lt hl
  · obtain ⟨_, _, _, xs, hx, _⟩ := D'
    exact sdr_keeps (fun c zs ec => by rw [upd_ne (ne_of ec hx (fun z => nomatch z))]; exact ec) (sd_put P ((e2.trans e3) _ _ ha))
theorem q_sput (hv : EvP K tv σ H (iv s)) (hd : Ev td σ H (.ref d)) (hy : EvN (F.ek k) ty σ H) (S : SD W F H d l) (hl : l.length < 100000) (n : ∀ H1 o, Ex H H1 → SD W F (upd H1 d o) d (putA l k s) → tz D σ (upd H1 d o)) :
    tSeq (sNPut W.P W.w td ty tv) tz D σ H := s_sput (D := { D with nx := tz D }) hv hd hy S hl n
/-- d.pop(k, None), thrown away -/
theorem s_spop (hd : Ev td σ H (.ref d)) (hy : EvN (F.ek k) ty σ H) (hx : Ev tx σ H .non) (S : SD W F H d l) (n1 : (valA l k).isSome = true → ∀ H1 o, Ex H H1 → SD W F (upd H1 d o) d (dropA l k) → D.nx σ (upd H1 d o)) (n2 : valA l k = none → ∀ H1, Ex H H1 → D.nx σ H1) :
    tDrop (tNPop2 W.P W.w td ty tx) D σ H := hd H (Ex.refl H) _ fun H1 e1 => by
  obtain ⟨kvs0, D0, _⟩ := S.ex e1
  refine ⟨d, kvs0, rfl, D0.r, hy H1 e1 _ fun b H2 e2 hk => hx H2 (e1.trans e2) _ fun H3 e3 => ?_⟩
  have e := (e1.trans e2).trans e3
  obtain ⟨kvs, D', P⟩ := S.ex e
  refine ⟨kvs, F.ek k, b, D', rfl, nt_ex e3 hk, F.dp k, fun v o hv Dn => ?_, fun hv => ?_⟩
  · obtain ⟨_, _, _, xs, hx, _⟩ := D'
    refine n1 ?_ H3 o e ⟨_, Dn, sdr_keeps (fun c zs ec => by rw [upd_ne (ne_of ec hx (fun z => nomatch z))]; exact ec) (sd_drop P k)⟩
    rcases sd_val P k with ⟨_, h2⟩ | ⟨s, a, h1, _, _⟩
    · rw [h2] at hv
      cases hv
    · rw [h1]
      rfl
  · refine n2 ?_ H3 e
    rcases sd_val P k with ⟨h1, _⟩ | ⟨s, a, _, h2, _⟩
    · exact h1
    · rw [h2] at hv
      cases hv
theorem q_spop (hd : Ev td σ H (.ref d)) (hy : EvN (F.ek k) ty σ H) (hx : Ev tx σ H .non) (S : SD W F H d l) (n1 : (valA l k).isSome = true → ∀ H1 o, Ex H H1 → SD W F (upd H1 d o) d (dropA l k) → tz D σ (upd H1 d o)) (n2 : valA l k = none → ∀ H1, Ex H H1 → tz D σ H1) :
    tSeq (tDrop (tNPop2 W.P W.w td ty tx)) tz D σ H := s_spop (D := { D with nx := tz D }) hd hy hx S n1 n2
/-- d.setdefault(k, a tuple), thrown away -/
theorem s_ssetd (hd : Ev td σ H (.ref d)) (hy : EvN (F.ek k) ty σ H) (hx : ∀ H1, Ex H H1 → ∃ a, Ev tx σ H1 (.ref a) ∧ H1 a = some (.tup (iv s))) (S : SD W F H d l) (hl : l.length < 100000) (n1 : (valA l k).isSome = true → ∀ H1, Ex H H1 → D.nx σ H1) (n2 : valA l k = none → ∀ H1 o, Ex H H1 → SD W F (upd H1 d o) d (putA l k s) → D.nx σ (upd H1 d o)) :
    tDrop (tNSetd W.P W.w td ty tx) D σ H := hd H (Ex.refl H) _ fun H1 e1 => by
  obtain ⟨kvs0, D0, _⟩ := S.ex e1
  refine ⟨d, kvs0, rfl, D0.r, hy H1 e1 _ fun b H2 e2 hk => ?_⟩
  obtain ⟨a, hx1, ha⟩ := hx H2 (e1.trans e2)
  refine hx1 H2 (Ex.refl H2) _ fun H3 e3 => ?_
  have e := (e1.trans e2).trans e3
  obtain ⟨kvs, D', P⟩ := S.ex e
  refine ⟨kvs, F.ek k, b, D', rfl, nt_ex e3 hk, F.dp k, by rw [Paired.length P]; exact sz_lt hl, fun v hv => ?_, fun o hv Dn => ?_⟩
  · refine n1 ?_ H3 e
    rcases sd_val P k with ⟨_, h2⟩ | ⟨s, a, h1, _, _⟩
    · rw [h2] at hv
      cases hv
    · rw [h1]
      rfl
  · obtain ⟨_, _, _, xs, hx, _⟩ := D'
    refine n2 ?_ H3 o e ⟨_, Dn, sdr_keeps (fun c zs ec => by rw [upd_ne (ne_of ec hx (fun z => nomatch z))]; exact ec) (sd_put P (e3 _ _ ha))⟩
    rcases sd_val P k with ⟨h1, _⟩ | ⟨s, a, _, h2, _⟩
    · exact h1
    · rw [h2] at hv
      cases hv
/-- {} -/
theorem q_snew {i : Nat} (F : KeyFn α) (n : ∀ p o, H p = none → SD W F (upd H p o) p [] → tz D (σ.set i (some (.ref p))) (upd H p o)) : tSeq (tAsg (tNNew W.P W.w) (gName i)) tz D σ H :=
  fun p o hp Dn => n p o hp ⟨[], Dn, .nil⟩
/-- for k, v in d.items() -/
theorem s_forI {j1 j2 : Nat} (hd : ∀ H1, Ch d H H1 → Ev td σ H1 (.ref d)) (S : SD W F H d l) (Pv : Nat → L2.St → Hp → Prop)
    (h0 : ∀ H1, Ch d H H1 → SR W F H1 d l → Pv 0 σ H1)
    (hs : ∀ i k s σ' H', l[i]? = some (k, s) → Pv i σ' H' → SR W F H' d l → (∃ o u, H' d = some (.frz o u)) → ∀ b a H2, Ex H' H2 → NT H2 (F.ek k) (.ref b) → H2 a = some (.tup (iv s)) →
      ∀ D' : Ends, (∀ σ3 H3, Pv (i + 1) σ3 H3 → H3 d = H' d → (∀ c zs, H' c = some (.tup zs) → H3 c = some (.tup zs)) → D'.nx σ3 H3) → tu D' ((σ'.set j1 (some (.ref b))).set j2 (some (.ref a))) H2)
    (hn : ∀ σ' H' o, Pv l.length σ' H' → H d = some o → (∃ o1 u, H' d = some (.frz o1 u)) → SD W F (upd H' d o) d l → D.nx σ' (upd H' d o)) :
    tLock (tFor (iItemsN W.P W.w td) (gTup K 2 (gCons (gName j1) (gCons (gName j2) gNil))) tu) D σ H := by
  obtain ⟨kvs, ⟨z1, z2, z3, xs, hx, rel⟩, P⟩ := id S
  refine ⟨d, _, hx, True.intro, fun od => ?_⟩
  have ch : Ch d H (upd H d (.frz od (dnO W.P W.w d xs))) := Ch.upd
  have ht : ∀ c zs, H c = some (.tup zs) → upd H d (.frz od (dnO W.P W.w d xs)) c = some (.tup zs) := fun c zs ec => by rw [upd_ne (ne_of ec hx (fun z => nomatch z))]; exact ec
  have rel' : NP (upd H d (.frz od (dnO W.P W.w d xs))) kvs xs := rel.keeps ht
  have srd : ∀ H1 : Hp, H1 d = some (.frz od (dnO W.P W.w d xs)) → (∀ c zs, H c = some (.tup zs) → H1 c = some (.tup zs)) → SR W F H1 d l := fun H1 h1 h2 => ⟨kvs, ⟨z1, z2, z3, xs, .inr ⟨od, h1⟩, rel.keeps h2⟩, sdr_keeps h2 P⟩
  refine hd _ ch _ (Ex.refl _) _ fun H1 e1 => ?_
  have hd1 : H1 d = some (.frz od (dnO W.P W.w d xs)) := e1 _ _ upd_same
  have ht1 : ∀ c zs, H c = some (.tup zs) → H1 c = some (.tup zs) := fun c zs ec => e1 _ _ (ht c zs ec)
  refine ⟨d, od, kvs, xs, rfl, z2, hd1, rel.keeps ht1, ?_⟩
  refine for_it (walk_itemsN (rel.keeps ht1)) (fun i σ' H' => Pv i σ' H' ∧ H' d = some (.frz od (dnO W.P W.w d xs)) ∧ ∀ c zs, H1 c = some (.tup zs) → H' c = some (.tup zs))
    ⟨h0 H1 (ch.trans (Ch.of_ex e1)) (srd H1 hd1 ht1), hd1, fun _ _ h => h⟩ (fun i σ' H' _ h => ⟨h.2.1, h.2.2⟩) (fun i x σ' H' H2 hi hp y => ?_) (fun σ' H' hp => ?_)
  · obtain ⟨hp, hdd, htt⟩ := hp
    obtain ⟨T, k', v, b, hk, rfl, hT, rfl, hnt, _⟩ := y
    obtain ⟨⟨k, s⟩, hl, ek, a, ea, ha⟩ := paired_get P hk
    replace ek : k' = F.ek k := ek
    replace ea : v = .ref a := ea
    replace ha : H a = some (.tup (iv s)) := ha
    subst ek ea
    have ha' : H' a = some (.tup (iv s)) := htt _ _ (ht1 _ _ ha)
    refine ⟨T, _, rfl, st_of upd_same, rfl, _, _, rfl, _, _, rfl, rfl, ?_⟩
    exact hs i k s σ' H' hl hp (srd H' hdd fun c zs h => htt c zs (ht1 c zs h)) ⟨_, _, hdd⟩ b a _ (Ex.new hT) (nt_ex (Ex.new hT) hnt) ((Ex.new hT) _ _ ha') _ fun σ3 H3 q1 q2 q3 => ⟨q1, q2.trans hdd, fun c zs h => q3 c zs (htt c zs h)⟩
  · obtain ⟨hp, hdd, htt⟩ := hp
    rw [Paired.length P] at hp
    refine ⟨hdd, hn σ' H' _ hp hx ⟨_, _, hdd⟩ ⟨kvs, ⟨z1, z2, z3, xs, upd_same, rel.keeps ?_⟩, sdr_keeps ?_ P⟩⟩
    all_goals
      intro c zs h
      have hc : c ≠ d := ne_of h hx (fun z => nomatch z)
      rw [upd_ne hc]
      exact htt c zs (ht1 c zs h)
end
end Fo

set_option Elab.async false
set_option linter.all false
set_option maxRecDepth 100000
set_option maxHeartbeats 2000000
namespace Fo
open PySem PySem.Spec PyProof.Rows L2 Evl
structure TxB (mg : Str → Option Value) : Prop where
  all : mg "all" = none
  list : mg "list" = none
theorem given_all {f : Nat → V} : ∀ n, given n (fun _ => true) f = (List.range n).map f := fun n => by
  unfold given
  rw [List.filter_eq_self.mpr (fun _ _ => rfl)]
theorem given_bytes (row : List Nat) : given row.length (fun _ => true) (fun i => V.bl (decide (row.getD i 0 ≤ 255))) = (row.map fun c => decide (c ≤ 255)).map V.bl := by
  rw [given_all]
  apply List.ext_getElem
  · simp
  · intro i h1 h2
    have hi : i < row.length := by simpa using h2
    rw [List.getElem_map, List.getElem_map, List.getElem_map, List.getElem_range, List.getD_eq_getElem?_getD, List.getElem?_eq_getElem hi]
    rfl
theorem ev_cbL {σ : L2.St} {H : Hp} {r : List V → Hp → VK → Prop} {te : TE} {xs : List V} {z : V} (h : EvL te σ H xs) (k : ∀ p H1 (Q : VK), H1 p = some (.lst xs) → Ex H H1 → Q z H1 → r [.ref p] H1 Q) : Ev (tCB r (tCons te tNil)) σ H z := fun H1 e Q q =>
  h H1 e _ fun p H2 _ e2 h2 => k p H2 Q h2 (e.trans e2) (q H2 e2)
theorem el_cat {σ : L2.St} {H : Hp} {ta tb : TE} {xs ys : List V} (ha : EvL ta σ H xs) (hb : EvL tb σ H ys) (hl : xs.length + ys.length ≤ 100000) : EvL (tOp rCat ta tb) σ H (xs ++ ys) := fun H1 e Q q =>
  ha H1 e _ fun p H2 hp e2 h2 => hb H2 (e.trans e2) _ fun r H3 hr e3 h3 => ⟨p, r, xs, ys, rfl, rfl, e3 _ _ h2, h3, sz_of hl, fun t ht => q t _ (fresh_back (e2.trans e3) ht) ((e2.trans e3).trans (Ex.new ht)) upd_same⟩
theorem el_catS {σ : L2.St} {H : Hp} {ta tb : TE} {xs ys : List V} (ha : EvL ta σ H xs) (hb : EvL tb σ H ys) (hl : xs.length + ys.length ≤ sizeLine) : EvL (tOp rCat ta tb) σ H (xs ++ ys) := fun H1 e Q q =>
  ha H1 e _ fun p H2 hp e2 h2 => hb H2 (e.trans e2) _ fun r H3 hr e3 h3 => ⟨p, r, xs, ys, rfl, rfl, e3 _ _ h2, h3, hl, fun t ht => q t _ (fresh_back (e2.trans e3) ht) ((e2.trans e3).trans (Ex.new ht)) upd_same⟩
theorem el_listQ {K : PySem.W.Frag} {σ : L2.St} {H : Hp} {ta : TE} {p : Addr} {xs : List V} (ha : Ev ta σ H (.ref p)) (h : Sq K H p xs) : EvL (tCB (rListS K) (tCons ta tNil)) σ H xs := fun H1 e Q q =>
  ha H1 e _ fun H2 e2 => ⟨p, xs, rfl, (h.ex (e.trans e2)).r, fun l hl => q l _ (fresh_back e2 hl) (e2.trans (Ex.new hl)) upd_same⟩
def spBytes (K : PySem.W.Frag) : Sp := fun vs H Q _ => ∃ (p : Addr) (row : List Nat) (m : Nat), vs = [.ref p, vn m] ∧ SqL K H p (iv row) ∧ row.length ≤ 40000 ∧ RetV (.bl (isBytes m row)) H Q
theorem sv_bytes {K : PySem.W.Frag} {H : Hp} {p : Addr} {row : List Nat} {m : Nat} (h : SqL K H p (iv row)) (hl : row.length ≤ 40000) : SpV (spBytes K) [.ref p, vn m] H (.bl (isBytes m row)) := fun H1 e Q q _ => ⟨p, row, m, rfl, ex_l e h, hl, q⟩
theorem ev_len1 {K : PySem.W.Frag} {σ : L2.St} {H : Hp} {ta : TE} {p : Addr} {t : List Nat} (ha : Ev ta σ H (.ref p)) (h : SqL K H p (iv t)) : Ev (tCB (rLenS K) (tCons ta tNil)) σ H (vn t.length) :=
  ev_is (ev_lenQ (K := K) ha (.inl h)) (congrArg (fun n : Nat => V.int (n : Int)) (iv_len t))
theorem ev_len2 {a b : Nat} {σ : L2.St} {H : Hp} {ta tb : TE} (ha : Ev ta σ H (vn a)) (hb : Ev tb σ H (vn b)) : Ev (tOp (rI0 fun i j => .bl (decide (i ≤ j))) ta tb) σ H (.bl (decide (a ≤ b))) :=
  ev_is (ev_op ha hb rv_I0) (congrArg V.bl (decide_eq_decide.mpr (by omega)))
theorem c_are_bytes {W : Wd} (T : TxB W.mg) (TR : TxR W.K W.mg) (a : At W.K W.mg "are_bytes" s_are_bytes) : Cal W 1 "are_bytes" (spBytes W.K) := by
  refine cal a sc_are_bytes (fun _ _ _ _ _ _ us hl => match us, hl with | [_, _], _ => rfl) (fun vs H Q E h => by obtain ⟨p, row, m, rfl, _⟩ := h; rfl) (fun f cdv A outer s H vs Q E hr h => ?_)
  obtain ⟨p, row, m, rfl, hp, hl, q⟩ := h
  refine ⟨_, pss_one (ps_ret (pe_and (pe_cmpR op_le (pe_callB call_len_seq (by rfl) TR.len PySem.boot_len (pa_cons (pv 0) pa_nil)) (pv 1) (nomark _))
    (pe_one (pe_callB (cr_all rfl) (by rfl) T.all (by decide +kernel) (pa_cons (pe_lc (own := [("number", 2)]) (g := gName 2) (tt := tYes) (by rfl) sc_are_bytes.nd (pi_list (pv 0)) (blkOk_by (own := [("number", 2)]) (N := n_are_bytes) (sc := defScope s_are_bytes) (by decide +kernel)) (fun _ _ _ _ _ => pg_name (i := 2) sc_are_bytes.nd rfl (Or.inl rfl))
      (fun _ _ _ _ _ => pts_nil) (fun _ _ _ _ _ => pe_cmpR op_le (pv 2) pe_int (nomark _))) pa_nil))))), ?_⟩
  have lc : EvL (tLc (iList W.K (tVar 0)) (gName 2) tYes (tOp (rI0 fun i j => .bl (decide (i ≤ j))) (tVar 2) (tC (.int 255))) [2]) (start n_are_bytes [.ref p, vn m]) H (given (iv row).length (fun _ => true) (fun i => V.bl (decide (row.getD i 0 ≤ 255)))) :=
    el_lcL (K := W.K) (a := p) (xs := iv row) (j := 2) (vs := [2]) (fun _ => true) (fun i => V.bl (decide (row.getD i 0 ≤ 255))) (ev_var rfl) hp (by rw [iv_len]; exact hl) (fun x => rfl) (fun i x H1 e1 hx => fun H2 e2 Q q => q H2 (Ex.refl H2)) (fun i x H1 e1 hx _ => by
      obtain ⟨n, hn, rfl⟩ := iv_get hx
      have eg : row.getD i 0 = n := by rw [List.getD_eq_getElem?_getD, hn] <;> rfl
      show Ev _ _ _ (V.bl (decide (row.getD i 0 ≤ 255)))
      rw [eg]
      exact ev_len2 (b := 255) (ev_var rfl) ev_c)
  rw [iv_len, given_bytes] at lc
  refine s_ret (ev_andV (ev_len2 (ev_len1 (K := W.K) (ev_var rfl) hp) (ev_var rfl)) fun _ => ?_) q
  refine ev_cbL (xs := (row.map fun c => decide (c ≤ 255)).map V.bl) lc fun L H2 Q h2 e2 q => ⟨L, _, rfl, sq_of h2, ?_⟩
  have : ((row.map fun c => decide (c ≤ 255)).all id) = row.all fun c => decide (c ≤ 255) := by
    rw [List.all_map]
    rfl
  rw [this]
  exact q
/-- counted: of a list or a tuple -/
def spCounted (K : PySem.W.Frag) : Sp := fun vs H Q _ => ∃ (p : Addr) (row : List Nat), vs = [.ref p] ∧ Sq K H p (iv row) ∧ row.length ≤ 2000000 ∧ RetL (iv (counted row)) H Q
theorem el_counted {K : PySem.W.Frag} {σ : L2.St} {H : Hp} {te : TE} {E : XK} {row : List Nat} (h : EvQ K te σ H (iv row)) (hl : row.length ≤ 2000000) : EvL (tCall (spCounted K) [] E (tCons te tNil)) σ H (iv (counted row)) := fun H1 e Q q =>
  h H1 e _ fun p H2 e2 hs => ⟨p, row, rfl, hs, hl, fun r H3 hr e3 h3 => q r H3 (fresh_back e2 hr) (e2.trans e3) h3⟩
theorem c_counted {W : Wd} (T : TxB W.mg) (TR : TxR W.K W.mg) (a : At W.K W.mg "counted" s_counted) : Cal W 1 "counted" (spCounted W.K) := by
  refine cal a sc_counted (fun _ _ _ _ _ _ us hl => match us, hl with | [_], _ => rfl) (fun vs H Q E h => by obtain ⟨p, row, rfl, _⟩ := h; rfl) (fun f cdv A outer s H vs Q E hr h => ?_)
  obtain ⟨p, row, rfl, hp, hl, q⟩ := h
  refine ⟨_, pss_one (ps_ret (pe_op op_cat (pe_lst (pa_cons (pe_callB call_len_seq (by rfl) TR.len PySem.boot_len (pa_cons (pv 0) pa_nil)) pa_nil)) (pe_callTy call_list_of (by rfl) T.list PyProof.Rows.boot_list (pa_cons (pv 0) pa_nil)))), ?_⟩
  have len : Ev (tCB (rLenS W.K) (tCons (tVar 0) tNil)) (start n_counted [.ref p]) H (vn row.length) := ev_is (ev_lenQ (K := W.K) (ev_var rfl) hp) (congrArg (fun n : Nat => V.int (n : Int)) (iv_len row))
  exact s_retL (xs := [vn row.length] ++ iv row) (el_catS (el_lst (ea_cons len ea_nil) (by simp)) (el_listQ (K := W.K) (ev_var rfl) hp) (by rw [iv_len, sizeLine_eq]; simp; omega)) q
/-! ### is_translation -/
theorem srt_uniq : ∀ {l m : List (List Nat)}, l.Perm m → SrtN l → SrtN m → l = m
  | [], m, h, _, _ => h.nil_eq
  | a :: l, [], h, _, _ => absurd h.length_eq (by simp)
  | a :: l, b :: m, h, hl, hm => by
    replace hl := List.pairwise_cons.mp hl
    replace hm := List.pairwise_cons.mp hm
    have e : a = b := by
      rcases List.mem_cons.mp (h.mem_iff.mp (List.mem_cons_self ..)) with e | ha
      · exact e
      · rcases List.mem_cons.mp (h.mem_iff.mpr (List.mem_cons_self ..)) with e | hb
        · exact e.symm
        · exact lexN_anti (hm.1 a ha) (hl.1 b hb)
    subst e
    rw [srt_uniq (List.perm_cons a |>.mp h) hl.2 hm.2]
theorem srt_dec {l m l' m' : List (List Nat)} (h1 : l'.Perm l) (h2 : m'.Perm m) (s1 : SrtN l') (s2 : SrtN m') : decide (l' = m') = l.isPerm m := by
  by_cases h : l.Perm m
  · rw [List.isPerm_iff.mpr h, decide_eq_true (srt_uniq ((h1.trans h).trans h2.symm) s1 s2)]
  · have n : l.isPerm m = false := by
      cases q : l.isPerm m with
      | false => rfl
      | true => exact absurd (List.isPerm_iff.mp q) h
    rw [n]
    exact decide_eq_false fun e => h ((h1.symm.trans (by rw [e])).trans h2)
def spTrans (K : PySem.W.Frag) : Sp := fun vs H Q _ => ∃ (p r : Addr) (w s : List Nat), vs = [.ref p, .ref r] ∧ SqL K H p (iv w) ∧ H r = some (.tup (iv s)) ∧ w.length ≤ 1000 ∧ s.length ≤ 1000 ∧ RetV (.bl (isTrans w s)) H Q
theorem c_is_translation {W : Wd} (a : At W.K W.mg "is_translation" s_is_translation) (c1 : Cal W 2 "things_of" (spThings W.K)) (c2 : Cal W 2 "are_tags_right" (spTs W.K fun ls => .bl (tagsRun [] [] ls))) (c3 : Cal W 2 "tags_of" (spTags W.K)) : Cal W 3 "is_translation" (spTrans W.K) := by
  refine cal a sc_is_translation (fun _ _ _ _ _ _ us hl => match us, hl with | [_, _], _ => rfl) (fun vs H Q E h => by obtain ⟨p, r, w, s, rfl, _⟩ := h; rfl) (fun f cdv A outer s H vs Q E hr h => ?_)
  obtain ⟨p, r, w, s', rfl, hp, hq, hlw, hls, q⟩ := h
  refine ⟨_, pss_cons (ps_set (i := 2) sc_is_translation.nd rfl (.inl rfl) (pe_c c1 hr (pa_cons (pv 0) pa_nil)))
    (pss_one (ps_ret (pe_and (pe_c c2 hr (pa_cons (pv 2) pa_nil)) (pe_one (pe_cmpR (op_eqD hr.units) (pe_c c3 hr (pa_cons (pv 2) pa_nil)) (pe_c c3 hr (pa_cons (pe_c c1 hr (pa_cons (pv 1) pa_nil)) pa_nil)) (nomark _)))))), ?_⟩
  refine ⟨_, rfl, p, w, rfl, .inl hp, hlw, fun L vs H1 hL e1 hl1 ht1 => ?_⟩
  have lw : (thingsOf w).length ≤ 1000 := Nat.le_trans (things_len w) hlw
  have ls : (thingsOf s').length ≤ 1000 := Nat.le_trans (things_len s') hls
  refine s_ret (ev_andV (b := ((thingsOf w).filter isTag).isPerm ((thingsOf s').filter isTag)) (ev_call (z := .bl (tagsRun [] [] (thingsOf w))) (ea_cons (ev_var rfl) ea_nil) fun H2 e2 Q q _ => ⟨L, vs, thingsOf w, rfl, sq_of (e2 _ _ hl1), ex_tups e2 ht1, lw, q⟩) fun _ => ?_) fun H2 e2 => q H2 (e1.trans e2)
  refine fun H2 e2 Q q => ⟨_, rfl, L, vs, thingsOf w, rfl, sq_of (e2 _ _ hl1), ex_tups e2 ht1, lw, fun ys hy1 hy2 T1 v1 H3 hT1 e3 h3 ty => ?_⟩
  refine ⟨_, rfl, r, s', rfl, .inr ((e1.trans (e2.trans e3)) _ _ hq), hls, fun L2 vs2 H4 hL2 e4 hl4 ht4 => ⟨L2, vs2, thingsOf s', rfl, sq_of hl4, ht4, ls, fun zs hz1 hz2 T2 v2 H5 hT2 e5 h5 tz => ?_⟩⟩
  refine ⟨.list (ys.map pd), .list (zs.map pd), .lst (sq_of ((e4.trans e5) _ _ h3)) (dp_pds (K := W.K) (ex_tups (e4.trans e5) ty)), .lst (sq_of h5) (dp_pds tz), shaped_pds _, shaped_pds _, ?_⟩
  have e : PyData.eqv (.list (ys.map pd)) (.list (zs.map pd)) = ((thingsOf w).filter isTag).isPerm ((thingsOf s').filter isTag) := (eqvAll_pds ys zs).trans (srt_dec hy1 hz1 hy2 hz2)
  rw [e]
  exact q H5 ((e3.trans e4).trans e5)
end Fo

set_option Elab.async false
set_option linter.all false
set_option maxRecDepth 100000
set_option maxHeartbeats 2000000
namespace Fo
open PySem PySem.Spec PyProof.Rows L2 Evl
/-! ### keys -/
def tupK (l : List Nat) : NestedKey := .tup (l.map fun (n : Nat) => NestedKey.num (n : Int))
theorem nums_inj : ∀ {a b : List Nat}, (a.map fun (n : Nat) => NestedKey.num (n : Int)) = (b.map fun (n : Nat) => NestedKey.num (n : Int)) → a = b
  | [], [], _ => rfl
  | [], _ :: _, h => by simp at h
  | _ :: _, [], h => by simp at h
  | x :: a, y :: b, h => by
    rw [List.map_cons, List.map_cons] at h
    injection h with h1 h2
    injection h1 with h1
    rw [nums_inj h2, show x = y by omega]
theorem tupK_inj {a b : List Nat} (h : tupK a = tupK b) : a = b := by
  injection h with h
  exact nums_inj h
theorem depth_nums : ∀ l : List Nat, NestedKey.depthAll (l.map fun (n : Nat) => NestedKey.num (n : Int)) = 0
  | [] => by rw [List.map_nil, NestedKey.depthAll]
  | n :: l => by
    rw [List.map_cons, NestedKey.depthAll, NestedKey.depth, depth_nums l]
    rfl
theorem depth_tupK (l : List Nat) : (tupK l).depth = 1 := by
  rw [tupK, NestedKey.depth, depth_nums]
/-- a key and a number -/
def FSpot : KeyFn (List Nat × Nat) where
  ek := fun x => .tup [tupK x.1, .num (x.2 : Int)]
  inj := fun a b h => by
    obtain ⟨a1, a2⟩ := a
    obtain ⟨b1, b2⟩ := b
    injection h with h
    injection h with h1 h2
    injection h2 with h2
    injection h2 with h2
    have : a2 = b2 := by
      have h2' : ((a2 : Nat) : Int) = ((b2 : Nat) : Int) := h2
      omega
    have h3 : a1 = b1 := tupK_inj h1
    rw [h3, this]
  dp := fun x => by
    show NestedKey.depth (.tup [tupK x.1, .num (x.2 : Int)]) ≤ 8
    rw [NestedKey.depth, NestedKey.depthAll, NestedKey.depthAll, NestedKey.depthAll, NestedKey.depth, depth_tupK]
    decide
/-- a key and a text -/
def FText : KeyFn (List Nat × List Nat) where
  ek := fun x => .tup [tupK x.1, tupK x.2]
  inj := fun a b h => by
    obtain ⟨a1, a2⟩ := a
    obtain ⟨b1, b2⟩ := b
    injection h with h
    injection h with h1 h2
    injection h2 with h2
    have h3 : a1 = b1 := tupK_inj h1
    have h4 : a2 = b2 := tupK_inj h2
    rw [h3, h4]
  dp := fun x => by
    show NestedKey.depth (.tup [tupK x.1, tupK x.2]) ≤ 8
    rw [NestedKey.depth, NestedKey.depthAll, NestedKey.depthAll, NestedKey.depthAll, depth_tupK, depth_tupK]
    decide
theorem nt_nums {H : Hp} : ∀ l : List Nat, NTs H (l.map fun (n : Nat) => NestedKey.num (n : Int)) (iv l)
  | [] => .nil
  | n :: l => .cons (.num _) (nt_nums l)
theorem nt_tup {H : Hp} {a : Addr} {l : List Nat} (h : H a = some (.tup (iv l))) : NT H (tupK l) (.ref a) := .tup h (nt_nums l)
theorem nt_spot {H : Hp} {a b : Addr} {k : List Nat} {i : Nat} (hb : H b = some (.tup [.ref a, vn i])) (ha : H a = some (.tup (iv k))) : NT H (FSpot.ek (k, i)) (.ref b) := .tup hb (.cons (nt_tup ha) (.cons (.num _) .nil))
theorem nt_text {H : Hp} {a b c : Addr} {k s : List Nat} (hb : H b = some (.tup [.ref a, .ref c])) (ha : H a = some (.tup (iv k))) (hc : H c = some (.tup (iv s))) : NT H (FText.ek (k, s)) (.ref b) := .tup hb (.cons (nt_tup ha) (.cons (nt_tup hc) .nil))
theorem nums_nt {H : Hp} : ∀ {l : List Nat} {vs : List V}, NTs H (l.map fun (n : Nat) => NestedKey.num (n : Int)) vs → vs = iv l
  | [], _, h => by
    rw [List.map_nil] at h
    cases h
    rfl
  | n :: l, _, h => by
    rw [List.map_cons] at h
    cases h with
    | cons h1 h2 =>
      cases h1
      rw [nums_nt h2]
      rfl
theorem tup_nt {H : Hp} {v : V} {l : List Nat} (h : NT H (tupK l) v) : ∃ a, v = .ref a ∧ H a = some (.tup (iv l)) := by
  cases h with
  | tup ha hs =>
    have e := nums_nt hs
    subst e
    exact ⟨_, rfl, ha⟩
theorem spot_nt {H : Hp} {b : Addr} {k : List Nat} {i : Nat} (h : NT H (FSpot.ek (k, i)) (.ref b)) : ∃ a, H b = some (.tup [.ref a, vn i]) ∧ H a = some (.tup (iv k)) := by
  cases h with
  | tup hb hs =>
    cases hs with
    | cons h1 h2 =>
      cases h2 with
      | cons h2 h3 =>
        cases h3
        cases h2
        obtain ⟨a, rfl, ha⟩ := tup_nt h1
        exact ⟨a, hb, ha⟩
section
variable {K : PySem.W.Frag} {σ : L2.St} {H : Hp} {ta tb : TE}
/-- (key, number) -/
theorem en_spot {a : Addr} {k : List Nat} {i : Nat} (h1 : Ev ta σ H (.ref a)) (ha : H a = some (.tup (iv k))) (h2 : Ev tb σ H (vn i)) : EvN (FSpot.ek (k, i)) (tTup (tCons ta (tCons tb tNil))) σ H := fun H1 e Q q =>
  eu_tup (ea_cons h1 (ea_cons h2 ea_nil)) (by simp) H1 e _ fun p H2 _ e2 hp => q p H2 e2 (nt_spot hp ((e.trans e2) _ _ ha))
end
/-- a new dict is handed back -/
def RetD {α : Type} [DecidableEq α] (W : Wd) (F : KeyFn α) (l : List (α × List Nat)) (H : Hp) (Q : VK) : Prop := ∀ p H2, H p = none → Ex H H2 → SD W F H2 p l → Q (.ref p) H2
def total (ls : List (List Nat)) : Nat := (ls.map List.length).sum
theorem flat_len : ∀ (ls : List (List Nat)), (∀ l ∈ ls, 61 ∈ l) → (ls.flatMap numLine).length ≤ total ls
  | [], _ => Nat.le_refl _
  | l :: ls, h => by
    have h1 := numLine_len (h l (List.mem_cons_self ..))
    have h2 := flat_len ls fun x hx => h x (List.mem_cons_of_mem _ hx)
    rw [List.flatMap_cons, List.length_append]
    show _ ≤ l.length + total ls
    omega
theorem total_take : ∀ (ls : List (List Nat)) (i : Nat), total (ls.take i) ≤ total ls
  | [], i => by rw [List.take_nil]; exact Nat.le_refl _
  | l :: ls, 0 => Nat.zero_le _
  | l :: ls, i + 1 => by
    have := total_take ls i
    show l.length + total (ls.take i) ≤ l.length + total ls
    omega
theorem len_total : ∀ {ls : List (List Nat)} {l : List Nat}, l ∈ ls → l.length ≤ total ls
  | x :: ls, l, h => by
    rcases List.mem_cons.mp h with e | h
    · rw [e]
      show x.length ≤ x.length + total ls
      omega
    · have := len_total h
      show l.length ≤ x.length + total ls
      omega
/-- a key alone -/
def FKey : KeyFn (List Nat) where
  ek := tupK
  inj := fun a b h => tupK_inj h
  dp := fun x => by
    rw [depth_tupK]
    decide
/-- gives the tuple k: it is the key k -/
theorem en_tup {K : PySem.W.Frag} {σ : L2.St} {H : Hp} {ta : TE} {k : List Nat} (h : EvP K ta σ H (iv k)) : EvN (FKey.ek k) ta σ H := fun H1 e Q q => h H1 e _ fun a H2 e2 ha => q a H2 e2 (nt_tup ha)
theorem flat_take {α β : Type} (f : α → List β) : ∀ {l : List α} {i : Nat} {x : α}, l[i]? = some x → (l.take (i + 1)).flatMap f = (l.take i).flatMap f ++ f x := fun {l i x} h => by
  rw [take_more h, List.flatMap_append, List.flatMap_cons, List.flatMap_nil, List.append_nil]
theorem flat_le {α β : Type} (f : α → List β) (l : List α) (i : Nat) : ((l.take i).flatMap f).length ≤ (l.flatMap f).length := by
  conv => rhs; rw [← List.take_append_drop i l]
  rw [List.flatMap_append, List.length_append]
  omega
/-- the sentences of a key's text -/
def numText (x : List Nat × List Nat) : List ((List Nat × Nat) × List Nat) := numFrom x.1 0 (sentencesOf x.2)
theorem SD.ext {α : Type} [DecidableEq α] {F : KeyFn α} {W : Wd} {H : Hp} {d : Addr} {l : List (α × List Nat)} (S : SD W F H d l) : ∃ φ, H d = some (.ext φ) := by
  obtain ⟨kvs, ⟨_, _, _, xs, h, _⟩, _⟩ := S
  exact ⟨_, h⟩
def spNum (W : Wd) : Sp := fun vs H Q _ => ∃ (d : Addr) (X : List (List Nat × List Nat)), vs = [.ref d] ∧ SD W FKey H d X ∧ (X.flatMap numText).length ≤ 1000 ∧ (∀ x ∈ X, x.2.length ≤ 1000) ∧ RetD W FSpot (X.flatMap numText) H Q
theorem c_numbered {W : Wd} (TR : TxR W.K W.mg) (a : At W.K W.mg "numbered_sentences" s_numbered_sentences) (c3 : Cal W 3 "sentences_of" (spSents W.K)) : Cal W 4 "numbered_sentences" (spNum W) := by
  refine cal a sc_numbered_sentences (fun _ _ _ _ _ _ us hl => match us, hl with | [_], _ => rfl) (fun vs H Q E h => by obtain ⟨d, X, rfl, _⟩ := h; rfl) (fun f cdv A outer s H vs Q E hr h => ?_)
  obtain ⟨d, X, rfl, SX, htot, hsml, q⟩ := h
  have hu := hr.units
  refine ⟨_, pss_cons (ps_set (i := 1) sc_numbered_sentences.nd rfl (.inl rfl) pe_nnew)
    (pss_cons (ps_lock (ps_for PassesOwn.never rfl (pi_itemsN (pv 0)) (pg_tup rfl (pgs_cons (pg_name (i := 2) sc_numbered_sentences.nd rfl (.inl rfl)) (pgs_cons (pg_name (i := 3) sc_numbered_sentences.nd rfl (.inl rfl)) pgs_nil)))
      (pss_one (ps_for PassesOwn.never rfl (pi_enum (by rfl) TR.enumerate (pa_cons (pe_c c3 hr (pa_cons (pv 3) pa_nil)) pa_nil)) (pg_tup rfl (pgs_cons (pg_name (i := 4) sc_numbered_sentences.nd rfl (.inl rfl)) (pgs_cons (pg_name (i := 5) sc_numbered_sentences.nd rfl (.inl rfl)) pgs_nil)))
        (pss_one (ps_nput hu (pv 1) (pe_tup (pa_cons (pv 2) (pa_cons (pv 4) pa_nil))) (pv 5) rfl))))))
    (pss_one (ps_ret (pv 1)))), ?_⟩
  refine q_snew (W := W) FSpot fun R o hR SR0 => ?_
  have e1 : Ex H (upd H R o) := Ex.new hR
  obtain ⟨φx, hxx⟩ := SX.ext
  have hRd : R ≠ d := Ne.symm (ne_of_none hxx hR)
  have nd : (X.map (·.1)).Nodup := SX.nodup
  refine s_forI (W := W) (F := FKey) (K := W.K) (D := { nx := tRet (tVar 1) { nx := fun _ H' => Q .non H', rt := Q }, rt := Q, bk := _, ct := _ }) (l := X) (j1 := 2) (j2 := 3) (td := tVar 0) (fun H2 c2 => ev_var rfl) (SX.ex e1)
    (fun i σ' H' => ∃ v2 v3 v4 v5, σ' = [some (.ref d), some (.ref R), v2, v3, v4, v5] ∧ Ch d H H' ∧ SD W FSpot H' R ((X.take i).flatMap numText))
    (fun H2 c2 _ => ⟨none, none, none, none, rfl, (Ch.of_ex e1).trans c2, ?_⟩) ?_ ?_
  · exact SR0.keeps (fun b xs h => c2 _ _ h (ne_of h (e1 _ _ hxx) (fun z => nomatch z))) fun o h => c2 _ _ h hRd
  · rintro i k t σ' H' hi ⟨v2, v3, v4, v5, rfl, c2, SB⟩ _ ⟨ol, u, hlk⟩ b sa H2 e2 hnb hsa D' hD'
    obtain ⟨kd, ek, hkd⟩ := tup_nt hnb
    cases ek
    have tlen : t.length ≤ 1000 := hsml _ (List.mem_of_getElem? hi)
    have acc_len : ((X.take i).flatMap numText).length ≤ 1000 := Nat.le_trans (flat_le numText X i) htot
    have fresh : ∀ x ∈ (X.take i).flatMap numText, x.1.1 ≠ k := by
      intro x hx z
      obtain ⟨l', hl', hx'⟩ := List.mem_flatMap.mp hx
      have ek := (numFrom_keys _ _ _ x hx').1
      have hk : k ∈ (X.take i).map (·.1) := List.mem_map.mpr ⟨l', hl', ek.symm.trans z⟩
      have e2 : X = X.take i ++ (k, t) :: X.drop (i + 1) := by rw [← drop_more hi, List.take_append_drop]
      rw [e2, List.map_append, List.map_cons] at nd
      have := (List.nodup_append.mp nd).2.2 _ hk _ (List.mem_cons_self ..)
      exact this rfl
    refine ⟨_, rfl, sa, t, rfl, .inr hsa, tlen, fun L vs H4 hL e4 hl4 hts => ⟨L, vs, rfl, sq_of hl4, ?_⟩⟩
    have e24 := e2.trans e4
    refine for_it (walk_enum (K := W.K) (xs := vs)) (fun j σ2 H5 => ∃ (v4 v5 : Option V), σ2 = [some (.ref d), some (.ref R), some (.ref b), some (.ref sa), v4, v5] ∧ Ch d H H5 ∧ H5 d = H' d ∧ (∀ c zs, H' c = some (.tup zs) → H5 c = some (.tup zs)) ∧ SD W FSpot H5 R ((X.take i).flatMap numText ++ numFrom k 0 ((sentencesOf t).take j)) ∧
        H5 b = some (.tup (iv k)) ∧ H5 L = some (.lst vs) ∧ TupsAt W.K H5 vs (sentencesOf t))
      ⟨v4, v5, rfl, c2.trans (Ch.of_ex e24), (e24 _ _ hlk).trans hlk.symm, fun c zs h => e24 _ _ h, by rw [List.take_zero]; show SD W FSpot H4 R (_ ++ []); rw [List.append_nil]; exact SB.ex e24, e4 _ _ hkd, hl4, hts⟩ (fun j σ2 H5 _ ⟨_, _, _, _, _, _, _, _, h, _⟩ => sq_of h) ?_ ?_
    · rintro j y σ2 H5 H6 hj ⟨v4, v5, rfl, c5, d5, t5, S5, hk5, hL5, ht5⟩ ⟨T, y1, y2, rfl, hT, rfl, ey1, ey2⟩
      cases ey1
      obtain ⟨sd, s', rfl, hs', hsd⟩ := ht5.get ey2
      refine ⟨T, _, rfl, st_of upd_same, rfl, _, _, rfl, _, _, rfl, rfl, ?_⟩
      have e56 : Ex H5 (upd H5 T (.tup [vn j, .ref sd])) := Ex.new hT
      have hjl : j < (sentencesOf t).length := (List.getElem?_eq_some_iff.mp hs').1
      have sl := sent_len t
      refine s_sput (K := W.K) (F := FSpot) (k := (k, j)) (s := s') (fun H7 e7 Q q => ⟨_, rfl, q sd H7 (Ex.refl H7) (e7 _ _ (e56 _ _ hsd))⟩) (ev_var rfl) (en_spot (ev_var rfl) (e56 _ _ hk5) (ev_var rfl)) (S5.ex e56) ?_ fun H7 o' e7 S7 => ?_
      · rw [List.length_append, numFrom_len, List.length_take]
        omega
      · have e57 := e56.trans e7
        obtain ⟨kvs7, ⟨_, _, _, xs7, hd7, _⟩, _⟩ := S5.ex e57
        refine ⟨some (vn j), some (.ref sd), rfl, fun c oc hc nc => ?_, ?_, fun c zs hc => ?_, ?_, ?_, ?_, ?_⟩
        · rw [upd_ne (ne_of_none hc hR)]
          exact e57 _ _ (c5 c oc hc nc)
        · rw [upd_ne (Ne.symm hRd), hlk]
          exact e57 _ _ (d5.trans hlk)
        · have := e57 _ _ (t5 c zs hc)
          rw [upd_ne (ne_of this hd7 (fun z => nomatch z))]
          exact this
        · have en : valA ((X.take i).flatMap numText ++ numFrom k 0 ((sentencesOf t).take j)) (k, j) = none := by
            refine valA_none fun x hx z => ?_
            rcases List.mem_append.mp hx with hx | hx
            · exact fresh x hx (congrArg Prod.fst z)
            · have h3 := (numFrom_keys _ _ _ x hx).2.2
              rw [congrArg Prod.snd z, List.length_take] at h3
              have : (((k, j) : List Nat × Nat).2) = j := rfl
              omega
          rw [putA_new _ en, List.append_assoc] at S7
          rw [take_more hs', numFrom_snoc, List.length_take, Nat.zero_add, Nat.min_eq_left (by omega)]
          exact S7
        · rw [upd_ne (ne_of (e57 _ _ hk5) hd7 (fun z => nomatch z))]
          exact e57 _ _ hk5
        · rw [upd_ne (ne_of (e57 _ _ hL5) hd7 (fun z => nomatch z))]
          exact e57 _ _ hL5
        · refine Paired.mapP (ex_tups e57 ht5) fun _ _ ⟨c, ec, hc⟩ => ⟨c, ec, ?_⟩
          rw [upd_ne (ne_of hc hd7 (fun z => nomatch z))]
          exact hc
    · rintro σ2 H5 ⟨v4, v5, rfl, c5, d5, t5, S5, hk5, hL5, ht5⟩
      rw [ht5.len, List.take_length] at S5
      refine hD' _ _ ⟨some (.ref b), some (.ref sa), v4, v5, rfl, c5, ?_⟩ d5 t5
      rw [flat_take numText hi]
      exact S5
  · rintro σ' H' od ⟨v2, v3, v4, v5, rfl, c2, SB⟩ ho ⟨o1, u1, hfz⟩ SDn
    rw [List.take_length] at SB
    have ho' : H d = some od := by
      rw [upd_ne (Ne.symm hRd)] at ho
      exact ho
    have hex : Ex H (upd H' d od) := fun b ob hb => by
      by_cases hbd : b = d
      · rw [hbd, upd_same]
        rw [hbd] at hb
        exact ho'.symm.trans hb
      · rw [upd_ne hbd]
        exact c2 b ob hb hbd
    refine s_ret (ev_var rfl) fun H2 e2 => q R H2 hR (hex.trans e2) (SD.ex e2 ?_)
    refine SB.keeps (fun b xs h => ?_) fun o h => ?_
    · rw [upd_ne (ne_of h hfz (fun z => nomatch z))]
      exact h
    · rw [upd_ne hRd]
      exact h
end Fo

set_option linter.all false
/-! The program's plain functions against the specification: reading. -/
namespace Fo
open Ut13 (Tok Text Bytes)
theorem isDigit_eq (c : Nat) : Ut13.isDigit c = isDigit c := rfl
theorem isName_eq (c : Nat) : Ut13.isName c = isKeyByte c := by
  show ((decide (97 ≤ c) && decide (c ≤ 122)) || ((decide (48 ≤ c) && decide (c ≤ 57)) || c == 46)) = ((decide (97 ≤ c) && decide (c ≤ 122)) || ((decide (48 ≤ c) && decide (c ≤ 57)) || decide (c = 46)))
  rfl
/-- a thing as it's written -/
def raw : Tok → List Nat
  | .byte c => if c = 10 then [92, 110] else if c = 9 then [92, 116] else if c = 92 ∨ c = 60 then [92, c] else [c]
  | .open_ n => [60, 48 + n, 62]
  | .close n => [60, 47, 48 + n, 62]
  | .alone n => [60, 48 + n, 47, 62]
theorem textBytes_cons (x : Tok) (t : Text) : Ut13.textBytes (x :: t) = raw x ++ Ut13.textBytes t := by
  cases x <;> rfl
theorem textBytes_nil : Ut13.textBytes [] = [] := rfl
theorem textBytes_app (s t : Text) : Ut13.textBytes (s ++ t) = Ut13.textBytes s ++ Ut13.textBytes t := by
  induction s with
  | nil => rfl
  | cons x s ih => rw [List.cons_append, textBytes_cons, textBytes_cons, ih, List.append_assoc]
theorem raw_ne (x : Tok) : raw x ≠ [] := by
  cases x with
  | byte c =>
    unfold raw
    repeat' split
    all_goals simp
  | _ => simp [raw]
/-- the first fault of a text told as the specification does -/
def errOf : Except Nat Text → Option Nat
  | .error p => some p
  | .ok _ => none
theorem errOf_map {f : Text → Text} : ∀ x : Except Nat Text, errOf (x.map f) = errOf x
  | .error _ => rfl
  | .ok _ => rfl
theorem tf_nil (p : Nat) : Ut13.textFrom p [] = .ok [] := by rw [Ut13.textFrom]
theorem tf_plain {p c : Nat} {w : List Nat} (h1 : c ≠ 92) (h2 : c ≠ 60) : Ut13.textFrom p (c :: w) = if c = 9 then .error p else (Ut13.textFrom (p + 1) w).map fun t => .byte c :: t := by
  rw [Ut13.textFrom]
  · exact fun h => h1 h
  · exact fun h => h2 h
def esc (c : Nat) : Option Nat := if c = 110 then some 10 else if c = 116 then some 9 else if c = 92 ∨ c = 60 then some c else none
theorem tf_esc0 (p : Nat) : Ut13.textFrom p [92] = .error (p + 1) := by rw [Ut13.textFrom]
theorem tf_esc (p c : Nat) (w : List Nat) : Ut13.textFrom p (92 :: c :: w) = match esc c with
    | none => .error (p + 1)
    | some b => (Ut13.textFrom (p + 2) w).map fun t => .byte b :: t := by
  rw [Ut13.textFrom]
  rfl

theorem dig47 : Ut13.isDigit 47 = false := rfl
theorem dig62 : Ut13.isDigit 62 = false := rfl
theorem tf_l0 (p : Nat) : Ut13.textFrom p [60] = .error (p + 1) := by rw [Ut13.textFrom]
theorem tf_close {p d : Nat} {v : List Nat} : Ut13.textFrom p (60 :: 47 :: d :: 62 :: v) = if Ut13.isDigit d = true then (Ut13.textFrom (p + 4) v).map fun t => .close (d - 48) :: t else .error (p + 2) := by
  rw [Ut13.textFrom]
theorem tf_open {p d : Nat} {v : List Nat} (h : d ≠ 47) : Ut13.textFrom p (60 :: d :: 62 :: v) = if Ut13.isDigit d = true then (Ut13.textFrom (p + 3) v).map fun t => .open_ (d - 48) :: t else .error (p + 1) := by
  rw [Ut13.textFrom]
  · rw [if_neg h]
  · intro v' h1 h2
    exact h h1
theorem tf_open47 {p : Nat} {v : List Nat} : Ut13.textFrom p (60 :: 47 :: 62 :: v) = .error (p + 2) := by
  cases v with
  | nil => simp [Ut13.textFrom, dig47]
  | cons c v =>
    by_cases h : c = 62
    · subst h
      rw [tf_close, dig62]
      rfl
    · rw [Ut13.textFrom]
      · simp [dig47]
      · intro v' h1 h2
        injection h2 with h2 h3
        exact h h2
theorem tf_alone {p d : Nat} {v : List Nat} (h : d ≠ 47) : Ut13.textFrom p (60 :: d :: 47 :: 62 :: v) = if Ut13.isDigit d = true then (Ut13.textFrom (p + 4) v).map fun t => .alone (d - 48) :: t else .error (p + 1) := by
  rw [Ut13.textFrom]
  all_goals (intros; simp_all)
theorem tf_47 {p d : Nat} {v : List Nat} (h : d ≠ 62) (h2 : ∀ u, v ≠ 62 :: u) : Ut13.textFrom p (60 :: 47 :: d :: v) = .error (p + if Ut13.isDigit d = true then 3 else 2) := by
  rw [Ut13.textFrom]
  all_goals (intros; simp_all)
theorem tf_47e {p : Nat} : Ut13.textFrom p [60, 47] = .error (p + 2) := by rw [Ut13.textFrom]
theorem tf_d47 {p d : Nat} {v : List Nat} (h : d ≠ 47) (h2 : ∀ u, v ≠ 62 :: u) : Ut13.textFrom p (60 :: d :: 47 :: v) = .error (p + if Ut13.isDigit d = true then 3 else 1) := by
  rw [Ut13.textFrom]
  all_goals (intros; simp_all)
theorem tf_d {p d : Nat} {v : List Nat} (h : d ≠ 47) (h2 : ∀ u, v ≠ 62 :: u) (h3 : ∀ u, v ≠ 47 :: u) : Ut13.textFrom p (60 :: d :: v) = .error (p + if Ut13.isDigit d = true then 2 else 1) := by
  rw [Ut13.textFrom]
  all_goals (intros; simp_all)
end Fo

set_option linter.all false
namespace Fo
open Ut13 (Tok Text Bytes)
theorem ff_text (j a : Nat) (r : List Nat) : faultFrom j .text (a :: r) = if a = 92 then faultFrom (j + 1) .bslash r else if a = 60 then faultFrom (j + 1) .less r else if a = 9 then some j else faultFrom (j + 1) .text r := by
  rw [faultFrom]
  by_cases h1 : a = 92
  · simp [sb, sbText, h1]
  · by_cases h2 : a = 60
    · simp [sb, sbText, h2]
    · by_cases h3 : a = 9
      · simp [sb, sbText, h3]
      · simp [sb, sbText, h1, h2, h3]
theorem ff_bslash (j a : Nat) (r : List Nat) : faultFrom j .bslash (a :: r) = if a ∈ [60, 92, 110, 116] then faultFrom (j + 1) .text r else some j := by
  rw [faultFrom]
  by_cases h : a ∈ [60, 92, 110, 116]
  · have e : sb .bslash a = .text := by rw [sb, if_neg (by decide), if_neg (by decide), if_pos rfl, if_pos h]
    rw [e, if_neg (by decide), if_pos h]
  · have e : sb .bslash a = .wrong := by rw [sb, if_neg (by decide), if_neg (by decide), if_pos rfl, if_neg h]
    rw [e, if_pos rfl, if_neg h]
theorem ff_less (j a : Nat) (r : List Nat) : faultFrom j .less (a :: r) = if a = 47 then faultFrom (j + 1) .closing r else if isDigit a = true then faultFrom (j + 1) .digit r else some j := by
  rw [faultFrom]
  by_cases h : a = 47
  · simp [sb, sbTag, h]
  · by_cases h2 : isDigit a = true
    · simp [sb, sbTag, h, h2]
    · simp [sb, sbTag, h, h2]
theorem ff_closing (j a : Nat) (r : List Nat) : faultFrom j .closing (a :: r) = if isDigit a = true then faultFrom (j + 1) .tagEnd r else some j := by
  rw [faultFrom]
  by_cases h2 : isDigit a = true
  · simp [sb, sbTag, h2]
  · simp [sb, sbTag, h2]
theorem ff_digit (j a : Nat) (r : List Nat) : faultFrom j .digit (a :: r) = if a = 47 then faultFrom (j + 1) .tagEnd r else if a = 62 then faultFrom (j + 1) .text r else some j := by
  rw [faultFrom]
  by_cases h : a = 47
  · simp [sb, sbTag, h]
  · by_cases h2 : a = 62
    · simp [sb, sbTag, h2]
    · simp [sb, sbTag, h, h2]
theorem ff_tagEnd (j a : Nat) (r : List Nat) : faultFrom j .tagEnd (a :: r) = if a = 62 then faultFrom (j + 1) .text r else some j := by
  rw [faultFrom]
  by_cases h2 : a = 62
  · simp [sb, sbTag, h2]
  · simp [sb, sbTag, h2]
theorem ff_nil {s : RS} (j : Nat) (h : s ≠ .text) : faultFrom j s [] = some j := by rw [faultFrom, if_neg h]
/-- how the bytes of a text are things -/
theorem th_esc (c : Nat) (w : List Nat) : thingsOf (92 :: c :: w) = [92, c] :: thingsOf w := by
  rw [thingsOf_cons (by simp)]
  rfl
theorem th_plain {c : Nat} (w : List Nat) (h1 : c ≠ 92) (h2 : c ≠ 60) : thingsOf (c :: w) = [c] :: thingsOf w := by
  rw [thingsOf_cons (by simp)]
  have e : sizeAt (c :: w) = 1 := by simp [sizeAt, h1, h2]
  rw [e]
  rfl
theorem th_open {d : Nat} (w : List Nat) (h : d ≠ 47) : thingsOf (60 :: d :: 62 :: w) = [60, d, 62] :: thingsOf w := by
  rw [thingsOf_cons (by simp)]
  have e : sizeAt (60 :: d :: 62 :: w) = 3 := by
    have : ¬ 47 = d := fun z => h z.symm
    simp [sizeAt, this]
  rw [e]
  rfl
theorem th_close (d : Nat) (w : List Nat) : thingsOf (60 :: 47 :: d :: 62 :: w) = [60, 47, d, 62] :: thingsOf w := by
  rw [thingsOf_cons (by simp)]
  have e : sizeAt (60 :: 47 :: d :: 62 :: w) = 4 := by simp [sizeAt]
  rw [e]
  rfl
theorem th_alone (d : Nat) (w : List Nat) : thingsOf (60 :: d :: 47 :: 62 :: w) = [60, d, 47, 62] :: thingsOf w := by
  rw [thingsOf_cons (by simp)]
  have e : sizeAt (60 :: d :: 47 :: 62 :: w) = 4 := by simp [sizeAt]
  rw [e]
  rfl
/-- a tag's number is a digit -/
def Valid : Tok → Prop
  | .byte _ => True
  | .open_ n => n ≤ 9
  | .close n => n ≤ 9
  | .alone n => n ≤ 9
structure Reads (w : List Nat) (t : Text) : Prop where
  things : thingsOf w = t.map raw
  bytes : Ut13.textBytes t = w
  valid : ∀ x ∈ t, Valid x
theorem Reads.nil : Reads [] [] := ⟨by rw [thingsOf_nil]; rfl, rfl, fun _ h => by cases h⟩
theorem Reads.cons {w r : List Nat} {x : Tok} {t : Text} (h : Reads w t) (hr : raw x = r) (ht : thingsOf (r ++ w) = r :: thingsOf w) (hv : Valid x) : Reads (r ++ w) (x :: t) :=
  ⟨by rw [ht, h.things, List.map_cons, hr], by rw [textBytes_cons, h.bytes, hr], fun y hy => by
    rcases List.mem_cons.mp hy with e | hy
    · rw [e]; exact hv
    · exact h.valid y hy⟩
theorem map_ok {x : Except Nat Text} {f : Text → Text} {t : Text} (h : x.map f = .ok t) : ∃ u, x = .ok u ∧ t = f u := by
  cases x with
  | error p => cases h
  | ok u =>
    have : Except.ok (f u) = (Except.ok t : Except Nat Text) := h
    exact ⟨u, rfl, by injection this with this; exact this.symm⟩
theorem dig_lo {d : Nat} (h : isDigit d = true) : 48 ≤ d ∧ d ≤ 57 := by
  unfold isDigit at h
  rw [Bool.and_eq_true] at h
  exact ⟨of_decide_eq_true h.1, of_decide_eq_true h.2⟩
/-- the fault, and what is read where there is none -/
def Fits (i : Nat) (w : List Nat) : Prop := faultFrom i .text w = errOf (Ut13.textFrom i w) ∧ ∀ t, Ut13.textFrom i w = .ok t → 10 ∉ w → Reads w t
theorem Fits.err {i p : Nat} {w : List Nat} (h1 : Ut13.textFrom i w = .error p) (h2 : faultFrom i .text w = some p) : Fits i w := ⟨by rw [h1, h2]; rfl, fun t h => by rw [h1] at h; cases h⟩
theorem Fits.tag {i k : Nat} {r u : List Nat} {d : Nat} {x : Tok} (ih : Fits (i + k) u) (h1 : Ut13.textFrom i (r ++ u) = if Ut13.isDigit d = true then (Ut13.textFrom (i + k) u).map fun t => x :: t else .error (i + 2)) (h2 : faultFrom i .text (r ++ u) = if isDigit d = true then faultFrom (i + k) .text u else some (i + 2))
    (h3 : isDigit d = true → raw x = r ∧ Valid x) (h4 : thingsOf (r ++ u) = r :: thingsOf u) : Fits i (r ++ u) := by
  rw [isDigit_eq] at h1
  by_cases hd : isDigit d = true
  · rw [if_pos hd] at h1 h2
    refine ⟨by rw [h1, h2, ih.1, errOf_map], fun t h hn => ?_⟩
    rw [h1] at h
    obtain ⟨y, hy, rfl⟩ := map_ok h
    exact Reads.cons (ih.2 y hy (fun z => hn (List.mem_append_right _ z))) (h3 hd).1 h4 (h3 hd).2
  · rw [if_neg hd] at h1 h2
    exact .err h1 h2
theorem Fits.tag1 {i k : Nat} {r u : List Nat} {d : Nat} {x : Tok} (ih : Fits (i + k) u) (h1 : Ut13.textFrom i (r ++ u) = if Ut13.isDigit d = true then (Ut13.textFrom (i + k) u).map fun t => x :: t else .error (i + 1)) (h2 : faultFrom i .text (r ++ u) = if isDigit d = true then faultFrom (i + k) .text u else some (i + 1))
    (h3 : isDigit d = true → raw x = r ∧ Valid x) (h4 : thingsOf (r ++ u) = r :: thingsOf u) : Fits i (r ++ u) := by
  rw [isDigit_eq] at h1
  by_cases hd : isDigit d = true
  · rw [if_pos hd] at h1 h2
    refine ⟨by rw [h1, h2, ih.1, errOf_map], fun t h hn => ?_⟩
    rw [h1] at h
    obtain ⟨y, hy, rfl⟩ := map_ok h
    exact Reads.cons (ih.2 y hy (fun z => hn (List.mem_append_right _ z))) (h3 hd).1 h4 (h3 hd).2
  · rw [if_neg hd] at h1 h2
    exact .err h1 h2
theorem esc_raw {c b : Nat} (hb : esc c = some b) : raw (.byte b) = [92, c] := by
  unfold esc at hb
  by_cases h1 : c = 110
  · rw [if_pos h1] at hb
    cases hb
    rw [h1]
    rfl
  · rw [if_neg h1] at hb
    by_cases h2 : c = 116
    · rw [if_pos h2] at hb
      cases hb
      rw [h2]
      rfl
    · rw [if_neg h2] at hb
      by_cases h3 : c = 92 ∨ c = 60
      · rw [if_pos h3] at hb
        cases hb
        rcases h3 with h3 | h3 <;> rw [h3] <;> rfl
      · rw [if_neg h3] at hb
        cases hb
theorem esc_some (c : Nat) : (esc c).isSome = decide (c ∈ [60, 92, 110, 116]) := by
  unfold esc
  by_cases h1 : c = 110
  · simp [h1]
  · by_cases h2 : c = 116
    · simp [h2]
    · by_cases h3 : c = 92
      · simp [h3]
      · by_cases h4 : c = 60
        · simp [h4]
        · simp [h1, h2, h3, h4]
theorem fits_step (w : List Nat) (ih : ∀ u : List Nat, u.length < w.length → ∀ i, Fits i u) (i : Nat) : Fits i w := by
  cases w with
  | nil =>
    refine ⟨by rw [tf_nil]; rfl, fun t h _ => ?_⟩
    rw [tf_nil] at h
    cases h
    exact .nil
  | cons a w1 =>
    by_cases h92 : a = 92
    · subst h92
      cases w1 with
      | nil => exact .err (tf_esc0 i) (by rw [ff_text, if_pos rfl, ff_nil _ (by decide)])
      | cons c v =>
        have ih' := ih v (by simp; omega) (i + 2)
        have es := esc_some c
        cases hc : esc c with
        | none =>
          rw [hc] at es
          have hn : ¬ c ∈ [60, 92, 110, 116] := fun z => by rw [decide_eq_true z] at es; cases es
          exact .err (p := i + 1) (by rw [tf_esc, hc]) (by rw [ff_text, if_pos rfl, ff_bslash, if_neg hn])
        | some b =>
          rw [hc] at es
          have hy : c ∈ [60, 92, 110, 116] := of_decide_eq_true es.symm
          have h1 : Ut13.textFrom i (92 :: c :: v) = (Ut13.textFrom (i + 2) v).map fun t => .byte b :: t := by rw [tf_esc, hc]
          refine ⟨by rw [h1, errOf_map, ← ih'.1, ff_text, if_pos rfl, ff_bslash, if_pos hy], fun t h hn => ?_⟩
          rw [h1] at h
          obtain ⟨u, hu, rfl⟩ := map_ok h
          exact Reads.cons (r := [92, c]) (ih'.2 u hu (fun z => hn (List.mem_append_right [92, c] z))) (esc_raw hc) (th_esc c v) trivial
    · by_cases h60 : a = 60
      · subst h60
        have e0 : ∀ v, faultFrom i .text (60 :: v) = faultFrom (i + 1) .less v := fun v => by rw [ff_text, if_neg (by decide), if_pos rfl]
        cases w1 with
        | nil => exact .err (tf_l0 i) (by rw [e0, ff_nil _ (by decide)])
        | cons d v =>
          by_cases h47 : d = 47
          · subst h47
            cases v with
            | nil => exact .err tf_47e (by rw [e0, ff_less, if_pos rfl, ff_nil _ (by decide)])
            | cons d v =>
              have e1 : ∀ v, faultFrom i .text (60 :: 47 :: d :: v) = if isDigit d = true then faultFrom (i + 3) .tagEnd v else some (i + 2) := fun v => by rw [e0, ff_less, if_pos rfl, ff_closing]
              cases v with
              | nil =>
                by_cases h62 : d = 62
                · subst h62
                  exact .err tf_open47 (by rw [e1]; rfl)
                · refine .err (tf_47 h62 (fun u z => by cases z)) ?_
                  rw [e1, ff_nil _ (by decide), isDigit_eq]
                  by_cases hd : isDigit d = true
                  · rw [if_pos hd, if_pos hd]
                  · rw [if_neg hd, if_neg hd]
              | cons c u =>
                by_cases h62c : c = 62
                · subst h62c
                  refine Fits.tag (r := [60, 47, d, 62]) (d := d) (k := 4) (x := .close (d - 48)) (ih u (by simp; omega) (i + 4)) tf_close (by show faultFrom i .text (60 :: 47 :: d :: 62 :: u) = _; rw [e1, ff_tagEnd, if_pos rfl]) (fun hd => ?_) (th_close d u)
                  have := dig_lo hd
                  refine ⟨?_, ?_⟩
                  · show [60, 47, 48 + (d - 48), 62] = _
                    rw [show 48 + (d - 48) = d by omega]
                  · show d - 48 ≤ 9
                    omega
                · by_cases h62 : d = 62
                  · subst h62
                    exact .err tf_open47 (by rw [e1]; rfl)
                  · refine .err (tf_47 h62 (fun u z => by injection z with z1 z2; exact h62c z1)) ?_
                    rw [e1, ff_tagEnd, if_neg h62c, isDigit_eq]
                    by_cases hd : isDigit d = true
                    · rw [if_pos hd, if_pos hd]
                    · rw [if_neg hd, if_neg hd]
          · have e1 : ∀ v, faultFrom i .text (60 :: d :: v) = if isDigit d = true then faultFrom (i + 2) .digit v else some (i + 1) := fun v => by rw [e0, ff_less, if_neg h47]
            have dd : isDigit d = true → 48 + (d - 48) = d ∧ d - 48 ≤ 9 := fun hd => by have := dig_lo hd; omega
            cases v with
            | nil =>
              refine .err (tf_d h47 (fun u z => by cases z) (fun u z => by cases z)) ?_
              rw [e1, ff_nil _ (by decide), isDigit_eq]
              by_cases hd : isDigit d = true
              · rw [if_pos hd, if_pos hd]
              · rw [if_neg hd, if_neg hd]
            | cons c u =>
              by_cases h62 : c = 62
              · subst h62
                refine Fits.tag1 (r := [60, d, 62]) (d := d) (k := 3) (x := .open_ (d - 48)) (ih u (by simp; omega) (i + 3)) (tf_open h47) (by show faultFrom i .text (60 :: d :: 62 :: u) = _; rw [e1, ff_digit, if_neg (show ¬ (62 : Nat) = 47 by decide), if_pos (show (62 : Nat) = 62 from rfl)]) (fun hd => ⟨?_, (dd hd).2⟩) (th_open u h47)
                show [60, 48 + (d - 48), 62] = _
                rw [(dd hd).1]
              · by_cases hc47 : c = 47
                · subst hc47
                  cases u with
                  | nil =>
                    refine .err (tf_d47 h47 (fun u z => by cases z)) ?_
                    rw [e1, ff_digit, if_pos rfl, ff_nil _ (by decide), isDigit_eq]
                    by_cases hd : isDigit d = true
                    · rw [if_pos hd, if_pos hd]
                    · rw [if_neg hd, if_neg hd]
                  | cons b u =>
                    by_cases hb : b = 62
                    · subst hb
                      refine Fits.tag1 (r := [60, d, 47, 62]) (d := d) (k := 4) (x := .alone (d - 48)) (ih u (by simp; omega) (i + 4)) (tf_alone h47) (by show faultFrom i .text (60 :: d :: 47 :: 62 :: u) = _; rw [e1, ff_digit, if_pos rfl, ff_tagEnd, if_pos rfl]) (fun hd => ⟨?_, (dd hd).2⟩) (th_alone d u)
                      show [60, 48 + (d - 48), 47, 62] = _
                      rw [(dd hd).1]
                    · refine .err (tf_d47 h47 (fun u z => by injection z with z1 z2; exact hb z1)) ?_
                      rw [e1, ff_digit, if_pos rfl, ff_tagEnd, if_neg hb, isDigit_eq]
                      by_cases hd : isDigit d = true
                      · rw [if_pos hd, if_pos hd]
                      · rw [if_neg hd, if_neg hd]
                · refine .err (tf_d h47 (fun u z => by injection z with z1 z2; exact h62 z1) (fun u z => by injection z with z1 z2; exact hc47 z1)) ?_
                  rw [e1, ff_digit, if_neg hc47, if_neg h62, isDigit_eq]
                  by_cases hd : isDigit d = true
                  · rw [if_pos hd, if_pos hd]
                  · rw [if_neg hd, if_neg hd]
      · have ih' := ih w1 (by simp) (i + 1)
        have h1 : Ut13.textFrom i (a :: w1) = if a = 9 then .error i else (Ut13.textFrom (i + 1) w1).map fun t => .byte a :: t := tf_plain h92 h60
        have h2 : faultFrom i .text (a :: w1) = if a = 9 then some i else faultFrom (i + 1) .text w1 := by rw [ff_text, if_neg h92, if_neg h60]
        by_cases h9 : a = 9
        · rw [if_pos h9] at h1 h2
          exact .err h1 h2
        · rw [if_neg h9] at h1 h2
          refine ⟨by rw [h1, h2, errOf_map, ih'.1], fun t h hn => ?_⟩
          rw [h1] at h
          obtain ⟨u, hu, rfl⟩ := map_ok h
          have h10 : ¬ a = 10 := fun z => hn (by rw [z]; exact List.mem_cons_self ..)
          refine Reads.cons (r := [a]) (ih'.2 u hu (fun z => hn (List.mem_cons_of_mem _ z))) ?_ (th_plain w1 h92 h60) trivial
          show (if a = 10 then [92, 110] else if a = 9 then [92, 116] else if a = 92 ∨ a = 60 then [92, a] else [a]) = [a]
          rw [if_neg h10, if_neg h9, if_neg (by simp [h92, h60])]
theorem fits (w : List Nat) (i : Nat) : Fits i w := by
  have key : ∀ n (w : List Nat), w.length < n → ∀ i, Fits i w := by
    intro n
    induction n with
    | zero => exact fun w h => absurd h (Nat.not_lt_zero _)
    | succ n ih => exact fun w h => fits_step w fun u hu => ih u (by omega)
  exact key (w.length + 1) w (Nat.lt_succ_self _) i
theorem fault_text (i : Nat) (w : List Nat) : faultFrom i .text w = errOf (Ut13.textFrom i w) := (fits w i).1
theorem reads_text {i : Nat} {w : List Nat} {t : Text} (h : Ut13.textFrom i w = .ok t) (hn : 10 ∉ w) : Reads w t := (fits w i).2 t h hn
end Fo

set_option linter.all false
namespace Fo
open Ut13 (Tok Text Bytes)
/-! ### tags -/
theorem raw_byte (c : Nat) : raw (.byte c) = if c = 10 then [92, 110] else if c = 9 then [92, 116] else if c = 92 ∨ c = 60 then [92, c] else [c] := rfl
theorem raw_len_byte (c : Nat) : (raw (.byte c)).length = 1 ∨ (raw (.byte c)).length = 2 := by
  rw [raw_byte]
  repeat' split
  all_goals simp
theorem tagsRun_cons (st seen : List Nat) (t : List Nat) (r : List (List Nat)) : tagsRun st seen (t :: r) = if isClosing t = true then (match st with
      | [] => false
      | m :: st' => if m = t.getD 2 0 then tagsRun st' seen r else false)
    else if (isOpening t || isAlone t) = true then
      (if t.getD 1 0 ∈ seen then false else tagsRun (if isOpening t = true then t.getD 1 0 :: st else st) (t.getD 1 0 :: seen) r)
    else tagsRun st seen r := by cases st <;> rfl
theorem cl_byte (c : Nat) : isClosing (raw (.byte c)) = false := by
  unfold isClosing
  rcases raw_len_byte c with h | h <;> rw [h] <;> rfl
theorem op_byte (c : Nat) : isOpening (raw (.byte c)) = false := by
  unfold isOpening
  rcases raw_len_byte c with h | h <;> rw [h] <;> rfl
theorem al_byte (c : Nat) : isAlone (raw (.byte c)) = false := by
  unfold isAlone
  rcases raw_len_byte c with h | h <;> rw [h] <;> rfl
theorem cl_open (n : Nat) : isClosing (raw (.open_ n)) = false := rfl
theorem op_open (n : Nat) : isOpening (raw (.open_ n)) = true := rfl
theorem al_open (n : Nat) : isAlone (raw (.open_ n)) = false := rfl
theorem cl_close (n : Nat) : isClosing (raw (.close n)) = true := rfl
theorem op_close (n : Nat) : isOpening (raw (.close n)) = false := rfl
theorem al_close (n : Nat) : isAlone (raw (.close n)) = false := by
  show (decide (4 = 4) && decide (48 + n = 47)) = false
  rw [decide_eq_false (by omega : ¬ 48 + n = 47), Bool.and_false]
theorem cl_alone (n : Nat) : isClosing (raw (.alone n)) = false := by
  show (decide (4 = 4) && decide (48 + n = 47)) = false
  rw [decide_eq_false (by omega : ¬ 48 + n = 47), Bool.and_false]
theorem op_alone (n : Nat) : isOpening (raw (.alone n)) = false := rfl
theorem al_alone (n : Nat) : isAlone (raw (.alone n)) = true := rfl
def up (l : List Nat) : List Nat := l.map (48 + ·)
theorem mem_up {n : Nat} {l : List Nat} : 48 + n ∈ up l ↔ n ∈ l := by
  unfold up
  rw [List.mem_map]
  constructor
  · rintro ⟨m, hm, e⟩
    have : m = n := by omega
    rw [← this]
    exact hm
  · exact fun h => ⟨n, h, rfl⟩
theorem tags_eq : ∀ (t : Text) (st seen : List Nat), tagsRun (up st) (up seen) (t.map raw) = Ut13.tagsOk st seen t
  | [], st, seen => by
    rw [List.map_nil, tagsRun, Ut13.tagsOk]
    cases st <;> rfl
  | .byte c :: t, st, seen => by
    rw [List.map_cons, tagsRun_cons, Ut13.tagsOk, if_neg (by rw [cl_byte]; decide), if_neg (by rw [op_byte, al_byte]; decide), tags_eq t]
  | .open_ n :: t, st, seen => by
    rw [List.map_cons, tagsRun_cons, Ut13.tagsOk, if_neg (by rw [cl_open]; decide), if_pos (by rw [op_open]; rfl), if_pos (op_open n)]
    show (if 48 + n ∈ up seen then false else tagsRun (up (n :: st)) (up (n :: seen)) (t.map raw)) = _
    rw [tags_eq t]
    by_cases h : n ∈ seen
    · rw [if_pos (mem_up.mpr h)]
      simp [h]
    · rw [if_neg (fun z => h (mem_up.mp z))]
      simp [h]
  | .close n :: t, st, seen => by
    rw [List.map_cons, tagsRun_cons, if_pos (cl_close n)]
    cases st with
    | nil => rfl
    | cons m r =>
      show (if 48 + m = 48 + n then tagsRun (up r) (up seen) (t.map raw) else false) = (m == n && Ut13.tagsOk r seen t)
      rw [tags_eq t]
      by_cases h : m = n
      · subst h
        simp
      · rw [if_neg (by omega)]
        simp [h]
  | .alone n :: t, st, seen => by
    rw [List.map_cons, tagsRun_cons, Ut13.tagsOk, if_neg (by rw [cl_alone]; decide), if_pos (by rw [al_alone, op_alone]; rfl), if_neg (show ¬ isOpening (raw (.alone n)) = true by rw [op_alone]; decide)]
    show (if 48 + n ∈ up seen then false else tagsRun (up st) (up (n :: seen)) (t.map raw)) = _
    rw [tags_eq t]
    by_cases h : n ∈ seen
    · rw [if_pos (mem_up.mpr h)]
      simp [h]
    · rw [if_neg (fun z => h (mem_up.mp z))]
      simp [h]
/-! ### sentences -/
theorem raw_32 (c : Nat) : raw (.byte c) = [32] ↔ c = 32 := by
  rw [raw_byte]
  constructor
  · intro h
    by_cases h1 : c = 10
    · rw [if_pos h1] at h
      cases h
    · rw [if_neg h1] at h
      by_cases h2 : c = 9
      · rw [if_pos h2] at h
        cases h
      · rw [if_neg h2] at h
        by_cases h3 : c = 92 ∨ c = 60
        · rw [if_pos h3] at h
          cases h
        · rw [if_neg h3] at h
          injection h
  · rintro rfl
    rfl
theorem raw_plain {c : Nat} (h1 : c ≠ 10) (h2 : c ≠ 9) (h3 : c ≠ 92) (h4 : c ≠ 60) : raw (.byte c) = [c] := by
  show (if c = 10 then [92, 110] else if c = 9 then [92, 116] else if c = 92 ∨ c = 60 then [92, c] else [c]) = [c]
  rw [if_neg h1, if_neg h2, if_neg (by simp [h3, h4])]
theorem stops_byte (c : Nat) : [[33], [46], [63]].contains (raw (.byte c)) = Ut13.ender c := by
  by_cases h1 : c = 10
  · subst h1; rfl
  by_cases h2 : c = 9
  · subst h2; rfl
  by_cases h3 : c = 92
  · subst h3; rfl
  by_cases h4 : c = 60
  · subst h4; rfl
  rw [raw_plain h1 h2 h3 h4]
  unfold Ut13.ender
  simp only [List.contains_cons, List.contains_nil, Bool.or_false]
  show (c == 33 && true || (c == 46 && true || c == 63 && true)) = (c == 46 || (c == 33 || c == 63))
  cases (c == 33) <;> cases (c == 46) <;> cases (c == 63) <;> rfl
theorem stops_tag {x : List Nat} (h : 2 ≤ x.length) : [[33], [46], [63]].contains x = false := by
  match x, h with
  | a :: b :: r, _ => simp
theorem end_byte (s c : Nat) : endingBehind s (raw (.byte c)) = if Ut13.ender c = true then 1 else if c = 32 ∧ 1 ≤ s then 2 else 0 := by
  rw [endingBehind, stops_byte]
  by_cases h : Ut13.ender c = true
  · rw [if_pos h, if_pos h]
  · rw [if_neg h, if_neg h]
    by_cases hb : c = 32
    · rw [if_pos ((raw_32 c).mpr hb)]
      by_cases hs : s = 0
      · rw [if_pos hs, if_neg (by omega)]
      · rw [if_neg hs, if_pos ⟨hb, by omega⟩]
    · rw [if_neg (fun z => hb ((raw_32 c).mp z)), cl_byte, al_byte, if_neg (by decide), if_neg (fun z => hb z.1)]
theorem end_open (s n : Nat) : endingBehind s (raw (.open_ n)) = 0 := by
  rw [endingBehind, if_neg (by rw [stops_tag (by show 2 ≤ 3; decide)]; decide), if_neg (by simp [raw]), cl_open, al_open, if_neg (by decide)]
theorem end_close (s n : Nat) : endingBehind s (raw (.close n)) = s := by
  rw [endingBehind, if_neg (by rw [stops_tag (by show 2 ≤ 4; decide)]; decide), if_neg (by simp [raw]), cl_close, if_pos (by rfl)]
theorem end_alone (s n : Nat) : endingBehind s (raw (.alone n)) = s := by
  rw [endingBehind, if_neg (by rw [stops_tag (by show 2 ≤ 4; decide)]; decide), if_neg (by simp [raw]), cl_alone, al_alone, if_pos (by rfl)]
theorem dep_byte (d : Int) (c : Nat) : depthBehind d (raw (.byte c)) = d := by rw [depthBehind, op_byte, cl_byte] <;> rfl
theorem dep_open (d : Int) (n : Nat) : depthBehind d (raw (.open_ n)) = d + 1 := rfl
theorem dep_close (d : Int) (n : Nat) : depthBehind d (raw (.close n)) = d - 1 := rfl
theorem dep_alone (d : Int) (n : Nat) : depthBehind d (raw (.alone n)) = d := by rw [depthBehind, op_alone, cl_alone] <;> rfl
theorem begin_byte (c : Nat) : canBegin (raw (.byte c)) = !decide (c = 32) := by
  have e : decide (raw (.byte c) = [32]) = decide (c = 32) := decide_eq_decide.mpr (raw_32 c)
  rw [canBegin, cl_byte, e]
  simp
theorem begin_open (n : Nat) : canBegin (raw (.open_ n)) = true := by
  rw [canBegin, cl_open]
  simp [raw]
theorem begin_close (n : Nat) : canBegin (raw (.close n)) = false := by
  rw [canBegin, cl_close]
  simp
theorem begin_alone (n : Nat) : canBegin (raw (.alone n)) = true := by
  rw [canBegin, cl_alone]
  simp [raw]
theorem tb_rev (x : Tok) (r : Text) : Ut13.textBytes (x :: r).reverse = Ut13.textBytes r.reverse ++ raw x := by
  rw [List.reverse_cons, textBytes_app, textBytes_cons, textBytes_nil, List.append_nil]
theorem tb_nil {r : Text} : Ut13.textBytes r = [] ↔ r = [] := by
  cases r with
  | nil => simp [textBytes_nil]
  | cons x r =>
    rw [textBytes_cons]
    constructor
    · intro h
      exact absurd (List.append_eq_nil_iff.mp h).1 (raw_ne x)
    · intro h
      cases h
theorem st0 {st : List Nat} : ((st.length : Int) = 0) ↔ st = [] := by
  cases st with
  | nil => simp
  | cons a r =>
    simp only [List.length_cons]
    constructor
    · intro h
      omega
    · intro h
      cases h
theorem cut_eq : ∀ (t : Text) (st r' seen : List Nat) (r : Text) (s : Nat), Ut13.tagsOk st seen t = true → sentGo (Ut13.textBytes r.reverse) (st.length : Int) s (t.map raw) = (Ut13.cutFrom st r s t).map Ut13.textBytes
  | [], st, _, seen, r, s, _ => by
    rw [List.map_nil, sentGo, Ut13.cutFrom]
    by_cases h : r = []
    · rw [if_pos h, if_pos (tb_nil.mpr (by rw [h]; rfl))]
      rfl
    · rw [if_neg h, if_neg (fun z => h (List.reverse_eq_nil_iff.mp (tb_nil.mp z)))]
      rfl
  | .byte c :: t, st, r', seen, r, s, ok => by
    have ok' : Ut13.tagsOk st seen t = true := by rw [Ut13.tagsOk] at ok; exact ok
    rw [List.map_cons, sentGo, Ut13.cutFrom, dep_byte, begin_byte, end_byte, end_byte]
    have hc : (decide ((st.length : Int) = 0) && (decide (s = 2) && !decide (c = 32))) = decide (s = 2 ∧ c ≠ 32 ∧ st = []) := by
      rw [show decide ((st.length : Int) = 0) = decide (st = []) from decide_eq_decide.mpr st0]
      by_cases h1 : s = 2 <;> by_cases h2 : c = 32 <;> by_cases h3 : st = [] <;> simp [h1, h2, h3]
    rw [hc]
    by_cases h : s = 2 ∧ c ≠ 32 ∧ st = []
    · rw [if_pos (decide_eq_true h), if_pos h, List.map_cons]
      have e1 : (if Ut13.ender c = true then 1 else if c = 32 ∧ 1 ≤ 0 then 2 else 0) = if Ut13.ender c = true then 1 else 0 := by
        rw [if_neg (show ¬ (c = 32 ∧ 1 ≤ 0) by omega)]
      rw [e1]
      have := cut_eq t st r' seen [.byte c] (if Ut13.ender c = true then 1 else 0) ok'
      rw [← this]
      show _ = Ut13.textBytes r.reverse :: sentGo (Ut13.textBytes ([.byte c] : Text)) _ _ _
      rw [textBytes_cons, textBytes_nil, List.append_nil]
    · rw [if_neg (by rw [decide_eq_false h]; decide), if_neg h]
      have := cut_eq t st r' seen (.byte c :: r) (if Ut13.ender c = true then 1 else if c = 32 ∧ 1 ≤ s then 2 else 0) ok'
      rw [← this, tb_rev]
  | .open_ n :: t, st, r', seen, r, s, ok => by
    have ok' : Ut13.tagsOk (n :: st) (n :: seen) t = true := by
      rw [Ut13.tagsOk, Bool.and_eq_true] at ok
      exact ok.2
    rw [List.map_cons, sentGo, Ut13.cutFrom, dep_open, begin_open, end_open, end_open]
    have hc : (decide ((st.length : Int) = 0) && (decide (s = 2) && true)) = decide (s = 2 ∧ st = []) := by
      rw [show decide ((st.length : Int) = 0) = decide (st = []) from decide_eq_decide.mpr st0]
      by_cases h1 : s = 2 <;> by_cases h3 : st = [] <;> simp [h1, h3]
    rw [hc]
    have el : (st.length : Int) + 1 = ((n :: st).length : Int) := by simp
    rw [el]
    by_cases h : s = 2 ∧ st = []
    · rw [if_pos (decide_eq_true h), if_pos h, List.map_cons]
      have := cut_eq t (n :: st) r' (n :: seen) [.open_ n] 0 ok'
      rw [← this]
      show _ = Ut13.textBytes r.reverse :: sentGo (Ut13.textBytes ([.open_ n] : Text)) _ _ _
      rw [textBytes_cons, textBytes_nil, List.append_nil]
    · rw [if_neg (by rw [decide_eq_false h]; decide), if_neg h]
      have := cut_eq t (n :: st) r' (n :: seen) (.open_ n :: r) 0 ok'
      rw [← this, tb_rev]
  | .close n :: t, st, r', seen, r, s, ok => by
    rw [List.map_cons, sentGo, Ut13.cutFrom, dep_close, begin_close, end_close, end_close]
    rw [if_neg (by simp)]
    cases st with
    | nil =>
      rw [Ut13.tagsOk] at ok
      cases ok
    | cons m q =>
      have ok' : Ut13.tagsOk q seen t = true := by
        have : (m == n && Ut13.tagsOk q seen t) = true := by rw [Ut13.tagsOk] at ok; exact ok
        rw [Bool.and_eq_true] at this
        exact this.2
      have := cut_eq t q r' seen (.close n :: r) s ok'
      rw [tb_rev] at this
      have el : ((m :: q).length : Int) - 1 = (q.length : Int) := by simp
      rw [el, this]
      rfl
  | .alone n :: t, st, r', seen, r, s, ok => by
    have ok' : Ut13.tagsOk st (n :: seen) t = true := by
      rw [Ut13.tagsOk, Bool.and_eq_true] at ok
      exact ok.2
    rw [List.map_cons, sentGo, Ut13.cutFrom, dep_alone, begin_alone, end_alone, end_alone]
    have hc : (decide ((st.length : Int) = 0) && (decide (s = 2) && true)) = decide (s = 2 ∧ st = []) := by
      rw [show decide ((st.length : Int) = 0) = decide (st = []) from decide_eq_decide.mpr st0]
      by_cases h1 : s = 2 <;> by_cases h3 : st = [] <;> simp [h1, h3]
    rw [hc]
    by_cases h : s = 2 ∧ st = []
    · rw [if_pos (decide_eq_true h), if_pos h, List.map_cons]
      have := cut_eq t st r' (n :: seen) [.alone n] 0 ok'
      rw [← this]
      show _ = Ut13.textBytes r.reverse :: sentGo (Ut13.textBytes ([.alone n] : Text)) _ _ _
      rw [textBytes_cons, textBytes_nil, List.append_nil]
    · rw [if_neg (by rw [decide_eq_false h]; decide), if_neg h]
      have := cut_eq t st r' (n :: seen) (.alone n :: r) s ok'
      rw [← this, tb_rev]
/-- the sentences of a text that is without fault -/
theorem sents_eq {w : List Nat} {t : Text} (h : Reads w t) (ok : Ut13.tagsOk [] [] t = true) : sentencesOf w = (Ut13.sentences t).map Ut13.textBytes := by
  rw [sentencesOf, h.things]
  exact cut_eq t [] [] [] [] 0 ok
theorem tags_text {w : List Nat} {t : Text} (h : Reads w t) : tagsRun [] [] (thingsOf w) = Ut13.tagsOk [] [] t := by
  rw [h.things]
  exact tags_eq t [] []
end Fo

set_option linter.all false
namespace Fo
open Ut13 (Tok Text Bytes Line)
/-! ### lines -/
def spl (w : List Nat) : List Nat × List (List Nat) := w.foldr (fun c (x : List Nat × List (List Nat)) => if c = 10 then ([], x.1 :: x.2) else (c :: x.1, x.2)) ([], [])
theorem linesGo_eq : ∀ (w line : List Nat), linesGo line w = (line ++ (spl w).1) :: (spl w).2
  | [], line => by
    show [line] = (line ++ []) :: []
    rw [List.append_nil]
  | b :: r, line => by
    rw [linesGo]
    show _ = (line ++ (if b = 10 then (([] : List Nat), (spl r).1 :: (spl r).2) else (b :: (spl r).1, (spl r).2)).1) :: (if b = 10 then (([] : List Nat), (spl r).1 :: (spl r).2) else (b :: (spl r).1, (spl r).2)).2
    by_cases h : b = 10
    · rw [if_pos h, if_pos h, linesGo_eq r []]
      show _ = (line ++ []) :: (spl r).1 :: (spl r).2
      rw [List.append_nil, List.nil_append]
    · rw [if_neg h, if_neg h, linesGo_eq r (line ++ [b]), List.append_assoc]
      rfl
theorem lines_eq (w : List Nat) : linesOf w = Ut13.linesOf w := by
  rw [linesOf, linesGo_eq, List.nil_append]
  rfl
theorem linesGo_no10 : ∀ (w line : List Nat), 10 ∉ line → ∀ l ∈ linesGo line w, 10 ∉ l
  | [], line, h, l, hl => by
    rw [linesGo] at hl
    rw [List.mem_singleton.mp hl]
    exact h
  | b :: r, line, h, l, hl => by
    rw [linesGo] at hl
    by_cases hb : b = 10
    · rw [if_pos hb] at hl
      rcases List.mem_cons.mp hl with e | hl
      · rw [e]; exact h
      · exact linesGo_no10 r [] (by simp) l hl
    · rw [if_neg hb] at hl
      refine linesGo_no10 r (line ++ [b]) (fun z => ?_) l hl
      rcases List.mem_append.mp z with z | z
      · exact h z
      · exact hb (List.mem_singleton.mp z).symm
theorem lines_no10 (w : List Nat) : ∀ l ∈ linesOf w, 10 ∉ l := linesGo_no10 w [] (by simp)
theorem linesGo_len : ∀ (w line : List Nat), (linesGo line w).length ≤ w.length + 1 ∧ ∀ l ∈ linesGo line w, l.length ≤ line.length + w.length
  | [], line => by
    rw [linesGo]
    exact ⟨Nat.le_refl _, fun l hl => by rw [List.mem_singleton.mp hl]; exact Nat.le_refl _⟩
  | b :: r, line => by
    rw [linesGo]
    by_cases hb : b = 10
    · obtain ⟨h1, h2⟩ := linesGo_len r []
      rw [if_pos hb]
      refine ⟨by rw [List.length_cons, List.length_cons]; omega, fun l hl => ?_⟩
      rcases List.mem_cons.mp hl with e | hl
      · rw [e]; omega
      · have := h2 l hl
        rw [List.length_nil] at this
        rw [List.length_cons]
        omega
    · obtain ⟨h1, h2⟩ := linesGo_len r (line ++ [b])
      rw [if_neg hb]
      refine ⟨by rw [List.length_cons]; omega, fun l hl => ?_⟩
      have := h2 l hl
      rw [List.length_append] at this
      rw [List.length_cons]
      simp at this
      omega
/-! ### a line -/
theorem ff_inKey (j b : Nat) (r : List Nat) : faultFrom j .inKey (b :: r) = if isKeyByte b = true then faultFrom (j + 1) .inKey r else if b = 61 then faultFrom (j + 1) .text r else some j := by
  rw [faultFrom]
  by_cases h : isKeyByte b = true
  · simp [sb, sbKey, h]
  · by_cases h2 : b = 61
    · subst h2
      have : isKeyByte 61 = false := rfl
      simp [sb, sbKey, this]
    · simp [sb, sbKey, h, h2]
theorem ff_keyBegin (j b : Nat) (r : List Nat) : faultFrom j .keyBegin (b :: r) = if isKeyByte b = true then faultFrom (j + 1) .inKey r else some j := by
  rw [faultFrom]
  by_cases h : isKeyByte b = true
  · simp [sb, sbKey, h]
  · simp [sb, sbKey, h]
/-- the name at the beginning -/
def nm (w : List Nat) : List Nat := w.takeWhile Ut13.isName
theorem nm_yes {b : Nat} {r : List Nat} (h : isKeyByte b = true) : nm (b :: r) = b :: nm r := by
  unfold nm
  rw [List.takeWhile_cons, isName_eq, if_pos h]
theorem nm_no {b : Nat} {r : List Nat} (h : ¬ isKeyByte b = true) : nm (b :: r) = [] := by
  unfold nm
  rw [List.takeWhile_cons, isName_eq, if_neg h]
theorem ff_name : ∀ (w : List Nat) (j : Nat), (∃ v, w = nm w ++ 61 :: v ∧ faultFrom j .inKey w = faultFrom (j + (nm w).length + 1) .text v) ∨ ((∀ v, w.drop (nm w).length ≠ 61 :: v) ∧ faultFrom j .inKey w = some (j + (nm w).length))
  | [], j => .inr ⟨(fun v h => by simp at h), ff_nil (s := .inKey) j (by decide)⟩
  | b :: r, j => by
    rw [ff_inKey]
    by_cases h : isKeyByte b = true
    · rw [nm_yes h, if_pos h]
      rcases ff_name r (j + 1) with ⟨v, h1, h2⟩ | ⟨h1, h2⟩
      · refine .inl ⟨v, by rw [List.cons_append, ← h1], ?_⟩
        rw [h2, List.length_cons, show j + 1 + (nm r).length + 1 = j + ((nm r).length + 1) + 1 by omega]
      · refine .inr ⟨h1, ?_⟩
        rw [h2, List.length_cons, show j + 1 + (nm r).length = j + ((nm r).length + 1) by omega]
    · rw [nm_no h, if_neg h]
      by_cases h2 : b = 61
      · rw [if_pos h2]
        exact .inl ⟨r, by rw [h2]; rfl, rfl⟩
      · rw [if_neg h2]
        exact .inr ⟨fun v hv => h2 (by injection hv), rfl⟩
theorem nm_name (w : List Nat) : ∀ b ∈ nm w, isKeyByte b = true := by
  intro b hb
  rw [← isName_eq]
  exact List.all_eq_true.mp List.all_takeWhile b hb
theorem drop_of {w a v : List Nat} (h : w = a ++ 61 :: v) : w.drop a.length = 61 :: v := by
  subst h
  exact List.drop_left
theorem drop_of1 {w a v : List Nat} (h : w = a ++ 61 :: v) : w.drop (a.length + 1) = v := by
  have := congrArg (List.drop 1) (drop_of h)
  rw [List.drop_drop] at this
  exact this
theorem keyOf_of {w a v : List Nat} (h : w = a ++ 61 :: v) (ha : ∀ b ∈ a, b ≠ 61) : keyOf w = a := by
  subst h
  rw [keyOf, List.takeWhile_append_of_pos (fun b hb => decide_eq_true (ha b hb))]
  simp
theorem keyOf_nm {w v : List Nat} (h : w = nm w ++ 61 :: v) : keyOf w = nm w ∧ textOf w = v := by
  have e : keyOf w = nm w := keyOf_of h fun b hb z => by
    have := nm_name w b hb
    rw [z] at this
    cases this
  refine ⟨e, ?_⟩
  rw [textOf, e]
  exact drop_of1 h
theorem lineOf_kept {w : List Nat} (h : isKept w = true) : Ut13.lineOf w = .ok (.kept w) := by
  cases w with
  | nil => rfl
  | cons b r =>
    have hb : b = 35 := by
      have : (false || decide (b = 35)) = true := h
      simpa using this
    subst hb
    rfl
theorem lineOf_rest {w : List Nat} (h : isKept w = false) : Ut13.lineOf w = match w.drop (nm w).length with
    | 61 :: v => if nm w = [] then .error 0 else (match Ut13.textFrom ((nm w).length + 1) v with
      | .error p => .error (p : Int)
      | .ok t => if Ut13.tagsOk [] [] t = true then .ok (.entry (nm w) t) else .error (-1))
    | _ => .error ((nm w).length : Int) := by
  cases w with
  | nil => cases h
  | cons b r =>
    have hb : b ≠ 35 := by
      have : (false || decide (b = 35)) = false := h
      simpa using this
    rw [Ut13.lineOf]
    · rfl
    · intro z; cases z
    · intro v hv
      injection hv with hv
      exact hb hv
/-- what is read of a line -/
inductive LineFit : List Nat → Line → Prop
  | kept {w : List Nat} (h : isKept w = true) : LineFit w (.kept w)
  | entry {w : List Nat} {k : List Nat} {t : Text} (h : isKept w = false) (hk : keyOf w = k) (hr : Reads (textOf w) t) (ok : Ut13.tagsOk [] [] t = true) (hw : w = k ++ 61 :: textOf w) : LineFit w (.entry k t)
/-- the number that tells the place -/
def placeOf (e : Int) : Int := if e = -1 then 998 else if e = -2 then 999 else e
theorem line_read {w : List Nat} (hn : 10 ∉ w) : (∃ e f, Ut13.lineOf w = .error e ∧ lineFault w = some f ∧ placeOf e = (f : Int)) ∨ ∃ x, Ut13.lineOf w = .ok x ∧ lineFault w = none ∧ LineFit w x := by
  cases hk : isKept w with
  | true => exact .inr ⟨_, lineOf_kept hk, by rw [lineFault, if_pos hk], .kept hk⟩
  | false =>
    have nk : ¬ isKept w = true := by rw [hk]; decide
    have place : ∀ p : Nat, placeOf (p : Int) = (p : Int) := fun p => by rw [placeOf, if_neg (by omega), if_neg (by omega)]
    have bad : ∀ p : Nat, Ut13.lineOf w = .error (p : Int) → faultPlace w .keyBegin = some p → ∃ e f, Ut13.lineOf w = .error e ∧ lineFault w = some f ∧ placeOf e = (f : Int) := fun p h1 h2 => ⟨_, p, h1, by
      rw [lineFault, if_neg nk]
      simp only [h2], place p⟩
    cases w with
    | nil => cases hk
    | cons b r =>
      by_cases hb : isKeyByte b = true
      · have enm := nm_yes (r := r) hb
        have ef : faultPlace (b :: r) .keyBegin = faultFrom 1 .inKey r := by rw [faultPlace, ff_keyBegin, if_pos hb]
        have l := lineOf_rest hk
        rcases ff_name r 1 with ⟨v, h1, h2⟩ | ⟨h1, h2⟩
        · have hw : b :: r = nm (b :: r) ++ 61 :: v := by rw [enm, List.cons_append, ← h1]
          have hd : (b :: r).drop (nm (b :: r)).length = 61 :: v := drop_of hw
          have hp : faultPlace (b :: r) .keyBegin = errOf (Ut13.textFrom ((nm (b :: r)).length + 1) v) := by
            rw [ef, h2, fault_text, enm, List.length_cons, show 1 + (nm r).length + 1 = (nm r).length + 1 + 1 by omega]
          rw [hd] at l
          have l' : Ut13.lineOf (b :: r) = (match Ut13.textFrom ((nm (b :: r)).length + 1) v with
              | .error p => .error (p : Int)
              | .ok t => if Ut13.tagsOk [] [] t = true then .ok (.entry (nm (b :: r)) t) else .error (-1)) := by
            rw [l]
            show (if nm (b :: r) = [] then _ else _) = _
            rw [if_neg (by rw [enm]; simp)]
          obtain ⟨k1, k2⟩ := keyOf_nm hw
          have hnv : 10 ∉ v := fun z => hn (by rw [hw]; exact List.mem_append_right _ (List.mem_cons_of_mem _ z))
          cases ht : Ut13.textFrom ((nm (b :: r)).length + 1) v with
          | error p =>
            rw [ht] at l' hp
            exact .inl (bad p l' hp)
          | ok t =>
            rw [ht] at l' hp
            have rd := reads_text ht hnv
            have lf : lineFault (b :: r) = if Ut13.tagsOk [] [] t = true then none else some 998 := by
              rw [lineFault, if_neg nk]
              simp only [show faultPlace (b :: r) .keyBegin = none from hp]
              rw [k2, tags_text rd]
            by_cases ok : Ut13.tagsOk [] [] t = true
            · rw [if_pos ok] at lf
              refine .inr ⟨_, l'.trans (if_pos ok), lf, .entry hk k1 (by rw [k2]; exact rd) ok (by rw [k2]; exact hw)⟩
            · rw [if_neg ok] at lf
              exact .inl ⟨-1, 998, l'.trans (if_neg ok), lf, rfl⟩
        · refine .inl (bad ((nm (b :: r)).length) ?_ ?_)
          · rw [l, enm]
            show (match r.drop (nm r).length with | 61 :: v => _ | _ => _) = _
            split
            · next v hv => exact absurd hv (h1 v)
            · rfl
          · rw [ef, h2, enm, List.length_cons, Nat.add_comm]
      · have enm := nm_no (r := r) hb
        refine .inl (bad 0 ?_ ?_)
        · rw [lineOf_rest hk, enm]
          show (match (b :: r : List Nat) with | 61 :: v => _ | _ => _) = _
          split
          · rw [if_pos rfl]
            rfl
          · rfl
        · rw [faultPlace, ff_keyBegin, if_neg hb]
/-! ### a file -/
inductive Fit : List (List Nat) → List Line → Prop
  | nil : Fit [] []
  | cons {w : List Nat} {x : Line} {ws : List (List Nat)} {xs : List Line} : LineFit w x → Fit ws xs → Fit (w :: ws) (x :: xs)
theorem fault_row (i f : Nat) (e : Int) (h : placeOf e = (f : Int)) : Ut13.faultRow (i, e) = [toldFault i f] := by
  unfold Ut13.faultRow toldFault
  show [-1000 - (1000 * (i : Int) + placeOf e)] = _
  rw [h]
  congr 1
  omega
theorem read_from : ∀ (ls all : List (List Nat)) (i : Nat), (∀ l ∈ ls, 10 ∉ l) →
    (∃ e z, Ut13.readFrom i ls = .error e ∧ fileFaultFrom i all ls = some z ∧ Ut13.faultRow e = [z]) ∨ ∃ xs, Ut13.readFrom i ls = .ok xs ∧ fileFaultFrom i all ls = keyFaultFrom 0 [] all ∧ Fit ls xs
  | [], all, i, _ => .inr ⟨[], rfl, rfl, .nil⟩
  | w :: ls, all, i, hn => by
    rcases line_read (hn w (List.mem_cons_self ..)) with ⟨e, f, h1, h2, h3⟩ | ⟨x, h1, h2, h3⟩
    · refine .inl ⟨(i, e), toldFault i f, ?_, ?_, fault_row i f e h3⟩
      · rw [Ut13.readFrom, h1]
      · rw [fileFaultFrom]
        simp only [h2]
    · have ef : fileFaultFrom i all (w :: ls) = fileFaultFrom (i + 1) all ls := by
        rw [fileFaultFrom]
        simp only [h2]
      rcases read_from ls all (i + 1) (fun l hl => hn l (List.mem_cons_of_mem _ hl)) with ⟨e, z, g1, g2, g3⟩ | ⟨xs, g1, g2, g3⟩
      · refine .inl ⟨e, z, ?_, ef.trans g2, g3⟩
        rw [Ut13.readFrom, h1]
        show (Ut13.readFrom (i + 1) ls).map _ = _
        rw [g1]
        rfl
      · refine .inr ⟨x :: xs, ?_, ef.trans g2, .cons h3 g3⟩
        rw [Ut13.readFrom, h1]
        show (Ut13.readFrom (i + 1) ls).map _ = _
        rw [g1]
        rfl
theorem twice_eq : ∀ {ls : List (List Nat)} {xs : List Line} (_ : Fit ls xs) (i : Nat) (seen : List (List Nat)), keyFaultFrom i seen ls = (Ut13.twice i seen xs).map fun j => toldFault j 999
  | _, _, .nil, i, seen => rfl
  | _, _, .cons (w := w) h t, i, seen => by
    cases h with
    | kept hk =>
      rw [keyFaultFrom, if_pos hk, Ut13.twice]
      exact twice_eq t (i + 1) seen
    | entry hk hkey hr ok hw =>
      rw [keyFaultFrom, if_neg (by rw [hk]; decide), Ut13.twice, hkey]
      by_cases h : keyOf w ∈ seen
      · rw [← hkey, if_pos h, if_pos (by simpa using h)]
        rfl
      · rw [← hkey, if_neg h, if_neg (by simpa using h)]
        exact twice_eq t (i + 1) _
/-- the whole file -/
theorem file_read (w : List Nat) : (∃ e z, Ut13.read w = .error e ∧ fileFault (linesOf w) = some z ∧ Ut13.faultRow e = [z]) ∨ ∃ f, Ut13.read w = .ok f ∧ fileFault (linesOf w) = none ∧ Fit (linesOf w) f.lines ∧ Ut13.twice 0 [] f.lines = none := by
  rcases read_from (linesOf w) (linesOf w) 0 (lines_no10 w) with ⟨e, z, g1, g2, g3⟩ | ⟨xs, g1, g2, g3⟩
  · refine .inl ⟨e, z, ?_, g2, g3⟩
    rw [Ut13.read, ← lines_eq, g1]
  · have tw := twice_eq g3 0 []
    cases h : Ut13.twice 0 [] xs with
    | some j =>
      rw [h] at tw
      refine .inl ⟨(j, -2), toldFault j 999, ?_, ?_, fault_row j 999 (-2) rfl⟩
      · rw [Ut13.read, ← lines_eq, g1]
        simp only [h]
      · exact g2.trans tw
    | none =>
      rw [h] at tw
      refine .inr ⟨⟨xs⟩, ?_, g2.trans tw, g3, h⟩
      rw [Ut13.read, ← lines_eq, g1]
      simp only [h]
end Fo

set_option linter.all false
namespace Fo
open Ut13 (Tok Text Bytes Line)
/-! ### written and read again -/
theorem dig_up {n : Nat} (h : n ≤ 9) : Ut13.isDigit (48 + n) = true := by
  show (decide (48 ≤ 48 + n) && decide (48 + n ≤ 57)) = true
  rw [decide_eq_true (by omega : 48 ≤ 48 + n), decide_eq_true (by omega : 48 + n ≤ 57)]
  rfl
theorem up_sub (n : Nat) : 48 + n - 48 = n := by omega
theorem reread : ∀ (t : Text) (p : Nat), (∀ x ∈ t, Valid x) → Ut13.textFrom p (Ut13.textBytes t) = .ok t
  | [], p, _ => tf_nil p
  | x :: t, p, hv => by
    have ih := fun q => reread t q fun y hy => hv y (List.mem_cons_of_mem _ hy)
    have hx := hv x (List.mem_cons_self ..)
    rw [textBytes_cons]
    cases x with
    | byte c =>
      by_cases h1 : c = 10
      · subst h1
        show Ut13.textFrom p (92 :: 110 :: Ut13.textBytes t) = _
        rw [tf_esc]
        show (Ut13.textFrom (p + 2) (Ut13.textBytes t)).map _ = _
        rw [ih]
        rfl
      by_cases h2 : c = 9
      · subst h2
        show Ut13.textFrom p (92 :: 116 :: Ut13.textBytes t) = _
        rw [tf_esc]
        show (Ut13.textFrom (p + 2) (Ut13.textBytes t)).map _ = _
        rw [ih]
        rfl
      by_cases h3 : c = 92
      · subst h3
        show Ut13.textFrom p (92 :: 92 :: Ut13.textBytes t) = _
        rw [tf_esc]
        show (Ut13.textFrom (p + 2) (Ut13.textBytes t)).map _ = _
        rw [ih]
        rfl
      by_cases h4 : c = 60
      · subst h4
        show Ut13.textFrom p (92 :: 60 :: Ut13.textBytes t) = _
        rw [tf_esc]
        show (Ut13.textFrom (p + 2) (Ut13.textBytes t)).map _ = _
        rw [ih]
        rfl
      rw [raw_plain h1 h2 h3 h4]
      show Ut13.textFrom p (c :: Ut13.textBytes t) = _
      rw [tf_plain h3 h4, if_neg h2, ih]
      rfl
    | open_ n =>
      show Ut13.textFrom p (60 :: (48 + n) :: 62 :: Ut13.textBytes t) = _
      rw [tf_open (by omega), if_pos (dig_up hx), ih, up_sub]
      rfl
    | close n =>
      show Ut13.textFrom p (60 :: 47 :: (48 + n) :: 62 :: Ut13.textBytes t) = _
      rw [tf_close, if_pos (dig_up hx), ih, up_sub]
      rfl
    | alone n =>
      show Ut13.textFrom p (60 :: (48 + n) :: 47 :: 62 :: Ut13.textBytes t) = _
      rw [tf_alone (by omega), if_pos (dig_up hx), ih, up_sub]
      rfl
theorem tb_inj {s t : Text} (hs : ∀ x ∈ s, Valid x) (ht : ∀ x ∈ t, Valid x) (h : Ut13.textBytes s = Ut13.textBytes t) : s = t := by
  have h1 := reread s 0 hs
  have h2 := reread t 0 ht
  rw [h, h2] at h1
  injection h1 with h1
  exact h1.symm
/-! ### the sentences are the text -/
theorem cut_flat : ∀ (t : Text) (st : List Nat) (r : Text) (s : Nat), (Ut13.cutFrom st r s t).flatten = r.reverse ++ t
  | [], st, r, s => by
    rw [Ut13.cutFrom]
    by_cases h : r = []
    · rw [if_pos h, h]
      rfl
    · rw [if_neg h]
      simp
  | .byte c :: t, st, r, s => by
    rw [Ut13.cutFrom]
    split
    · rw [List.flatten_cons, cut_flat]
      simp
    · rw [cut_flat]
      simp
  | .open_ n :: t, st, r, s => by
    rw [Ut13.cutFrom]
    split
    · rw [List.flatten_cons, cut_flat]
      simp
    · rw [cut_flat]
      simp
  | .close n :: t, st, r, s => by
    rw [Ut13.cutFrom, cut_flat]
    simp
  | .alone n :: t, st, r, s => by
    rw [Ut13.cutFrom]
    split
    · rw [List.flatten_cons, cut_flat]
      simp
    · rw [cut_flat]
      simp
theorem sents_flat (t : Text) : (Ut13.sentences t).flatten = t := cut_flat t [] [] 0
theorem sents_valid {t : Text} (h : ∀ x ∈ t, Valid x) : ∀ s ∈ Ut13.sentences t, ∀ x ∈ s, Valid x := by
  intro s hs x hx
  refine h x ?_
  rw [← sents_flat t]
  exact List.mem_flatten.mpr ⟨s, hs, hx⟩
/-! ### their tags are in pairs -/
def run : List Nat → List Nat → Text → Option (List Nat × List Nat)
  | st, seen, [] => some (st, seen)
  | st, seen, .byte _ :: t => run st seen t
  | st, seen, .open_ n :: t => if seen.contains n = true then none else run (n :: st) (n :: seen) t
  | [], _, .close _ :: _ => none
  | m :: r, seen, .close n :: t => if m = n then run r seen t else none
  | st, seen, .alone n :: t => if seen.contains n = true then none else run st (n :: seen) t
theorem ok_run : ∀ (t : Text) (st seen : List Nat), Ut13.tagsOk st seen t = true ↔ ∃ q, run st seen t = some ([], q)
  | [], st, seen => by
    rw [Ut13.tagsOk, run]
    constructor
    · intro h
      have : st = [] := by simpa using h
      exact ⟨seen, by rw [this]⟩
    · rintro ⟨q, h⟩
      injection h with h
      injection h with h1 h2
      rw [h1]
      rfl
  | .byte _ :: t, st, seen => by
    rw [Ut13.tagsOk, run]
    exact ok_run t st seen
  | .open_ n :: t, st, seen => by
    rw [Ut13.tagsOk, run, Bool.and_eq_true, ok_run t]
    by_cases h : seen.contains n = true
    · rw [if_pos h, h]
      simp
    · rw [if_neg h]
      have : seen.contains n = false := by simpa using h
      rw [this]
      simp
  | .close n :: t, [], seen => by
    rw [Ut13.tagsOk, run]
    simp
  | .close n :: t, m :: r, seen => by
    have e : Ut13.tagsOk (m :: r) seen (.close n :: t) = (m == n && Ut13.tagsOk r seen t) := by rw [Ut13.tagsOk]
    rw [e, run, Bool.and_eq_true, ok_run t]
    by_cases h : m = n
    · rw [if_pos h, h]
      simp
    · rw [if_neg h]
      simp [h]
  | .alone n :: t, st, seen => by
    rw [Ut13.tagsOk, run, Bool.and_eq_true, ok_run t]
    by_cases h : seen.contains n = true
    · rw [if_pos h, h]
      simp
    · rw [if_neg h]
      have : seen.contains n = false := by simpa using h
      rw [this]
      simp
theorem run_app : ∀ (a b : Text) (st seen : List Nat), run st seen (a ++ b) = (run st seen a).bind fun x => run x.1 x.2 b
  | [], b, st, seen => rfl
  | .byte _ :: a, b, st, seen => by rw [List.cons_append, run, run]; exact run_app a b st seen
  | .open_ n :: a, b, st, seen => by
    rw [List.cons_append, run, run]
    split
    · rfl
    · exact run_app a b _ _
  | .close n :: a, b, [], seen => by rw [List.cons_append, run, run]; rfl
  | .close n :: a, b, m :: r, seen => by
    rw [List.cons_append, run, run]
    split
    · exact run_app a b _ _
    · rfl
  | .alone n :: a, b, st, seen => by
    rw [List.cons_append, run, run]
    split
    · rfl
    · exact run_app a b _ _
theorem ok_less : ∀ (t : Text) (st seen seen' : List Nat), (∀ n, n ∈ seen' → n ∈ seen) → Ut13.tagsOk st seen t = true → Ut13.tagsOk st seen' t = true
  | [], st, seen, seen', h, ok => ok
  | .byte _ :: t, st, seen, seen', h, ok => by
    rw [Ut13.tagsOk] at ok ⊢
    exact ok_less t st seen seen' h ok
  | .open_ n :: t, st, seen, seen', h, ok => by
    rw [Ut13.tagsOk, Bool.and_eq_true] at ok ⊢
    refine ⟨?_, ok_less t _ (n :: seen) _ (fun m hm => ?_) ok.2⟩
    · have : n ∉ seen := by simpa using ok.1
      have : n ∉ seen' := fun z => this (h n z)
      simpa using this
    · rcases List.mem_cons.mp hm with e | hm
      · rw [e]; exact List.mem_cons_self ..
      · exact List.mem_cons_of_mem _ (h m hm)
  | .close n :: t, [], seen, seen', h, ok => by
    rw [Ut13.tagsOk] at ok
    cases ok
  | .close n :: t, m :: r, seen, seen', h, ok => by
    have e : ∀ q, Ut13.tagsOk (m :: r) q (.close n :: t) = (m == n && Ut13.tagsOk r q t) := fun q => by rw [Ut13.tagsOk]
    rw [e, Bool.and_eq_true] at ok ⊢
    exact ⟨ok.1, ok_less t r seen seen' h ok.2⟩
  | .alone n :: t, st, seen, seen', h, ok => by
    rw [Ut13.tagsOk, Bool.and_eq_true] at ok ⊢
    refine ⟨?_, ok_less t _ (n :: seen) _ (fun m hm => ?_) ok.2⟩
    · have : n ∉ seen := by simpa using ok.1
      have : n ∉ seen' := fun z => this (h n z)
      simpa using this
    · rcases List.mem_cons.mp hm with e | hm
      · rw [e]; exact List.mem_cons_self ..
      · exact List.mem_cons_of_mem _ (h m hm)
/-- one thing more -/
theorem run_snoc {r : Text} {x : Tok} {a st seen st' seen' : List Nat} (h : run [] a r.reverse = some (st, seen)) (h2 : run st seen [x] = some (st', seen')) : run [] a (x :: r).reverse = some (st', seen') := by
  rw [List.reverse_cons, run_app, h]
  exact h2
theorem piece_ok {r : Text} {a seen : List Nat} (h : run [] a r.reverse = some ([], seen)) : Ut13.tagsOk [] [] r.reverse = true :=
  ok_less _ [] a [] (fun n h => by cases h) ((ok_run _ _ _).mpr ⟨seen, h⟩)
theorem cut_ok : ∀ (t : Text) (st a seen : List Nat) (r : Text) (s : Nat), run [] a r.reverse = some (st, seen) → Ut13.tagsOk st seen t = true → ∀ p ∈ Ut13.cutFrom st r s t, Ut13.tagsOk [] [] p = true
  | [], st, a, seen, r, s, h, ok, p, hp => by
    rw [Ut13.cutFrom] at hp
    by_cases hr : r = []
    · rw [if_pos hr] at hp
      cases hp
    · rw [if_neg hr] at hp
      rw [List.mem_singleton.mp hp]
      have : st = [] := by
        rw [Ut13.tagsOk] at ok
        simpa using ok
      subst this
      exact piece_ok h
  | .byte c :: t, st, a, seen, r, s, h, ok, p, hp => by
    have ok' : Ut13.tagsOk st seen t = true := by rw [Ut13.tagsOk] at ok; exact ok
    rw [Ut13.cutFrom] at hp
    split at hp
    · next hc =>
      obtain ⟨_, _, rfl⟩ := hc
      rcases List.mem_cons.mp hp with e | hp
      · rw [e]; exact piece_ok h
      · exact cut_ok t [] seen seen [.byte c] _ rfl ok' p hp
    · exact cut_ok t st a seen (.byte c :: r) _ (run_snoc h rfl) ok' p hp
  | .open_ n :: t, st, a, seen, r, s, h, ok, p, hp => by
    rw [Ut13.tagsOk, Bool.and_eq_true] at ok
    have hn : ¬ seen.contains n = true := by simpa using ok.1
    have one : ∀ st', run st' seen [.open_ n] = some (n :: st', n :: seen) := fun st' => by rw [run, if_neg hn]; rfl
    rw [Ut13.cutFrom] at hp
    split at hp
    · next hc =>
      obtain ⟨_, rfl⟩ := hc
      rcases List.mem_cons.mp hp with e | hp
      · rw [e]; exact piece_ok h
      · exact cut_ok t [n] seen (n :: seen) [.open_ n] _ (one []) ok.2 p hp
    · exact cut_ok t (n :: st) a (n :: seen) (.open_ n :: r) _ (run_snoc h (one st)) ok.2 p hp
  | .close n :: t, [], a, seen, r, s, h, ok, p, hp => by
    rw [Ut13.tagsOk] at ok
    cases ok
  | .close n :: t, m :: q, a, seen, r, s, h, ok, p, hp => by
    have e : Ut13.tagsOk (m :: q) seen (.close n :: t) = (m == n && Ut13.tagsOk q seen t) := by rw [Ut13.tagsOk]
    rw [e, Bool.and_eq_true] at ok
    have hm : m = n := by simpa using ok.1
    rw [Ut13.cutFrom] at hp
    exact cut_ok t q a seen (.close n :: r) _ (run_snoc h (by rw [run, if_pos hm]; rfl)) ok.2 p hp
  | .alone n :: t, st, a, seen, r, s, h, ok, p, hp => by
    rw [Ut13.tagsOk, Bool.and_eq_true] at ok
    have hn : ¬ seen.contains n = true := by simpa using ok.1
    have one : ∀ st', run st' seen [.alone n] = some (st', n :: seen) := fun st' => by rw [run, if_neg hn]; rfl
    rw [Ut13.cutFrom] at hp
    split at hp
    · next hc =>
      obtain ⟨_, rfl⟩ := hc
      rcases List.mem_cons.mp hp with e | hp
      · rw [e]; exact piece_ok h
      · exact cut_ok t [] seen (n :: seen) [.alone n] _ (one []) ok.2 p hp
    · exact cut_ok t st a (n :: seen) (.alone n :: r) _ (run_snoc h (one st)) ok.2 p hp
theorem sents_ok {t : Text} (ok : Ut13.tagsOk [] [] t = true) : ∀ s ∈ Ut13.sentences t, Ut13.tagsOk [] [] s = true := cut_ok t [] [] [] [] 0 rfl ok
/-! ### a translation's tags -/
def isOA : Tok → Bool
  | .open_ _ => true
  | .alone _ => true
  | _ => false
theorem isTag_raw (x : Tok) : isTag (raw x) = isOA x := by
  cases x with
  | byte c => rw [isTag, op_byte, al_byte]; rfl
  | open_ n => rfl
  | close n => rw [isTag, op_close, al_close]; rfl
  | alone n => rw [isTag, op_alone, al_alone]; rfl
theorem filter_raw (t : Text) : (t.map raw).filter isTag = (t.filter isOA).map raw := by
  induction t with
  | nil => rfl
  | cons x t ih =>
    rw [List.map_cons, List.filter_cons, List.filter_cons, isTag_raw]
    split
    · rw [ih, List.map_cons]
    · exact ih
def numT : Tok → Nat
  | .byte _ => 0
  | .open_ n => n
  | .close n => n
  | .alone n => n
theorem pairs : ∀ (t : Text) (st seen : List Nat), Ut13.tagsOk st seen t = true → (∀ n, Tok.close n ∈ t ↔ n ∈ st ∨ Tok.open_ n ∈ t) ∧ (t.filter isOA).Nodup ∧ ∀ x ∈ t.filter isOA, numT x ∉ seen
  | [], st, seen, ok => by
    have : st = [] := by
      rw [Ut13.tagsOk] at ok
      simpa using ok
    subst this
    exact ⟨fun n => by simp, List.nodup_nil, fun x h => by cases h⟩
  | .byte c :: t, st, seen, ok => by
    obtain ⟨h1, h2, h3⟩ := pairs t st seen (by rw [Ut13.tagsOk] at ok; exact ok)
    exact ⟨fun n => by simp [h1 n], h2, h3⟩
  | .open_ n :: t, st, seen, ok => by
    rw [Ut13.tagsOk, Bool.and_eq_true] at ok
    obtain ⟨h1, h2, h3⟩ := pairs t (n :: st) (n :: seen) ok.2
    have hn : n ∉ seen := by simpa using ok.1
    refine ⟨fun m => ?_, ?_, fun x hx => ?_⟩
    · have := h1 m
      simp only [List.mem_cons, Tok.open_.injEq, reduceCtorEq, false_or] at this ⊢
      rw [this]
      constructor
      · rintro ((h | h) | h)
        · exact .inr (.inl h)
        · exact .inl h
        · exact .inr (.inr h)
      · rintro (h | h | h)
        · exact .inl (.inr h)
        · exact .inl (.inl h)
        · exact .inr h
    · show (Tok.open_ n :: t.filter isOA).Nodup
      refine List.nodup_cons.mpr ⟨fun z => h3 _ z (List.mem_cons_self ..), h2⟩
    · have hx' : x ∈ Tok.open_ n :: t.filter isOA := hx
      rcases List.mem_cons.mp hx' with e | hx'
      · rw [e]; exact hn
      · exact fun z => h3 x hx' (List.mem_cons_of_mem _ z)
  | .close n :: t, [], seen, ok => by
    rw [Ut13.tagsOk] at ok
    cases ok
  | .close n :: t, m :: q, seen, ok => by
    have e : Ut13.tagsOk (m :: q) seen (.close n :: t) = (m == n && Ut13.tagsOk q seen t) := by rw [Ut13.tagsOk]
    rw [e, Bool.and_eq_true] at ok
    have hm : m = n := by simpa using ok.1
    obtain ⟨h1, h2, h3⟩ := pairs t q seen ok.2
    refine ⟨fun k => ?_, h2, h3⟩
    have := h1 k
    simp only [List.mem_cons, Tok.close.injEq, reduceCtorEq, false_or] at this ⊢
    rw [this, hm]
    constructor
    · rintro (h | h | h)
      · exact .inl (.inl h)
      · exact .inl (.inr h)
      · exact .inr h
    · rintro ((h | h) | h)
      · exact .inl h
      · exact .inr (.inl h)
      · exact .inr (.inr h)
  | .alone n :: t, st, seen, ok => by
    rw [Ut13.tagsOk, Bool.and_eq_true] at ok
    obtain ⟨h1, h2, h3⟩ := pairs t st (n :: seen) ok.2
    have hn : n ∉ seen := by simpa using ok.1
    refine ⟨fun m => by simp [h1 m], ?_, fun x hx => ?_⟩
    · show (Tok.alone n :: t.filter isOA).Nodup
      refine List.nodup_cons.mpr ⟨fun z => h3 _ z (List.mem_cons_self ..), h2⟩
    · have hx' : x ∈ Tok.alone n :: t.filter isOA := hx
      rcases List.mem_cons.mp hx' with e | hx'
      · rw [e]; exact hn
      · exact fun z => h3 x hx' (List.mem_cons_of_mem _ z)
theorem raw_inj_oa {x y : Tok} (hx : isOA x = true) (hy : isOA y = true) (h : raw x = raw y) : x = y := by
  cases x <;> cases y <;> simp_all [isOA, raw] <;> omega
theorem nodup_raw : ∀ {l : Text}, l.Nodup → (∀ x ∈ l, isOA x = true) → (l.map raw).Nodup
  | [], _, _ => List.nodup_nil
  | x :: l, h, ha => by
    rw [List.nodup_cons] at h
    rw [List.map_cons, List.nodup_cons]
    refine ⟨fun z => ?_, nodup_raw h.2 fun y hy => ha y (List.mem_cons_of_mem _ hy)⟩
    obtain ⟨y, hy, e⟩ := List.mem_map.mp z
    have := raw_inj_oa (ha y (List.mem_cons_of_mem _ hy)) (ha x (List.mem_cons_self ..)) e
    rw [this] at hy
    exact h.1 hy
/-- whether two texts have just the same tags -/
theorem same_iff {s t : Text} (hs : Ut13.tagsOk [] [] s = true) (ht : Ut13.tagsOk [] [] t = true) :
    (((t.map raw).filter isTag).Perm ((s.map raw).filter isTag)) ↔ ((Ut13.tagSet s).all (fun x => (Ut13.tagSet t).contains x) && (Ut13.tagSet t).all fun x => (Ut13.tagSet s).contains x) = true := by
  obtain ⟨s1, s2, s3⟩ := pairs s [] [] hs
  obtain ⟨t1, t2, t3⟩ := pairs t [] [] ht
  have hset : ∀ (u : Text) (x : Tok), x ∈ Ut13.tagSet u ↔ x ∈ u ∧ (∀ c, x ≠ .byte c) := by
    intro u x
    unfold Ut13.tagSet
    rw [List.mem_filter]
    cases x <;> simp
  rw [filter_raw, filter_raw, Bool.and_eq_true, List.all_eq_true, List.all_eq_true]
  have oa : ∀ (u : Text), ∀ x ∈ u.filter isOA, isOA x = true := fun u x hx => (List.mem_filter.mp hx).2
  constructor
  · intro hp
    have mem : ∀ x, isOA x = true → (x ∈ s ↔ x ∈ t) := by
      intro x hx
      constructor
      · intro h
        have : raw x ∈ (t.filter isOA).map raw := hp.mem_iff.mpr (List.mem_map.mpr ⟨x, List.mem_filter.mpr ⟨h, hx⟩, rfl⟩)
        obtain ⟨y, hy, e⟩ := List.mem_map.mp this
        rw [← raw_inj_oa (oa t y hy) hx e]
        exact (List.mem_filter.mp hy).1
      · intro h
        have : raw x ∈ (s.filter isOA).map raw := hp.mem_iff.mp (List.mem_map.mpr ⟨x, List.mem_filter.mpr ⟨h, hx⟩, rfl⟩)
        obtain ⟨y, hy, e⟩ := List.mem_map.mp this
        rw [← raw_inj_oa (oa s y hy) hx e]
        exact (List.mem_filter.mp hy).1
    have all : ∀ x, (∀ c, x ≠ .byte c) → (x ∈ s ↔ x ∈ t) := by
      intro x hx
      cases x with
      | byte c => exact absurd rfl (hx c)
      | open_ n => exact mem _ rfl
      | alone n => exact mem _ rfl
      | close n =>
        rw [s1 n, t1 n, mem (.open_ n) rfl]
    constructor
    · intro x hx
      obtain ⟨h1, h2⟩ := (hset s x).mp hx
      have := (hset t x).mpr ⟨(all x h2).mp h1, h2⟩
      simpa using this
    · intro x hx
      obtain ⟨h1, h2⟩ := (hset t x).mp hx
      have := (hset s x).mpr ⟨(all x h2).mpr h1, h2⟩
      simpa using this
  · rintro ⟨h1, h2⟩
    have nb : ∀ x : Tok, isOA x = true → ∀ c, x ≠ .byte c := by
      rintro x hx c rfl
      cases hx
    refine (List.perm_ext_iff_of_nodup t2 s2).mpr (fun x => ?_) |>.map _
    rw [List.mem_filter, List.mem_filter]
    constructor
    · rintro ⟨a, b⟩
      have := h2 x ((hset t x).mpr ⟨a, nb x b⟩)
      have : x ∈ Ut13.tagSet s := by simpa using this
      exact ⟨((hset s x).mp this).1, b⟩
    · rintro ⟨a, b⟩
      have := h1 x ((hset s x).mpr ⟨a, nb x b⟩)
      have : x ∈ Ut13.tagSet t := by simpa using this
      exact ⟨((hset t x).mp this).1, b⟩
end Fo

set_option linter.all false
/-! The list of calls, taken apart, and what is due. -/
namespace Fo
abbrev zi (m : List Nat) : List Int := m.map fun (n : Nat) => (n : Int)
theorem zi_take (n : Nat) (m : List Nat) : zi (m.take n) = (zi m).take n := List.map_take
theorem zi_drop (n : Nat) (m : List Nat) : zi (m.drop n) = (zi m).drop n := List.map_drop
theorem zi_len (m : List Nat) : (zi m).length = m.length := List.length_map _
theorem zi_nat (m : List Nat) : (zi m).map Int.toNat = m := by
  induction m with
  | nil => rfl
  | cons a m ih =>
    show ((a : Int).toNat) :: (zi m).map Int.toNat = a :: m
    rw [ih, Int.toNat_natCast]
/-- a list behind its length -/
def rowN : List Nat → Option (List Nat × List Nat)
  | [] => none
  | n :: r => if n ≤ r.length then some (r.take n, r.drop n) else none
/-- one call, and what is left -/
def callN : List Nat → Option (Ut13.Call × List Nat)
  | [] => none
  | p :: r =>
    if p = 0 then (rowN r).map fun x => (.file x.1, x.2) else
    if p = 1 then (rowN r).map fun x => (.newer x.1, x.2) else
    if p = 2 then some (.list, r) else
    if p = 3 then (match r with
      | [] => none
      | i :: r => (rowN r).map fun x => (.sentence x.1 i, x.2)) else
    if p = 4 then (match r with
      | [] => none
      | i :: r => (rowN r).bind fun x => (rowN x.2).map fun y => (.done x.1 i y.1, y.2)) else
    if p = 5 then (match r with
      | [] => none
      | i :: r => (rowN r).map fun x => (.undone x.1 i, x.2)) else
    if p = 6 then some (.build, r) else
    if p = 7 then some (.todo, r) else
    if p = 8 then (rowN r).map fun x => (.key x.1, x.2) else none
theorem callN_cons (p : Nat) (r : List Nat) : callN (p :: r) = (
    if p = 0 then (rowN r).map fun x => (.file x.1, x.2) else
    if p = 1 then (rowN r).map fun x => (.newer x.1, x.2) else
    if p = 2 then some (.list, r) else
    if p = 3 then (match r with
      | [] => none
      | i :: r => (rowN r).map fun x => (.sentence x.1 i, x.2)) else
    if p = 4 then (match r with
      | [] => none
      | i :: r => (rowN r).bind fun x => (rowN x.2).map fun y => (.done x.1 i y.1, y.2)) else
    if p = 5 then (match r with
      | [] => none
      | i :: r => (rowN r).map fun x => (.undone x.1 i, x.2)) else
    if p = 6 then some (.build, r) else
    if p = 7 then some (.todo, r) else
    if p = 8 then (rowN r).map fun x => (.key x.1, x.2) else none) := by cases r <;> rfl
theorem row_eq : ∀ (m : List Nat), PyFlat.row (zi m) = (rowN m).map fun x => (zi x.1, zi x.2)
  | [] => rfl
  | n :: r => by
    show (if 0 ≤ (n : Int) ∧ (n : Int).toNat ≤ (zi r).length then some ((zi r).take (n : Int).toNat, (zi r).drop (n : Int).toNat) else none) = (if n ≤ r.length then some (r.take n, r.drop n) else none).map fun x => (zi x.1, zi x.2)
    rw [Int.toNat_natCast, zi_len]
    by_cases h : n ≤ r.length
    · rw [if_pos ⟨by omega, h⟩, if_pos h]
      show _ = some (zi (r.take n), zi (r.drop n))
      rw [zi_take, zi_drop]
    · rw [if_neg (fun z => h z.2), if_neg h]
      rfl
theorem rows1 (m : List Nat) : PyFlat.rows 1 (zi m) = (rowN m).map fun x => ([zi x.1], zi x.2) := by
  rw [PyFlat.rows, row_eq]
  cases rowN m with
  | none => rfl
  | some x => rfl
theorem rows2 (m : List Nat) : PyFlat.rows 2 (zi m) = (rowN m).bind fun x => (rowN x.2).map fun y => ([zi x.1, zi y.1], zi y.2) := by
  rw [PyFlat.rows, row_eq]
  cases rowN m with
  | none => rfl
  | some x =>
    show (match PyFlat.rows 1 (zi x.2) with | none => none | some (xs, t) => some (zi x.1 :: xs, t)) = (rowN x.2).map fun y => ([zi x.1, zi y.1], zi y.2)
    rw [rows1]
    cases rowN x.2 with
    | none => rfl
    | some y => rfl
/-- a call's numbers, as the document's calls have them -/
def rawOf : Ut13.Call → List (List Int)
  | .file w => [[0], zi w]
  | .newer w => [[1], zi w]
  | .list => [[2]]
  | .sentence k i => [[3, (i : Int)], zi k]
  | .done k i w => [[4, (i : Int)], zi k, zi w]
  | .undone k i => [[5, (i : Int)], zi k]
  | .build => [[6]]
  | .todo => [[7]]
  | .key k => [[8], zi k]
theorem call_eq (m : List Nat) : PyFlat.call PyUt13.shape (zi m) = (callN m).map fun x => (rawOf x.1, zi x.2) := by
  cases m with
  | nil => rfl
  | cons p r =>
    show (match PyUt13.shape (p : Int) with
      | none => none
      | some (n, k) => if (zi r).length < n then none else match PyFlat.rows k ((zi r).drop n) with
        | none => none
        | some (xs, t) => some (((p : Int) :: (zi r).take n) :: xs, t)) = _
    have sh : ∀ (q : Nat), PyUt13.shape (q : Int) = if q = 0 then some (0, 1) else if q = 1 then some (0, 1) else if q = 2 then some (0, 0) else if q = 3 then some (1, 1) else if q = 4 then some (1, 2) else if q = 5 then some (1, 1) else if q = 6 then some (0, 0) else if q = 7 then some (0, 0) else if q = 8 then some (0, 1) else none := by
      intro q
      unfold PyUt13.shape
      have e : ∀ n : Nat, ((q : Int) = (n : Int)) = (q = n) := fun n => propext ⟨fun h => by omega, fun h => by rw [h]⟩
      have e0 : ((q : Int) = 0) = (q = 0) := e 0
      have e1 : ((q : Int) = 1) = (q = 1) := e 1
      have e2 : ((q : Int) = 2) = (q = 2) := e 2
      have e3 : ((q : Int) = 3) = (q = 3) := e 3
      have e4 : ((q : Int) = 4) = (q = 4) := e 4
      have e5 : ((q : Int) = 5) = (q = 5) := e 5
      have e6 : ((q : Int) = 6) = (q = 6) := e 6
      have e7 : ((q : Int) = 7) = (q = 7) := e 7
      have e8 : ((q : Int) = 8) = (q = 8) := e 8
      simp only [e0, e1, e2, e3, e4, e5, e6, e7, e8]
    rw [sh, callN_cons]
    have one : ∀ (c : List Nat → Ut13.Call) (q : Int), (∀ x, rawOf (c x) = [[q], zi x]) → (if (zi r).length < 0 then none else match PyFlat.rows 1 ((zi r).drop 0) with
        | none => none
        | some (xs, t) => some ((q :: (zi r).take 0) :: xs, t)) = ((rowN r).map fun x => (c x.1, x.2)).map fun x => (rawOf x.1, zi x.2) := by
      intro c q hc
      rw [if_neg (Nat.not_lt_zero _), List.drop_zero, rows1]
      cases rowN r with
      | none => rfl
      | some x =>
        show some ([q] :: [zi x.1], zi x.2) = some (rawOf (c x.1), zi x.2)
        rw [hc]
    have none0 : ∀ (c : Ut13.Call) (q : Int), rawOf c = [[q]] → (if (zi r).length < 0 then none else match PyFlat.rows 0 ((zi r).drop 0) with
        | none => none
        | some (xs, t) => some ((q :: (zi r).take 0) :: xs, t)) = (some (c, r)).map fun x => (rawOf x.1, zi x.2) := by
      intro c q hc
      rw [if_neg (Nat.not_lt_zero _), List.drop_zero, PyFlat.rows]
      show some ([[q]], zi r) = some (rawOf c, zi r)
      rw [hc]
    have two : ∀ (c : List Nat → Nat → Ut13.Call) (q : Int), (∀ x i, rawOf (c x i) = [[q, (i : Int)], zi x]) → (if (zi r).length < 1 then none else match PyFlat.rows 1 ((zi r).drop 1) with
        | none => none
        | some (xs, t) => some ((q :: (zi r).take 1) :: xs, t)) = ((match r with
          | [] => none
          | i :: r => (rowN r).map fun x => (c x.1 i, x.2)) : Option (Ut13.Call × List Nat)).map fun x => (rawOf x.1, zi x.2) := by
      intro c q hc
      cases r with
      | nil => rfl
      | cons i r =>
        rw [if_neg (by rw [zi_len]; simp)]
        show (match PyFlat.rows 1 (zi r) with | none => none | some (xs, t) => some ([q, (i : Int)] :: xs, t)) = ((rowN r).map fun x => (c x.1 i, x.2)).map fun x => (rawOf x.1, zi x.2)
        rw [rows1]
        cases rowN r with
        | none => rfl
        | some x =>
          show some ([q, (i : Int)] :: [zi x.1], zi x.2) = some (rawOf (c x.1 i), zi x.2)
          rw [hc]
    by_cases h0 : p = 0
    · subst h0
      exact one .file 0 (fun _ => rfl)
    rw [if_neg h0, if_neg h0]
    by_cases h1 : p = 1
    · subst h1
      exact one .newer 1 (fun _ => rfl)
    rw [if_neg h1, if_neg h1]
    by_cases h2 : p = 2
    · subst h2
      exact none0 .list 2 rfl
    rw [if_neg h2, if_neg h2]
    by_cases h3 : p = 3
    · subst h3
      exact two .sentence 3 (fun _ _ => rfl)
    rw [if_neg h3, if_neg h3]
    by_cases h4 : p = 4
    · subst h4
      rw [if_pos rfl, if_pos rfl]
      cases r with
      | nil => rfl
      | cons i r =>
        show (if (zi (i :: r)).length < 1 then none else match PyFlat.rows 2 (zi r) with | none => none | some (xs, t) => some ([4, (i : Int)] :: xs, t)) = _
        rw [if_neg (by rw [zi_len]; simp), rows2]
        show _ = ((rowN r).bind fun x => (rowN x.2).map fun y => (Ut13.Call.done x.1 i y.1, y.2)).map fun x => (rawOf x.1, zi x.2)
        cases rowN r with
        | none => rfl
        | some x =>
          show (match ((rowN x.2).map fun y => ([zi x.1, zi y.1], zi y.2)) with | none => none | some (xs, t) => some ([4, (i : Int)] :: xs, t)) = ((rowN x.2).map fun y => (Ut13.Call.done x.1 i y.1, y.2)).map fun x => (rawOf x.1, zi x.2)
          cases rowN x.2 with
          | none => rfl
          | some y => rfl
    rw [if_neg h4, if_neg h4]
    by_cases h5 : p = 5
    · subst h5
      exact two .undone 5 (fun _ _ => rfl)
    rw [if_neg h5, if_neg h5]
    by_cases h6 : p = 6
    · subst h6
      exact none0 .build 6 rfl
    rw [if_neg h6, if_neg h6]
    by_cases h7 : p = 7
    · subst h7
      exact none0 .todo 7 rfl
    rw [if_neg h7, if_neg h7]
    by_cases h8 : p = 8
    · subst h8
      exact one .key 8 (fun _ => rfl)
    rw [if_neg h8, if_neg h8]
    rfl
/-- the calls of a list -/
inductive Plays : List Nat → List Ut13.Call → Prop
  | nil : Plays [] []
  | cons {m r : List Nat} {x : Ut13.Call} {xs : List Ut13.Call} : callN m = some (x, r) → Plays r xs → Plays m (x :: xs)
theorem plays_of : ∀ (f : Nat) (m : List Nat) (cs : List (List (List Int))), PyFlat.calls PyUt13.shape f (zi m) = some cs → ∃ xs, Plays m xs ∧ cs = xs.map rawOf
  | f, [], cs, h => by
    have : cs = [] := by
      cases f <;> (injection h with h; exact h.symm)
    exact ⟨[], .nil, this⟩
  | 0, a :: m, cs, h => by cases h
  | f + 1, a :: m, cs, h => by
    have h' : (match PyFlat.call PyUt13.shape (zi (a :: m)) with
      | none => none
      | some (c, t) => match PyFlat.calls PyUt13.shape f t with
        | none => none
        | some cs => some (c :: cs)) = some cs := h
    rw [call_eq] at h'
    cases hc : callN (a :: m) with
    | none =>
      rw [hc] at h'
      cases h'
    | some y =>
      rw [hc] at h'
      have h2 : (match PyFlat.calls PyUt13.shape f (zi y.2) with
        | none => none
        | some cs => some (rawOf y.1 :: cs)) = some cs := h'
      cases hr : PyFlat.calls PyUt13.shape f (zi y.2) with
      | none =>
        rw [hr] at h2
        cases h2
      | some ds =>
        rw [hr] at h2
        injection h2 with h2
        obtain ⟨xs, p1, p2⟩ := plays_of f y.2 ds hr
        exact ⟨y.1 :: xs, .cons hc p1, by rw [← h2, p2, List.map_cons]⟩
/-- what is due, call by call -/
def due (g : Ut13.St) : List Ut13.Call → List (List Int)
  | [] => []
  | x :: xs => (Ut13.step g x).2 :: due (Ut13.step g x).1 xs
/-- the numbers of a call within bounds -/
def Small : Ut13.Call → Prop
  | .file w => w.length ≤ 420 ∧ ∀ n ∈ w, n ≤ 4294967295
  | .newer w => w.length ≤ 420 ∧ ∀ n ∈ w, n ≤ 4294967295
  | .list => True
  | .sentence k i => k.length ≤ 420 ∧ (∀ n ∈ k, n ≤ 4294967295) ∧ i ≤ 4294967295
  | .done k i w => k.length ≤ 420 ∧ (∀ n ∈ k, n ≤ 4294967295) ∧ i ≤ 4294967295 ∧ w.length ≤ 120 ∧ ∀ n ∈ w, n ≤ 4294967295
  | .undone k i => k.length ≤ 420 ∧ (∀ n ∈ k, n ≤ 4294967295) ∧ i ≤ 4294967295
  | .build => True
  | .todo => True
  | .key k => k.length ≤ 420 ∧ ∀ n ∈ k, n ≤ 4294967295
theorem nat_ok {n : Nat} (h : n ≤ 4294967295) : Ut13Neutral.nat (n : Int) = true := by
  unfold Ut13Neutral.nat
  rw [decide_eq_true (by omega : (0 : Int) ≤ n), decide_eq_true (by omega : (n : Int) < 2 ^ 32)]
  rfl
theorem nats_ok {w : List Nat} (h : ∀ n ∈ w, n ≤ 4294967295) : (zi w).all Ut13Neutral.nat = true := by
  rw [List.all_eq_true]
  intro x hx
  obtain ⟨n, hn, rfl⟩ := List.mem_map.mp hx
  exact nat_ok (h n hn)
theorem callOf_zi {m : List Nat} (h : ∀ n ∈ m, n ≤ 4294967295) : Ut13Neutral.callOf (zi m) = Ut13Neutral.callIn m := by
  unfold Ut13Neutral.callOf
  rw [nats_ok h, if_neg (by decide), zi_nat]
theorem rowIn_app (k t : List Nat) : Ut13Neutral.rowIn (k.length :: (k ++ t)) = some (k, t) := by
  show (if (k ++ t).length < k.length then none else some ((k ++ t).take k.length, (k ++ t).drop k.length)) = _
  rw [if_neg (by rw [List.length_append]; omega), List.take_left, List.drop_left]
theorem step_eq (g : Ut13.St) (x : Ut13.Call) (h : Small x) : Ut13Neutral.step g ((PyUt13.whole (rawOf x)).headD []) = Ut13.step g x := by
  have key : Ut13Neutral.callOf ((PyUt13.whole (rawOf x)).headD []) = some x := by
    cases x with
    | file w => exact (callOf_zi (m := 0 :: w) (by
      intro n hn
      rcases List.mem_cons.mp hn with e | hn
      · rw [e]
        decide
      · exact h.2 n hn)).trans rfl
    | newer w => exact (callOf_zi (m := 1 :: w) (by
      intro n hn
      rcases List.mem_cons.mp hn with e | hn
      · rw [e]
        decide
      · exact h.2 n hn)).trans rfl
    | list => rfl
    | sentence k i =>
      have e : (PyUt13.whole (rawOf (.sentence k i))).headD [] = zi (3 :: k.length :: (k ++ [i])) := by
        show [3] ++ [((zi k).length : Int)] ++ zi k ++ [(i : Int)] = _
        rw [zi_len]
        simp [zi]
      rw [e, callOf_zi]
      · show (Ut13Neutral.rowIn (k.length :: (k ++ [i]))).bind _ = _
        rw [rowIn_app]
        rfl
      · intro n hn
        have h1 := h.1
        have h3 := h.2.2
        simp only [List.mem_cons, List.mem_append, List.not_mem_nil, or_false] at hn
        rcases hn with e | e | e | e
        · omega
        · omega
        · exact h.2.1 n e
        · omega
    | done k i w =>
      have e : (PyUt13.whole (rawOf (.done k i w))).headD [] = zi (4 :: k.length :: (k ++ (i :: w))) := by
        show [4] ++ [((zi k).length : Int)] ++ zi k ++ [(i : Int)] ++ zi w = _
        rw [zi_len]
        simp [zi]
      rw [e, callOf_zi]
      · show (Ut13Neutral.rowIn (k.length :: (k ++ (i :: w)))).bind _ = _
        rw [rowIn_app]
        rfl
      · intro n hn
        have h1 := h.1
        have h3 := h.2.2.1
        simp only [List.mem_cons, List.mem_append] at hn
        rcases hn with e | e | e | e | e
        · omega
        · omega
        · exact h.2.1 n e
        · omega
        · exact h.2.2.2.2 n e
    | undone k i =>
      have e : (PyUt13.whole (rawOf (.undone k i))).headD [] = zi (5 :: k.length :: (k ++ [i])) := by
        show [5] ++ [((zi k).length : Int)] ++ zi k ++ [(i : Int)] = _
        rw [zi_len]
        simp [zi]
      rw [e, callOf_zi]
      · show (Ut13Neutral.rowIn (k.length :: (k ++ [i]))).bind _ = _
        rw [rowIn_app]
        rfl
      · intro n hn
        have h1 := h.1
        have h3 := h.2.2
        simp only [List.mem_cons, List.mem_append, List.not_mem_nil, or_false] at hn
        rcases hn with e | e | e | e
        · omega
        · omega
        · exact h.2.1 n e
        · omega
    | build => rfl
    | todo => rfl
    | key k => exact (callOf_zi (m := 8 :: k) (by
      intro n hn
      rcases List.mem_cons.mp hn with e | hn
      · rw [e]
        decide
      · exact h.2 n hn)).trans rfl
  unfold Ut13Neutral.step
  rw [key]
end Fo

set_option linter.all false
namespace Fo
def lens (l : List (List Int)) : Nat := (l.map List.length).sum
theorem within_iff {n : Nat} (h : PyInside.within 0 4294967295 (n : Int) = true) : n ≤ 4294967295 := by
  unfold PyInside.within at h
  rw [Bool.and_eq_true, decide_eq_true_eq, decide_eq_true_eq] at h
  omega
theorem lists_iff {most : Nat} {w : List Nat} {b : List (Int × Int × Nat × Nat)} {rs : List (List Int)} (h : PyInside.lists ((0, 4294967295, 0, most) :: b) (zi w :: rs) = true) : w.length ≤ most ∧ (∀ n ∈ w, n ≤ 4294967295) ∧ PyInside.lists b rs = true := by
  have h' : (decide (0 ≤ (zi w).length) && decide ((zi w).length ≤ most) && (zi w).all (PyInside.within 0 4294967295) && PyInside.lists b rs) = true := h
  rw [Bool.and_eq_true, Bool.and_eq_true, Bool.and_eq_true, decide_eq_true_eq, decide_eq_true_eq, zi_len] at h'
  refine ⟨h'.1.1.2, fun n hn => ?_, h'.2⟩
  exact within_iff (List.all_eq_true.mp h'.1.2 (n : Int) (List.mem_map.mpr ⟨n, hn, rfl⟩))
theorem small_of (x : Ut13.Call) (h : PyInside.call PyUt13.bound (rawOf x) = true) : Small x := by
  cases x with
  | file w =>
    have h' : (true && PyInside.lists [(0, 4294967295, 0, 420)] [zi w]) = true := h
    rw [Bool.true_and] at h'
    exact ⟨(lists_iff h').1, (lists_iff h').2.1⟩
  | newer w =>
    have h' : (true && PyInside.lists [(0, 4294967295, 0, 420)] [zi w]) = true := h
    rw [Bool.true_and] at h'
    exact ⟨(lists_iff h').1, (lists_iff h').2.1⟩
  | list => trivial
  | sentence k i =>
    have h' : ((PyInside.within 0 4294967295 (i : Int) && true) && PyInside.lists [(0, 4294967295, 0, 420)] [zi k]) = true := h
    rw [Bool.and_eq_true, Bool.and_true] at h'
    exact ⟨(lists_iff h'.2).1, (lists_iff h'.2).2.1, within_iff h'.1⟩
  | done k i w =>
    have h' : ((PyInside.within 0 4294967295 (i : Int) && true) && PyInside.lists [(0, 4294967295, 0, 420), (0, 4294967295, 0, 120)] [zi k, zi w]) = true := h
    rw [Bool.and_eq_true, Bool.and_true] at h'
    obtain ⟨a, b, c⟩ := lists_iff h'.2
    exact ⟨a, b, within_iff h'.1, (lists_iff c).1, (lists_iff c).2.1⟩
  | undone k i =>
    have h' : ((PyInside.within 0 4294967295 (i : Int) && true) && PyInside.lists [(0, 4294967295, 0, 420)] [zi k]) = true := h
    rw [Bool.and_eq_true, Bool.and_true] at h'
    exact ⟨(lists_iff h'.2).1, (lists_iff h'.2).2.1, within_iff h'.1⟩
  | build => trivial
  | todo => trivial
  | key k =>
    have h' : (true && PyInside.lists [(0, 4294967295, 0, 420)] [zi k]) = true := h
    rw [Bool.true_and] at h'
    exact ⟨(lists_iff h').1, (lists_iff h').2.1⟩
theorem played_due : ∀ (xs : List Ut13.Call) (g : Ut13.St), (∀ x ∈ xs, Small x) → PyFlat.played (fun s c => Ut13Neutral.step s (c.headD [])) g ((xs.map rawOf).map PyUt13.whole) = due g xs
  | [], g, _ => rfl
  | x :: xs, g, h => by
    have e := step_eq g x (h x (List.mem_cons_self ..))
    show (Ut13Neutral.step g ((PyUt13.whole (rawOf x)).headD [])).2 :: PyFlat.played _ (Ut13Neutral.step g ((PyUt13.whole (rawOf x)).headD [])).1 _ = _
    rw [e, played_due xs _ fun y hy => h y (List.mem_cons_of_mem _ hy)]
    rfl
theorem many_due : ∀ (xs : List Ut13.Call) (g : Ut13.St), (∀ x ∈ xs, Small x) → Ut13Neutral.many g (((xs.map rawOf).map PyUt13.whole).map fun c => c.headD []) = lens (due g xs)
  | [], g, _ => rfl
  | x :: xs, g, h => by
    have e := step_eq g x (h x (List.mem_cons_self ..))
    show (Ut13Neutral.step g ((PyUt13.whole (rawOf x)).headD [])).2.length + Ut13Neutral.many (Ut13Neutral.step g ((PyUt13.whole (rawOf x)).headD [])).1 _ = _
    rw [e, many_due xs _ fun y hy => h y (List.mem_cons_of_mem _ hy)]
    rfl
/-- what is asked and what is due, for a list that may be handed in -/
theorem asked_due {m : List Nat} (h : PyUt13.answers_asked (zi m) = true) : ∃ xs, Plays m xs ∧ xs.length ≤ 30 ∧ (∀ x ∈ xs, Small x) ∧ lens (due Ut13.init xs) ≤ 1000000 ∧ PyUt13.answers (zi m) = PyFlat.told (due Ut13.init xs) := by
  unfold PyUt13.answers_asked at h
  cases hc : PyFlat.calls PyUt13.shape (zi m).length (zi m) with
  | none =>
    rw [hc] at h
    cases h
  | some raw =>
    rw [hc] at h
    obtain ⟨xs, hp, rfl⟩ := plays_of _ _ _ hc
    have h' : (!(xs.map rawOf).isEmpty && PyFlat.atMost 30 (xs.map rawOf) && PyInside.calls PyUt13.bound (xs.map rawOf) && Ut13Neutral.asked (((xs.map rawOf).map PyUt13.whole).map fun c => c.headD []) && PyFlat.short 10000000 (PyUt13.answers (zi m))) = true := h
    rw [Bool.and_eq_true, Bool.and_eq_true, Bool.and_eq_true, Bool.and_eq_true] at h'
    obtain ⟨⟨⟨⟨_, h2⟩, h3⟩, h4⟩, _⟩ := h'
    have hl : xs.length ≤ 30 := by
      have := of_decide_eq_true (show decide ((xs.map rawOf).length ≤ 30) = true from h2)
      rw [List.length_map] at this
      exact this
    have hs : ∀ x ∈ xs, Small x := fun x hx => small_of x (List.all_eq_true.mp (show (xs.map rawOf).all (PyInside.call PyUt13.bound) = true from h3) _ (List.mem_map.mpr ⟨x, hx, rfl⟩))
    refine ⟨xs, hp, hl, hs, ?_, ?_⟩
    · unfold Ut13Neutral.asked at h4
      rw [Bool.and_eq_true, Bool.and_eq_true, Bool.and_eq_true] at h4
      have := of_decide_eq_true h4.2.2.2
      rw [show Ut13Neutral.start = Ut13.init from rfl, many_due xs _ hs] at this
      exact this
    · unfold PyUt13.answers PyUt13.calls
      rw [hc]
      show PyFlat.told (PyFlat.played _ Ut13Neutral.start ((xs.map rawOf).map PyUt13.whole)) = _
      rw [show Ut13Neutral.start = Ut13.init from rfl, played_due xs _ hs]
/-- told, one answer more -/
theorem told_snoc (l : List (List Int)) (a : List Int) : PyFlat.told (l ++ [a]) = PyFlat.told l ++ ((a.length : Int) :: a) := by
  unfold PyFlat.told
  rw [List.flatMap_append, List.flatMap_cons, List.flatMap_nil, List.append_nil]
end Fo

set_option linter.all false
/-! The office's state as tables, against the specification. -/
namespace Fo
open Ut13 (Tok Text Bytes Line File Done House)
abbrev Tab := List ((List Nat × Nat) × List Nat)
/-- the sentences, with their keys and numbers -/
def tabS (f : File) : Tab := (Ut13.all f).map fun x => ((x.1, x.2.1), Ut13.textBytes x.2.2)
/-- what's done -/
def tabD (l : List Done) : Tab := l.map fun d => ((d.key, d.at_), Ut13.textBytes d.trans)
theorem zip_num (k : List Nat) : ∀ (l : List Text) (i : Nat), (l.zipIdx i).map (fun s => ((k, s.2), Ut13.textBytes s.1)) = numFrom k i (l.map Ut13.textBytes)
  | [], i => rfl
  | s :: r, i => by
    rw [List.zipIdx_cons, List.map_cons, List.map_cons, zip_num k r (i + 1)]
    rfl
/-- the table of one line -/
def tabL : Line → Tab
  | .kept _ => []
  | .entry k t => numFrom k 0 ((Ut13.sentences t).map Ut13.textBytes)
theorem tabS_eq (f : File) : tabS f = f.lines.flatMap tabL := by
  unfold tabS Ut13.all
  induction f.lines with
  | nil => rfl
  | cons x l ih =>
    rw [List.flatMap_cons, List.flatMap_cons, List.map_append, ih]
    congr 1
    cases x with
    | kept w => rfl
    | entry k t =>
      show (((Ut13.sentences t).zipIdx.map fun s => (k, s.2, s.1)).map fun x => ((x.1, x.2.1), Ut13.textBytes x.2.2)) = _
      rw [List.map_map]
      exact zip_num k (Ut13.sentences t) 0
def filled (ls : List (List Nat)) : List (List Nat) := ls.filter fun l => !isKept l
theorem fit_tab : ∀ {ls : List (List Nat)} {xs : List Line}, Fit ls xs → (filled ls).flatMap numLine = xs.flatMap tabL ∧ (filled ls).map keyOf = Ut13.keysOf xs ∧ ∀ l ∈ filled ls, 61 ∈ l
  | _, _, .nil => ⟨rfl, rfl, fun _ h => by cases h⟩
  | _, _, .cons (w := w) (x := x) (ws := ws) (xs := xs) h t => by
    obtain ⟨h1, h2, h3⟩ := fit_tab t
    cases h with
    | kept hk =>
      have e : filled (w :: ws) = filled ws := List.filter_cons_of_neg (by rw [hk]; decide)
      rw [e]
      exact ⟨h1, h2, h3⟩
    | @entry k tt hk hkey hr ok hw =>
      have e : filled (w :: ws) = w :: filled ws := List.filter_cons_of_pos (by rw [hk]; decide)
      rw [e]
      refine ⟨?_, ?_, fun l hl => ?_⟩
      · rw [List.flatMap_cons, List.flatMap_cons, h1]
        congr 1
        show numFrom (keyOf w) 0 (sentencesOf (textOf w)) = numFrom k 0 ((Ut13.sentences tt).map Ut13.textBytes)
        rw [hkey, sents_eq hr ok]
      · rw [List.map_cons, h2, hkey]
        rfl
      · rcases List.mem_cons.mp hl with e | hl
        · rw [e, hw]
          exact List.mem_append_right _ (List.mem_cons_self ..)
        · exact h3 l hl
theorem twice_nodup : ∀ (xs : List Line) (i : Nat) (seen : List (List Nat)), Ut13.twice i seen xs = none → (Ut13.keysOf xs).Nodup ∧ ∀ k ∈ Ut13.keysOf xs, k ∉ seen
  | [], i, seen, _ => ⟨List.nodup_nil, fun _ h => by cases h⟩
  | .kept w :: xs, i, seen, h => by
    rw [Ut13.twice] at h
    exact twice_nodup xs (i + 1) seen h
  | .entry k t :: xs, i, seen, h => by
    rw [Ut13.twice] at h
    by_cases c : seen.contains k = true
    · rw [if_pos c] at h
      cases h
    · rw [if_neg c] at h
      obtain ⟨h1, h2⟩ := twice_nodup xs (i + 1) (k :: seen) h
      have hk : k ∉ seen := by simpa using c
      show (k :: Ut13.keysOf xs).Nodup ∧ ∀ j ∈ k :: Ut13.keysOf xs, j ∉ seen
      refine ⟨List.nodup_cons.mpr ⟨fun z => h2 k z (List.mem_cons_self ..), h1⟩, fun j hj => ?_⟩
      rcases List.mem_cons.mp hj with e | hj
      · rw [e]; exact hk
      · exact fun z => h2 j hj (List.mem_cons_of_mem _ z)
theorem fit_texts : ∀ {ls : List (List Nat)} {xs : List Line}, Fit ls xs → ∀ k t, Line.entry k t ∈ xs → (∀ x ∈ t, Valid x) ∧ Ut13.tagsOk [] [] t = true
  | _, _, .nil, k, t, h => by cases h
  | _, _, .cons h r, k, t, hm => by
    rcases List.mem_cons.mp hm with e | hm
    · cases h with
      | kept hk => cases e
      | entry hk hkey hr ok hw =>
        cases e
        exact ⟨hr.valid, ok⟩
    · exact fit_texts r k t hm
/-- what holds of the state between two calls -/
structure WF (g : Ut13.St) : Prop where
  keys : (Ut13.keysOf g.file.lines).Nodup
  texts : ∀ k t, Line.entry k t ∈ g.file.lines → (∀ x ∈ t, Valid x) ∧ Ut13.tagsOk [] [] t = true
  done : ∀ d ∈ g.done, Ut13.sentenceOf g d.key d.at_ = some d.text
  nd : (g.done.map fun d => (d.key, d.at_)).Nodup
theorem wf_init : WF Ut13.init where
  keys := List.nodup_nil
  texts := fun k t h => by
    have : Line.entry k t = Line.kept [] := List.mem_singleton.mp h
    cases this
  done := fun d h => by cases h
  nd := List.nodup_nil
/-! ### where a key stands -/
def findT (k : List Nat) : List Line → Option Text
  | [] => none
  | .kept _ :: l => findT k l
  | .entry j t :: l => if j = k then some t else findT k l
theorem textOf_find (f : File) (k : List Nat) : Ut13.textOf f k = findT k f.lines := by
  unfold Ut13.textOf
  induction f.lines with
  | nil => rfl
  | cons x l ih =>
    rw [List.findSome?_cons]
    cases x with
    | kept w =>
      show (match (none : Option Text) with | some b => some b | none => _) = findT k l
      exact ih
    | entry j t =>
      rw [findT]
      by_cases h : j = k
      · simp [h]
      · simp only [h, if_false]
        exact ih
theorem findT_none : ∀ {l : List Line} {k : List Nat}, k ∉ Ut13.keysOf l → findT k l = none
  | [], k, _ => rfl
  | .kept _ :: l, k, h => findT_none (l := l) h
  | .entry j t :: l, k, h => by
    have h' : k ∉ j :: Ut13.keysOf l := h
    rw [findT, if_neg (fun z => h' (by rw [z]; exact List.mem_cons_self ..))]
    exact findT_none fun z => h' (List.mem_cons_of_mem _ z)
theorem findT_mem : ∀ {l : List Line} {k : List Nat} {t : Text}, findT k l = some t → Line.entry k t ∈ l
  | .kept _ :: l, k, t, h => List.mem_cons_of_mem _ (findT_mem (l := l) h)
  | .entry j u :: l, k, t, h => by
    rw [findT] at h
    by_cases e : j = k
    · rw [if_pos e] at h
      injection h with h
      rw [e, h]
      exact List.mem_cons_self ..
    · rw [if_neg e] at h
      exact List.mem_cons_of_mem _ (findT_mem h)
theorem valA_num (k : List Nat) : ∀ (l : List (List Nat)) (i n : Nat), valA (numFrom k i l) (k, i + n) = l[n]?
  | [], i, n => by simp [numFrom, valA_nil]
  | s :: r, i, 0 => valA_pos (p := ((k, i), s)) rfl
  | s :: r, i, n + 1 => by
    show valA (((k, i), s) :: numFrom k (i + 1) r) (k, i + (n + 1)) = _
    rw [valA_neg (fun z => by have := congrArg Prod.snd z; simp at this), show i + (n + 1) = i + 1 + n by omega, valA_num k r (i + 1) n]
    rfl
theorem valA_lines : ∀ (l : List Line) (k : List Nat) (i : Nat), (Ut13.keysOf l).Nodup → valA (l.flatMap tabL) (k, i) = ((findT k l).bind fun t => (Ut13.sentences t)[i]?).map Ut13.textBytes
  | [], k, i, _ => rfl
  | .kept w :: l, k, i, nd => by
    rw [List.flatMap_cons]
    show valA ([] ++ l.flatMap tabL) (k, i) = _
    rw [List.nil_append, findT]
    exact valA_lines l k i nd
  | .entry j t :: l, k, i, nd => by
    have nd' : (j :: Ut13.keysOf l).Nodup := nd
    rw [List.nodup_cons] at nd'
    rw [List.flatMap_cons, valA_app, findT]
    by_cases h : j = k
    · subst h
      rw [if_pos rfl]
      have e1 : valA (tabL (.entry j t)) (j, i) = ((Ut13.sentences t)[i]?).map Ut13.textBytes := by
        have := valA_num j ((Ut13.sentences t).map Ut13.textBytes) 0 i
        rw [Nat.zero_add] at this
        show valA (numFrom j 0 ((Ut13.sentences t).map Ut13.textBytes)) (j, i) = _
        rw [this, List.getElem?_map]
      have e2 : valA (l.flatMap tabL) (j, i) = none := by
        rw [valA_lines l j i nd'.2, findT_none nd'.1]
        rfl
      rw [e1, e2, Option.or_none]
      rfl
    · rw [if_neg h]
      have e1 : valA (tabL (.entry j t)) (k, i) = none := valA_none fun x hx z => by
        have := (numFrom_keys _ _ _ x hx).1
        exact h (this.symm.trans (congrArg Prod.fst z))
      rw [e1, Option.none_or]
      exact valA_lines l k i nd'.2
/-- the sentence there -/
theorem valA_tabS {g : Ut13.St} (wf : WF g) (k : List Nat) (i : Nat) : valA (tabS g.file) (k, i) = (Ut13.sentenceOf g k i).map Ut13.textBytes := by
  rw [tabS_eq, valA_lines _ _ _ wf.keys]
  unfold Ut13.sentenceOf
  rw [textOf_find]
theorem tabS_nodup {g : Ut13.St} (wf : WF g) : ((tabS g.file).map (·.1)).Nodup := by
  rw [tabS_eq]
  have key : ∀ (l : List Line), (Ut13.keysOf l).Nodup → ((l.flatMap tabL).map (·.1)).Nodup ∧ ∀ x ∈ l.flatMap tabL, x.1.1 ∈ Ut13.keysOf l := by
    intro l
    induction l with
    | nil => exact fun _ => ⟨List.nodup_nil, fun x h => by cases h⟩
    | cons y l ih =>
      intro nd
      cases y with
      | kept w => exact ih nd
      | entry j t =>
        have nd' : (j :: Ut13.keysOf l).Nodup := nd
        rw [List.nodup_cons] at nd'
        obtain ⟨h1, h2⟩ := ih nd'.2
        have one : ∀ (ss : List (List Nat)) (i : Nat), ((numFrom j i ss).map (·.1)).Nodup := by
          intro ss
          induction ss with
          | nil => exact fun _ => List.nodup_nil
          | cons s r ihr =>
            intro i
            show ((j, i) :: (numFrom j (i + 1) r).map (·.1)).Nodup
            refine List.nodup_cons.mpr ⟨fun z => ?_, ihr (i + 1)⟩
            obtain ⟨x, hx, e⟩ := List.mem_map.mp z
            have := (numFrom_keys _ _ _ x hx).2.1
            rw [e] at this
            have : i + 1 ≤ i := this
            omega
        rw [List.flatMap_cons]
        refine ⟨?_, fun x hx => ?_⟩
        · rw [List.map_append]
          refine List.nodup_append.mpr ⟨one _ 0, h1, fun a ha b hb e => ?_⟩
          obtain ⟨x, hx, ex⟩ := List.mem_map.mp ha
          obtain ⟨y, hy, ey⟩ := List.mem_map.mp hb
          have k1 := (numFrom_keys _ _ _ x hx).1
          have k2 := h2 y hy
          rw [show y.1 = x.1 from by rw [ey, ex, e], k1] at k2
          exact nd'.1 k2
        · show x.1.1 ∈ j :: Ut13.keysOf l
          rcases List.mem_append.mp hx with hx | hx
          · rw [(numFrom_keys _ _ _ x hx).1]
            exact List.mem_cons_self ..
          · exact List.mem_cons_of_mem _ (h2 x hx)
  exact (key _ wf.keys).1
/-! ### what's done -/
theorem sent_valid {g : Ut13.St} (wf : WF g) {k : List Nat} {i : Nat} {s : Text} (h : Ut13.sentenceOf g k i = some s) : (∀ x ∈ s, Valid x) ∧ Ut13.tagsOk [] [] s = true := by
  unfold Ut13.sentenceOf at h
  rw [textOf_find] at h
  cases hf : findT k g.file.lines with
  | none =>
    rw [hf] at h
    cases h
  | some t =>
    rw [hf] at h
    have h' : (Ut13.sentences t)[i]? = some s := h
    have hs : s ∈ Ut13.sentences t := List.mem_of_getElem? h'
    obtain ⟨h1, h2⟩ := wf.texts k t (findT_mem hf)
    exact ⟨sents_valid h1 s hs, sents_ok h2 s hs⟩
theorem done_find {g : Ut13.St} : ∀ (l : List Done), (∀ d ∈ l, Ut13.sentenceOf g d.key d.at_ = some d.text) → ∀ {k : List Nat} {i : Nat} {s : Text}, Ut13.sentenceOf g k i = some s →
    valA (tabD l) (k, i) = ((l.find? fun d => d.key == k && (d.at_ == i && d.text == s)).map fun d => d.trans).map Ut13.textBytes
  | [], _, k, i, s, _ => rfl
  | d :: l, h, k, i, s, hs => by
    have hd := h d (List.mem_cons_self ..)
    have ih := done_find l (fun x hx => h x (List.mem_cons_of_mem _ hx)) hs
    show valA (((d.key, d.at_), Ut13.textBytes d.trans) :: tabD l) (k, i) = _
    rw [List.find?_cons]
    by_cases e : (d.key, d.at_) = (k, i)
    · have e1 : d.key = k := congrArg Prod.fst e
      have e2 : d.at_ = i := congrArg Prod.snd e
      rw [e1, e2, hs] at hd
      injection hd with hd
      rw [valA_pos (p := ((d.key, d.at_), Ut13.textBytes d.trans)) e]
      have : (d.key == k && (d.at_ == i && d.text == s)) = true := by rw [e1, e2, hd]; simp
      rw [this]
      rfl
    · rw [valA_neg (p := ((d.key, d.at_), Ut13.textBytes d.trans)) e, ih]
      have : (d.key == k && (d.at_ == i && d.text == s)) = false := by
        cases hc : (d.key == k && (d.at_ == i && d.text == s)) with
        | false => rfl
        | true =>
          rw [Bool.and_eq_true, Bool.and_eq_true] at hc
          have e1 : d.key = k := by simpa using hc.1
          have e2 : d.at_ = i := by simpa using hc.2.1
          exact absurd (by rw [e1, e2]) e
      rw [this]
theorem valA_tabD {g : Ut13.St} (wf : WF g) {k : List Nat} {i : Nat} {s : Text} (hs : Ut13.sentenceOf g k i = some s) : valA (tabD g.done) (k, i) = (Ut13.doneFor g k i s).map Ut13.textBytes := done_find g.done wf.done hs
theorem valA_tabD_none {g : Ut13.St} (wf : WF g) {k : List Nat} {i : Nat} (hs : Ut13.sentenceOf g k i = none) : valA (tabD g.done) (k, i) = none := by
  refine valA_none fun x hx z => ?_
  obtain ⟨d, hd, rfl⟩ := List.mem_map.mp hx
  have h := wf.done d hd
  have e1 : d.key = k := congrArg Prod.fst z
  have e2 : d.at_ = i := congrArg Prod.snd z
  rw [e1, e2, hs] at h
  cases h
theorem tabD_nodup {g : Ut13.St} (wf : WF g) : ((tabD g.done).map (·.1)).Nodup := by
  unfold tabD
  rw [List.map_map]
  exact wf.nd
end Fo

set_option linter.all false
namespace Fo
open Ut13 (Tok Text Bytes Line File Done House)
/-! ### the sentences one by one -/
theorem find_of_mem : ∀ {l : List Line} {k : List Nat} {t : Text}, (Ut13.keysOf l).Nodup → Line.entry k t ∈ l → findT k l = some t
  | .kept w :: l, k, t, nd, h => by
    rcases List.mem_cons.mp h with e | h
    · cases e
    · exact find_of_mem (l := l) nd h
  | .entry j u :: l, k, t, nd, h => by
    have nd' : (j :: Ut13.keysOf l).Nodup := nd
    rw [List.nodup_cons] at nd'
    rw [findT]
    rcases List.mem_cons.mp h with e | h
    · cases e
      rw [if_pos rfl]
    · have hk : k ∈ Ut13.keysOf l := by
        unfold Ut13.keysOf
        exact List.mem_filterMap.mpr ⟨_, h, rfl⟩
      rw [if_neg (fun z => nd'.1 (by rw [z]; exact hk))]
      exact find_of_mem nd'.2 h
theorem zip_mem {α : Type} {l : List α} {x : α} {i : Nat} : (x, i) ∈ l.zipIdx ↔ l[i]? = some x := by
  rw [List.mk_mem_zipIdx_iff_getElem?]
theorem all_mem {f : File} {k : List Nat} {i : Nat} {s : Text} : (k, i, s) ∈ Ut13.all f ↔ ∃ t, Line.entry k t ∈ f.lines ∧ (Ut13.sentences t)[i]? = some s := by
  unfold Ut13.all
  rw [List.mem_flatMap]
  constructor
  · rintro ⟨x, hx, h⟩
    cases x with
    | kept w => cases h
    | entry j t =>
      obtain ⟨⟨s', i'⟩, hy, e⟩ := List.mem_map.mp h
      cases e
      exact ⟨t, hx, zip_mem.mp hy⟩
  · rintro ⟨t, ht, h⟩
    exact ⟨_, ht, List.mem_map.mpr ⟨(s, i), zip_mem.mpr h, rfl⟩⟩
theorem sent_iff {g : Ut13.St} (nd : (Ut13.keysOf g.file.lines).Nodup) {k : List Nat} {i : Nat} {s : Text} : Ut13.sentenceOf g k i = some s ↔ (k, i, s) ∈ Ut13.all g.file := by
  rw [all_mem]
  unfold Ut13.sentenceOf
  rw [textOf_find]
  constructor
  · intro h
    cases hf : findT k g.file.lines with
    | none =>
      rw [hf] at h
      cases h
    | some t =>
      rw [hf] at h
      exact ⟨t, findT_mem hf, h⟩
  · rintro ⟨t, ht, h⟩
    rw [find_of_mem nd ht]
    exact h
theorem done_isSome {g : Ut13.St} (wf : WF g) {k : List Nat} {i : Nat} {s : Text} (hs : Ut13.sentenceOf g k i = some s) : (Ut13.doneFor g k i s).isSome = true ↔ (k, i) ∈ g.done.map fun d => (d.key, d.at_) := by
  have h := valA_tabD wf hs
  constructor
  · intro hi
    obtain ⟨t, ht⟩ := Option.isSome_iff_exists.mp hi
    rw [ht] at h
    have := valA_some h
    obtain ⟨d, hd, e⟩ := List.mem_map.mp this
    exact List.mem_map.mpr ⟨d, hd, congrArg Prod.fst e⟩
  · intro hm
    obtain ⟨d, hd, e⟩ := List.mem_map.mp hm
    have : valA (tabD g.done) (k, i) = some (Ut13.textBytes d.trans) := valA_mem (tabD_nodup wf) (List.mem_map.mpr ⟨d, hd, by rw [e]⟩)
    rw [this] at h
    cases hx : Ut13.doneFor g k i s with
    | none =>
      rw [hx] at h
      cases h
    | some t => rfl
/-- how it stands -/
theorem told_eq {g : Ut13.St} (wf : WF g) : Ut13.told g = [((Ut13.keysOf g.file.lines).length : Int), ((tabS g.file).length : Int), ((tabD g.done).length : Int)] := by
  unfold Ut13.told Ut13.ints
  have e1 : (tabS g.file).length = (Ut13.all g.file).length := List.length_map _
  have e2 : (tabD g.done).length = ((Ut13.all g.file).filter fun x => (Ut13.doneFor g x.1 x.2.1 x.2.2).isSome).length := by
    have sp : (Ut13.all g.file).map (fun x => (x.1, x.2.1)) = (tabS g.file).map (·.1) := by
      unfold tabS
      rw [List.map_map]
      rfl
    have nd1 : (((Ut13.all g.file).filter fun x => (Ut13.doneFor g x.1 x.2.1 x.2.2).isSome).map fun x => (x.1, x.2.1)).Nodup := by
      have h := tabS_nodup wf
      rw [← sp] at h
      exact h.sublist ((List.filter_sublist).map _)
    have hp : (g.done.map fun d => (d.key, d.at_)).Perm (((Ut13.all g.file).filter fun x => (Ut13.doneFor g x.1 x.2.1 x.2.2).isSome).map fun x => (x.1, x.2.1)) := by
      refine (List.perm_ext_iff_of_nodup wf.nd nd1).mpr fun x => ?_
      constructor
      · intro h
        obtain ⟨d, hd, e⟩ := List.mem_map.mp h
        have hs := wf.done d hd
        refine List.mem_map.mpr ⟨(d.key, d.at_, d.text), List.mem_filter.mpr ⟨(sent_iff wf.keys).mp hs, ?_⟩, e⟩
        exact (done_isSome wf hs).mpr (List.mem_map.mpr ⟨d, hd, rfl⟩)
      · intro h
        obtain ⟨y, hy, e⟩ := List.mem_map.mp h
        obtain ⟨h1, h2⟩ := List.mem_filter.mp hy
        rw [← e]
        exact (done_isSome wf ((sent_iff wf.keys).mpr h1)).mp h2
    have := hp.length_eq
    rw [List.length_map, List.length_map] at this
    unfold tabD
    rw [List.length_map]
    exact this
  rw [e1, e2]
  rfl
/-! ### a file -/
theorem wf_file {w : List Nat} {f : File} (h1 : Fit (linesOf w) f.lines) (h2 : Ut13.twice 0 [] f.lines = none) : WF ⟨f, []⟩ where
  keys := (twice_nodup _ _ _ h2).1
  texts := fit_texts h1
  done := fun d h => by cases h
  nd := List.nodup_nil
/-! ### what's done goes, and comes -/
theorem tabD_filter (l : List Done) (k : List Nat) (i : Nat) : tabD (l.filter fun d => !(d.key == k && d.at_ == i)) = dropA (tabD l) (k, i) := by
  induction l with
  | nil => rfl
  | cons d l ih =>
    show tabD (List.filter _ (d :: l)) = List.filter (fun x => decide (x.1 ≠ (k, i))) (((d.key, d.at_), Ut13.textBytes d.trans) :: tabD l)
    rw [List.filter_cons, List.filter_cons]
    have e : (!(d.key == k && d.at_ == i)) = decide ((d.key, d.at_) ≠ (k, i)) := by
      by_cases h1 : d.key = k <;> by_cases h2 : d.at_ = i <;> simp [h1, h2]
    show tabD (if (!(d.key == k && d.at_ == i)) = true then d :: List.filter (fun d => !(d.key == k && d.at_ == i)) l else List.filter (fun d => !(d.key == k && d.at_ == i)) l) = if decide ((d.key, d.at_) ≠ (k, i)) = true then _ else _
    rw [← e]
    split
    · show ((d.key, d.at_), Ut13.textBytes d.trans) :: tabD (List.filter (fun d => !(d.key == k && d.at_ == i)) l) = _
      rw [ih]
      rfl
    · exact ih
theorem wf_undone {g : Ut13.St} (wf : WF g) (k : List Nat) (i : Nat) : WF { g with done := g.done.filter fun d => !(d.key == k && d.at_ == i) } where
  keys := wf.keys
  texts := wf.texts
  done := fun d h => wf.done d (List.mem_filter.mp h).1
  nd := wf.nd.sublist ((List.filter_sublist).map _)
theorem wf_done {g : Ut13.St} (wf : WF g) {k : List Nat} {i : Nat} {s : Text} (hs : Ut13.sentenceOf g k i = some s) (t : Text) : WF { g with done := (g.done.filter fun d => !(d.key == k && d.at_ == i)) ++ [⟨k, i, s, t⟩] } where
  keys := wf.keys
  texts := wf.texts
  done := fun d h => by
    rcases List.mem_append.mp h with h | h
    · exact wf.done d (List.mem_filter.mp h).1
    · rw [List.mem_singleton.mp h]
      exact hs
  nd := by
    show (List.map (fun d : Done => (d.key, d.at_)) ((g.done.filter fun d => !(d.key == k && d.at_ == i)) ++ [(⟨k, i, s, t⟩ : Done)])).Nodup
    rw [List.map_append]
    refine List.nodup_append.mpr ⟨wf.nd.sublist ((List.filter_sublist).map _), by simp, fun a ha b hb e => ?_⟩
    obtain ⟨d, hd, rfl⟩ := List.mem_map.mp ha
    have hf := (List.mem_filter.mp hd).2
    have eb : b = (k, i) := by simpa using hb
    rw [eb] at e
    have e1 : d.key = k := congrArg Prod.fst e
    have e2 : d.at_ = i := congrArg Prod.snd e
    rw [e1, e2] at hf
    simp at hf
theorem tabD_done (l : List Done) (k : List Nat) (i : Nat) (s t : Text) : tabD ((l.filter fun d => !(d.key == k && d.at_ == i)) ++ [⟨k, i, s, t⟩]) = dropA (tabD l) (k, i) ++ [((k, i), Ut13.textBytes t)] := by
  rw [← tabD_filter]
  unfold tabD
  rw [List.map_append]
  rfl
/-! ### a newer version -/
/-- by key and text, the translation that stands first in what's done -/
def firstDone (S : Tab) : Tab → List ((List Nat × List Nat) × List Nat) → List ((List Nat × List Nat) × List Nat)
  | [], acc => acc
  | x :: r, acc => firstDone S r (if (valA acc (x.1.1, (valA S x.1).getD [])).isSome = true then acc else acc ++ [((x.1.1, (valA S x.1).getD []), x.2)])
/-- the translation that a sentence of the newer version gets -/
def gets (S D : Tab) (x : (List Nat × Nat) × List Nat) : Option (List Nat) :=
  if ((valA D x.1).isSome && decide (valA S x.1 = some x.2)) = true then valA D x.1 else valA (firstDone S D []) (x.1.1, x.2)
def broughtOver (S D N : Tab) : Tab := N.filterMap fun x => (gets S D x).map fun t => (x.1, t)
theorem first_val (g : Ut13.St) (S : Tab) (hS : ∀ k i s, Ut13.sentenceOf g k i = some s → valA S (k, i) = some (Ut13.textBytes s)) (hv : ∀ k i s, Ut13.sentenceOf g k i = some s → ∀ x ∈ s, Valid x) :
    ∀ (l : List Done) (acc : List ((List Nat × List Nat) × List Nat)), (∀ d ∈ l, Ut13.sentenceOf g d.key d.at_ = some d.text) → ∀ (k : List Nat) (s : Text), (∀ x ∈ s, Valid x) →
      valA (firstDone S (tabD l) acc) (k, Ut13.textBytes s) = (valA acc (k, Ut13.textBytes s)).or (((l.find? fun d => d.key == k && d.text == s).map fun d => d.trans).map Ut13.textBytes)
  | [], acc, _, k, s, _ => by
    show valA acc (k, Ut13.textBytes s) = (valA acc (k, Ut13.textBytes s)).or none
    rw [Option.or_none]
  | d :: l, acc, h, k, s, vs => by
    have hd := h d (List.mem_cons_self ..)
    have hk : (valA S (d.key, d.at_)).getD [] = Ut13.textBytes d.text := by rw [hS _ _ _ hd]; rfl
    show valA (firstDone S (tabD l) (if (valA acc (d.key, (valA S (d.key, d.at_)).getD [])).isSome = true then acc else acc ++ [((d.key, (valA S (d.key, d.at_)).getD []), Ut13.textBytes d.trans)])) (k, Ut13.textBytes s) = _
    rw [hk, first_val g S hS hv l _ (fun x hx => h x (List.mem_cons_of_mem _ hx)) k s vs, List.find?_cons]
    by_cases e : d.key = k ∧ d.text = s
    · obtain ⟨e1, e2⟩ := e
      have ht : (d.key == k && d.text == s) = true := by rw [e1, e2]; simp
      rw [ht, e1, e2]
      cases ha : valA acc (k, Ut13.textBytes s) with
      | some v =>
        rw [if_pos (show (some v).isSome = true from rfl), ha, Option.some_or, Option.some_or]
      | none =>
        rw [if_neg (show ¬ (none : Option (List Nat)).isSome = true by decide), valA_app, ha, Option.none_or, Option.none_or]
        rw [valA_pos (p := ((k, Ut13.textBytes s), Ut13.textBytes d.trans)) rfl, Option.some_or]
        rfl
    · have hf : (d.key == k && d.text == s) = false := by
        cases hc : (d.key == k && d.text == s) with
        | false => rfl
        | true =>
          rw [Bool.and_eq_true] at hc
          exact absurd ⟨by simpa using hc.1, by simpa using hc.2⟩ e
      rw [hf]
      have ne : ¬ (d.key, Ut13.textBytes d.text) = (k, Ut13.textBytes s) := fun z => e ⟨congrArg Prod.fst z, tb_inj (hv _ _ _ hd) vs (congrArg Prod.snd z)⟩
      split
      · rfl
      · rw [valA_app, valA_neg (p := ((d.key, Ut13.textBytes d.text), Ut13.textBytes d.trans)) ne, valA_nil, Option.or_none]
/-- the entry of moved for a sentence -/
def movedOne (l : List Done) (k : List Nat) (s : Text × Nat) : Option Done := match (l.find? fun d => d.key == k && (d.at_ == s.2 && d.text == s.1)), (l.find? fun d => d.key == k && d.text == s.1) with
    | some d, _ => some d
    | none, some d => some ⟨k, s.2, s.1, d.trans⟩
    | none, none => none
theorem movedOne_is {l : List Done} {k : List Nat} {s : Text × Nat} {d : Done} (h : movedOne l k s = some d) : d.key = k ∧ d.at_ = s.2 ∧ d.text = s.1 := by
  unfold movedOne at h
  cases h1 : (l.find? fun d => d.key == k && (d.at_ == s.2 && d.text == s.1)) with
  | some d' =>
    rw [h1] at h
    have h' : some d' = some d := h
    injection h' with h'
    subst h'
    have := List.find?_some h1
    simp only [Bool.and_eq_true, beq_iff_eq] at this
    exact ⟨this.1, this.2.1, this.2.2⟩
  | none =>
    rw [h1] at h
    cases h2 : (l.find? fun d => d.key == k && d.text == s.1) with
    | some d' =>
      rw [h2] at h
      have h' : some (⟨k, s.2, s.1, d'.trans⟩ : Done) = some d := h
      injection h' with h'
      subst h'
      exact ⟨rfl, rfl, rfl⟩
    | none =>
      rw [h2] at h
      cases h
theorem gets_eq {g : Ut13.St} (wf : WF g) {k : List Nat} {i : Nat} {s : Text} (vs : ∀ x ∈ s, Valid x) :
    gets (tabS g.file) (tabD g.done) ((k, i), Ut13.textBytes s) = (movedOne g.done k (s, i)).map fun d => Ut13.textBytes d.trans := by
  have hS : ∀ k i s, Ut13.sentenceOf g k i = some s → valA (tabS g.file) (k, i) = some (Ut13.textBytes s) := fun k i s h => by rw [valA_tabS wf, h]; rfl
  have hv : ∀ k i s, Ut13.sentenceOf g k i = some s → ∀ x ∈ s, Valid x := fun k i s h => (sent_valid wf h).1
  have hf := first_val g (tabS g.file) hS hv g.done [] wf.done k s vs
  rw [valA_nil, Option.none_or] at hf
  unfold gets
  show (if ((valA (tabD g.done) (k, i)).isSome && decide (valA (tabS g.file) (k, i) = some (Ut13.textBytes s))) = true then valA (tabD g.done) (k, i) else valA (firstDone (tabS g.file) (tabD g.done) []) (k, Ut13.textBytes s)) = _
  rw [hf]
  have first : (g.done.find? fun d => d.key == k && (d.at_ == i && d.text == s)) = none → ((g.done.find? fun d => d.key == k && d.text == s).map fun d => d.trans).map Ut13.textBytes = (movedOne g.done k (s, i)).map fun d => Ut13.textBytes d.trans := by
    intro h1
    unfold movedOne
    rw [h1]
    cases (g.done.find? fun d => d.key == k && d.text == s) with
    | some d => rfl
    | none => rfl
  by_cases hs : Ut13.sentenceOf g k i = some s
  · have e1 : valA (tabS g.file) (k, i) = some (Ut13.textBytes s) := hS _ _ _ hs
    have e2 := done_find g.done wf.done hs
    rw [e1, e2]
    cases h1 : (g.done.find? fun d => d.key == k && (d.at_ == i && d.text == s)) with
    | some d =>
      rw [if_pos (by simp)]
      unfold movedOne
      rw [h1]
      rfl
    | none =>
      rw [if_neg (by simp)]
      exact first h1
  · have n1 : ¬ valA (tabS g.file) (k, i) = some (Ut13.textBytes s) := by
      rw [valA_tabS wf]
      intro z
      cases hx : Ut13.sentenceOf g k i with
      | none =>
        rw [hx] at z
        cases z
      | some s' =>
        rw [hx] at z
        have z' : some (Ut13.textBytes s') = some (Ut13.textBytes s) := z
        injection z' with z'
        exact hs (by rw [hx, tb_inj (hv _ _ _ hx) vs z'])
    rw [decide_eq_false n1, Bool.and_false, if_neg (by decide)]
    refine first ?_
    rw [List.find?_eq_none]
    intro d hd hc
    simp only [Bool.and_eq_true, beq_iff_eq] at hc
    have := wf.done d hd
    rw [hc.1, hc.2.1, hc.2.2] at this
    exact hs this
theorem moved_flat (f : File) (l : List Done) : Ut13.moved f l = (Ut13.all f).filterMap fun x => movedOne l x.1 (x.2.2, x.2.1) := by
  unfold Ut13.moved Ut13.all
  induction f.lines with
  | nil => rfl
  | cons x r ih =>
    rw [List.flatMap_cons, List.flatMap_cons, List.filterMap_append, ih]
    congr 1
    cases x with
    | kept w => rfl
    | entry k t =>
      show (Ut13.sentences t).zipIdx.filterMap _ = ((Ut13.sentences t).zipIdx.map fun s => (k, s.2, s.1)).filterMap _
      rw [List.filterMap_map]
      rfl
theorem all_valid {f : File} (h : ∀ k t, Line.entry k t ∈ f.lines → (∀ x ∈ t, Valid x) ∧ Ut13.tagsOk [] [] t = true) : ∀ x ∈ Ut13.all f, ∀ y ∈ x.2.2, Valid y := by
  rintro ⟨k, i, s⟩ hx
  obtain ⟨t, ht, hs⟩ := all_mem.mp hx
  exact sents_valid (h k t ht).1 s (List.mem_of_getElem? hs)
theorem filterMap_same {α β : Type} {p q : α → Option β} : ∀ {l : List α}, (∀ x ∈ l, p x = q x) → l.filterMap p = l.filterMap q
  | [], _ => rfl
  | x :: l, h => by
    rw [List.filterMap_cons, List.filterMap_cons, h x (List.mem_cons_self ..), filterMap_same fun y hy => h y (List.mem_cons_of_mem _ hy)]
theorem moved_tab {g : Ut13.St} (wf : WF g) {f : File} (h : ∀ k t, Line.entry k t ∈ f.lines → (∀ x ∈ t, Valid x) ∧ Ut13.tagsOk [] [] t = true) : tabD (Ut13.moved f g.done) = broughtOver (tabS g.file) (tabD g.done) (tabS f) := by
  rw [moved_flat]
  unfold tabS broughtOver tabD
  rw [List.filterMap_map, List.map_filterMap]
  have av := all_valid h
  refine filterMap_same ?_
  rintro ⟨k, i, s⟩ hx
  have := gets_eq wf (k := k) (i := i) (s := s) (av _ hx)
  show (movedOne g.done k (s, i)).map (fun d => ((d.key, d.at_), Ut13.textBytes d.trans)) = (gets (tabS g.file) (tabD g.done) ((k, i), Ut13.textBytes s)).map fun t => ((k, i), t)
  rw [this]
  cases hm : movedOne g.done k (s, i) with
  | none => rfl
  | some d =>
    obtain ⟨e1, e2, _⟩ := movedOne_is hm
    show some ((d.key, d.at_), Ut13.textBytes d.trans) = some ((k, i), Ut13.textBytes d.trans)
    rw [e1, e2]
theorem wf_moved {g : Ut13.St} {f : File} (h : WF ⟨f, []⟩) : WF ⟨f, Ut13.moved f g.done⟩ where
  keys := h.keys
  texts := h.texts
  done := fun d hd => by
    have hd' : d ∈ Ut13.moved f g.done := hd
    rw [moved_flat] at hd'
    obtain ⟨⟨k, i, s⟩, hx, e⟩ := List.mem_filterMap.mp hd'
    obtain ⟨e1, e2, e3⟩ := movedOne_is e
    have e2' : d.at_ = i := e2
    have e3' : d.text = s := e3
    have : Ut13.sentenceOf ⟨f, []⟩ k i = some s := (sent_iff h.keys).mpr hx
    rw [e1, e2', e3']
    exact this
  nd := by
    show ((Ut13.moved f g.done).map fun d => (d.key, d.at_)).Nodup
    rw [moved_flat, List.map_filterMap]
    have nd := tabS_nodup h
    unfold tabS at nd
    rw [List.map_map] at nd
    have nd' : ((Ut13.all f).map fun x => (x.1, x.2.1)).Nodup := nd
    refine List.Nodup.sublist ?_ nd'
    have key : ∀ l : List (List Nat × Nat × Text), (l.filterMap fun x => (movedOne g.done x.1 (x.2.2, x.2.1)).map fun d => (d.key, d.at_)).Sublist (l.map fun x => (x.1, x.2.1)) := by
      intro l
      induction l with
      | nil => exact .slnil
      | cons x l ih =>
        rw [List.map_cons, List.filterMap_cons]
        cases hm : movedOne g.done x.1 (x.2.2, x.2.1) with
        | none => exact .cons _ ih
        | some d =>
          obtain ⟨e1, e2, _⟩ := movedOne_is hm
          show ((d.key, d.at_) :: _).Sublist _
          rw [e1, show d.at_ = x.2.1 from e2]
          exact .cons₂ _ ih
    exact key _
end Fo

set_option linter.all false
namespace Fo
open Ut13 (Tok Text Bytes Line File Done House)
theorem ints_eq (l : List Nat) : Ut13.ints l = l.map fun (n : Nat) => (n : Int) := rfl
theorem row_counted (w : List Nat) : Ut13.row w = counted w := rfl
/-! ### a text written has no byte 10 -/
theorem raw_no10 (x : Tok) : (∀ n, (x = .open_ n ∨ x = .close n ∨ x = .alone n) → True) → 10 ∉ raw x := by
  intro _ h
  cases x with
  | byte c =>
    rw [raw_byte] at h
    by_cases h1 : c = 10
    · rw [if_pos h1] at h
      simp at h
    · rw [if_neg h1] at h
      by_cases h2 : c = 9
      · rw [if_pos h2] at h
        simp at h
      · rw [if_neg h2] at h
        by_cases h3 : c = 92 ∨ c = 60
        · rw [if_pos h3] at h
          simp at h
          omega
        · rw [if_neg h3] at h
          simp at h
          omega
  | open_ n =>
    simp [raw] at h
    omega
  | close n =>
    simp [raw] at h
    omega
  | alone n =>
    simp [raw] at h
    omega
theorem tb_no10 : ∀ t : Text, 10 ∉ Ut13.textBytes t
  | [], h => by cases h
  | x :: t, h => by
    rw [textBytes_cons] at h
    rcases List.mem_append.mp h with h | h
    · exact raw_no10 x (fun _ _ => trivial) h
    · exact tb_no10 t h
theorem reads_tb {s : Text} (h : ∀ x ∈ s, Valid x) : Reads (Ut13.textBytes s) s := reads_text (reread s 0 h) (tb_no10 s)
/-! ### done -/
theorem trans_eq {w : List Nat} {s t : Text} (hw : Reads w t) (vs : ∀ x ∈ s, Valid x) (hs : Ut13.tagsOk [] [] s = true) : isTrans w (Ut13.textBytes s) = Ut13.sameTags s t := by
  unfold isTrans Ut13.sameTags
  rw [tags_text hw, hw.things, (reads_tb vs).things]
  cases ht : Ut13.tagsOk [] [] t with
  | false => rw [Bool.false_and, Bool.false_and]
  | true =>
    rw [Bool.true_and, Bool.true_and]
    have h := same_iff hs ht
    rw [← List.isPerm_iff] at h
    exact Bool.eq_iff_iff.mpr h
/-- why this can't be the translation -/
def doneRefusal (S : Tab) (k : List Nat) (i : Nat) (w : List Nat) : Option Int :=
  if isBytes 100 w = false then some (-1) else match valA S (k, i) with
    | none => some (-2)
    | some s => if 10 ∈ w then some (-1) else match faultPlace w .text with
      | some p => some (-1000 - (p : Int))
      | none => if isTrans w s = true then none else some (-4)
theorem isBytes_eq (m : Nat) (w : List Nat) : Ut13.isBytes m w = isBytes m w := rfl
theorem step_done {g : Ut13.St} (wf : WF g) (k : List Nat) (i : Nat) (w : List Nat) :
    (∃ r, doneRefusal (tabS g.file) k i w = some r ∧ Ut13.step g (.done k i w) = (g, [r])) ∨
    (doneRefusal (tabS g.file) k i w = none ∧ ∃ g', Ut13.step g (.done k i w) = (g', Ut13.told g') ∧ WF g' ∧ g'.file = g.file ∧ tabD g'.done = dropA (tabD g.done) (k, i) ++ [((k, i), w)]) := by
  have e : Ut13.step g (.done k i w) = if Ut13.isBytes 100 w = false then (g, [-1]) else (match Ut13.sentenceOf g k i with
    | none => (g, [-2])
    | some s => if w.contains 10 = true then (g, [-1]) else match Ut13.textFrom 0 w with
      | .error p => (g, [-1000 - (p : Int)])
      | .ok t => if Ut13.sameTags s t = false then (g, [-4]) else
        let h := { g with done := (g.done.filter fun d => !(d.key == k && d.at_ == i)) ++ [⟨k, i, s, t⟩] }
        (h, Ut13.told h)) := rfl
  rw [isBytes_eq] at e
  by_cases hb : isBytes 100 w = false
  · exact .inl ⟨-1, by rw [doneRefusal, if_pos hb], by rw [e, if_pos hb]⟩
  have er : doneRefusal (tabS g.file) k i w = match valA (tabS g.file) (k, i) with
    | none => some (-2)
    | some s => if 10 ∈ w then some (-1) else match faultPlace w .text with
      | some p => some (-1000 - (p : Int))
      | none => if isTrans w s = true then none else some (-4) := by rw [doneRefusal, if_neg hb]
  rw [if_neg hb] at e
  rw [valA_tabS wf] at er
  cases hs : Ut13.sentenceOf g k i with
  | none =>
    rw [hs] at e er
    exact .inl ⟨-2, er, e⟩
  | some s =>
    rw [hs] at e er
    replace e : Ut13.step g (.done k i w) = if w.contains 10 = true then (g, [-1]) else match Ut13.textFrom 0 w with
      | .error p => (g, [-1000 - (p : Int)])
      | .ok t => if Ut13.sameTags s t = false then (g, [-4]) else
        let h := { g with done := (g.done.filter fun d => !(d.key == k && d.at_ == i)) ++ [⟨k, i, s, t⟩] }
        (h, Ut13.told h) := e
    replace er : doneRefusal (tabS g.file) k i w = if 10 ∈ w then some (-1) else match faultPlace w .text with
      | some p => some (-1000 - (p : Int))
      | none => if isTrans w (Ut13.textBytes s) = true then none else some (-4) := er
    by_cases h10 : 10 ∈ w
    · rw [if_pos h10] at er
      rw [if_pos (show w.contains 10 = true by simpa using h10)] at e
      exact .inl ⟨-1, er, e⟩
    · rw [if_neg h10] at er
      rw [if_neg (show ¬ w.contains 10 = true by simpa using h10)] at e
      have hf : faultPlace w .text = errOf (Ut13.textFrom 0 w) := fault_text 0 w
      rw [hf] at er
      cases ht : Ut13.textFrom 0 w with
      | error p =>
        rw [ht] at e er
        exact .inl ⟨_, er, e⟩
      | ok t =>
        rw [ht] at e er
        have rd := reads_text ht h10
        obtain ⟨vs, os⟩ := sent_valid wf hs
        have et := trans_eq rd vs os
        replace er : doneRefusal (tabS g.file) k i w = if isTrans w (Ut13.textBytes s) = true then none else some (-4) := er
        replace e : Ut13.step g (.done k i w) = if Ut13.sameTags s t = false then (g, [-4]) else
          let h := { g with done := (g.done.filter fun d => !(d.key == k && d.at_ == i)) ++ [⟨k, i, s, t⟩] }
          (h, Ut13.told h) := e
        rw [et] at er
        cases hst : Ut13.sameTags s t with
        | false =>
          rw [hst, if_neg (by decide)] at er
          rw [hst, if_pos rfl] at e
          exact .inl ⟨-4, er, e⟩
        | true =>
          rw [hst, if_pos rfl] at er
          rw [hst, if_neg (by decide)] at e
          refine .inr ⟨er, _, e, wf_done wf hs t, rfl, ?_⟩
          show tabD ((g.done.filter fun d => !(d.key == k && d.at_ == i)) ++ [⟨k, i, s, t⟩]) = _
          rw [tabD_done, rd.bytes]
/-! ### undone -/
theorem step_undone {g : Ut13.St} (wf : WF g) (k : List Nat) (i : Nat) :
    (valA (tabD g.done) (k, i) = none ∧ Ut13.step g (.undone k i) = (g, [-2])) ∨
    ((valA (tabD g.done) (k, i)).isSome = true ∧ ∃ g', Ut13.step g (.undone k i) = (g', Ut13.told g') ∧ WF g' ∧ g'.file = g.file ∧ tabD g'.done = dropA (tabD g.done) (k, i)) := by
  have e : Ut13.step g (.undone k i) = (match (Ut13.sentenceOf g k i).bind (Ut13.doneFor g k i) with
    | none => (g, [-2])
    | some _ =>
      let h := { g with done := g.done.filter fun d => !(d.key == k && d.at_ == i) }
      (h, Ut13.told h)) := rfl
  cases hs : Ut13.sentenceOf g k i with
  | none =>
    rw [hs] at e
    exact .inl ⟨valA_tabD_none wf hs, e⟩
  | some s =>
    rw [hs] at e
    replace e : Ut13.step g (.undone k i) = (match Ut13.doneFor g k i s with
      | none => (g, [-2])
      | some _ =>
        let h := { g with done := g.done.filter fun d => !(d.key == k && d.at_ == i) }
        (h, Ut13.told h)) := e
    rw [valA_tabD wf hs]
    cases hd : Ut13.doneFor g k i s with
    | none =>
      rw [hd] at e
      exact .inl ⟨rfl, e⟩
    | some t =>
      rw [hd] at e
      exact .inr ⟨rfl, _, e, wf_undone wf k i, rfl, tabD_filter _ _ _⟩
/-! ### file, newer -/
theorem step_file {g : Ut13.St} (w : List Nat) :
    (isBytes 400 w = false ∧ Ut13.step g (.file w) = (g, [-1])) ∨
    (isBytes 400 w = true ∧ ∃ z, fileFault (linesOf w) = some z ∧ Ut13.step g (.file w) = (g, [z])) ∨
    (isBytes 400 w = true ∧ fileFault (linesOf w) = none ∧ ∃ g', Ut13.step g (.file w) = (g', Ut13.told g') ∧ WF g' ∧ Fit (linesOf w) g'.file.lines ∧ tabD g'.done = []) := by
  have e : Ut13.step g (.file w) = if Ut13.isBytes 400 w = false then (g, [-1]) else (match Ut13.read w with
    | .error e => (g, Ut13.faultRow e)
    | .ok f =>
      let h : Ut13.St := ⟨f, []⟩
      (h, Ut13.told h)) := rfl
  rw [e, isBytes_eq]
  cases hb : isBytes 400 w with
  | false => exact .inl ⟨rfl, if_pos rfl⟩
  | true =>
    rw [if_neg (by decide)]
    rcases file_read w with ⟨e, z, h1, h2, h3⟩ | ⟨f, h1, h2, h3, h4⟩
    · rw [h1]
      exact .inr (.inl ⟨rfl, z, h2, by show (g, Ut13.faultRow e) = _; rw [h3]⟩)
    · rw [h1]
      exact .inr (.inr ⟨rfl, h2, _, rfl, wf_file h3 h4, h3, rfl⟩)
theorem step_newer {g : Ut13.St} (wf : WF g) (w : List Nat) :
    (isBytes 400 w = false ∧ Ut13.step g (.newer w) = (g, [-1])) ∨
    (isBytes 400 w = true ∧ ∃ z, fileFault (linesOf w) = some z ∧ Ut13.step g (.newer w) = (g, [z])) ∨
    (isBytes 400 w = true ∧ fileFault (linesOf w) = none ∧ ∃ g', Ut13.step g (.newer w) = (g', Ut13.told g') ∧ WF g' ∧ Fit (linesOf w) g'.file.lines ∧ tabD g'.done = broughtOver (tabS g.file) (tabD g.done) (tabS g'.file)) := by
  have e : Ut13.step g (.newer w) = if Ut13.isBytes 400 w = false then (g, [-1]) else (match Ut13.read w with
    | .error e => (g, Ut13.faultRow e)
    | .ok f =>
      let h : Ut13.St := ⟨f, Ut13.moved f g.done⟩
      (h, Ut13.told h)) := rfl
  rw [e, isBytes_eq]
  cases hb : isBytes 400 w with
  | false => exact .inl ⟨rfl, if_pos rfl⟩
  | true =>
    rw [if_neg (by decide)]
    rcases file_read w with ⟨e, z, h1, h2, h3⟩ | ⟨f, h1, h2, h3, h4⟩
    · rw [h1]
      exact .inr (.inl ⟨rfl, z, h2, by show (g, Ut13.faultRow e) = _; rw [h3]⟩)
    · rw [h1]
      have wf0 := wf_file h3 h4
      exact .inr (.inr ⟨rfl, h2, _, rfl, wf_moved wf0, h3, moved_tab wf wf0.texts⟩)
/-! ### list, sentence, todo -/
def listOut (S D : Tab) : List Nat := S.length :: S.flatMap fun x => counted x.1.1 ++ [x.1.2, x.2.length, if (valA D x.1).isSome = true then 1 else 0]
theorem all_done {g : Ut13.St} (wf : WF g) {x : List Nat × Nat × Text} (hx : x ∈ Ut13.all g.file) : (valA (tabD g.done) (x.1, x.2.1)).isSome = (Ut13.doneFor g x.1 x.2.1 x.2.2).isSome := by
  rw [valA_tabD wf ((sent_iff wf.keys).mpr hx), Option.isSome_map]
theorem flatMap_same {α β : Type} {p q : α → List β} : ∀ {l : List α}, (∀ x ∈ l, p x = q x) → l.flatMap p = l.flatMap q
  | [], _ => rfl
  | x :: l, h => by
    rw [List.flatMap_cons, List.flatMap_cons, h x (List.mem_cons_self ..), flatMap_same fun y hy => h y (List.mem_cons_of_mem _ hy)]
theorem step_list {g : Ut13.St} (wf : WF g) : Ut13.step g .list = (g, Ut13.ints (listOut (tabS g.file) (tabD g.done))) := by
  show (g, Ut13.ints ((Ut13.all g.file).length :: (Ut13.all g.file).flatMap fun x => Ut13.row x.1 ++ [x.2.1, (Ut13.textBytes x.2.2).length, if (Ut13.doneFor g x.1 x.2.1 x.2.2).isSome = true then 1 else 0])) = _
  have e1 : (tabS g.file).length = (Ut13.all g.file).length := List.length_map _
  unfold listOut
  rw [e1]
  congr 3
  unfold tabS
  rw [List.flatMap_map]
  refine flatMap_same fun x hx => ?_
  show _ = counted x.1 ++ [x.2.1, (Ut13.textBytes x.2.2).length, if (valA (tabD g.done) (x.1, x.2.1)).isSome = true then 1 else 0]
  rw [all_done wf hx, row_counted]
def sentOut (s : List Nat) : Option (List Nat) → List Nat
  | none => counted s ++ [0]
  | some t => counted s ++ (1 :: counted t)
theorem step_sentence {g : Ut13.St} (wf : WF g) (k : List Nat) (i : Nat) : Ut13.step g (.sentence k i) = (g, match valA (tabS g.file) (k, i) with
    | none => [-2]
    | some s => Ut13.ints (sentOut s (valA (tabD g.done) (k, i)))) := by
  show (g, match Ut13.sentenceOf g k i with
    | none => [-2]
    | some s => Ut13.ints (Ut13.row (Ut13.textBytes s) ++ match Ut13.doneFor g k i s with
      | none => [0]
      | some t => 1 :: Ut13.row (Ut13.textBytes t))) = _
  rw [valA_tabS wf]
  cases hs : Ut13.sentenceOf g k i with
  | none => rfl
  | some s =>
    rw [valA_tabD wf hs]
    show (g, Ut13.ints (Ut13.row (Ut13.textBytes s) ++ match Ut13.doneFor g k i s with
      | none => [0]
      | some t => 1 :: Ut13.row (Ut13.textBytes t))) = (g, Ut13.ints (sentOut (Ut13.textBytes s) ((Ut13.doneFor g k i s).map Ut13.textBytes)))
    cases hd : Ut13.doneFor g k i s with
    | none => rfl
    | some t => rfl
def todoOut (S D : Tab) : List Nat := (S.filter fun x => (valA D x.1).isNone).length :: (S.filter fun x => (valA D x.1).isNone).flatMap fun x => counted x.1.1 ++ [x.1.2]
theorem step_todo {g : Ut13.St} (wf : WF g) : Ut13.step g .todo = (g, Ut13.ints (todoOut (tabS g.file) (tabD g.done))) := by
  show (g, Ut13.ints (((Ut13.all g.file).filter fun x => (Ut13.doneFor g x.1 x.2.1 x.2.2).isNone).length :: ((Ut13.all g.file).filter fun x => (Ut13.doneFor g x.1 x.2.1 x.2.2).isNone).flatMap fun x => Ut13.row x.1 ++ [x.2.1])) = _
  have ef : (tabS g.file).filter (fun x => (valA (tabD g.done) x.1).isNone) = ((Ut13.all g.file).filter fun x => (Ut13.doneFor g x.1 x.2.1 x.2.2).isNone).map fun x => ((x.1, x.2.1), Ut13.textBytes x.2.2) := by
    unfold tabS
    rw [List.filter_map]
    congr 1
    refine List.filter_congr fun x hx => ?_
    have h := all_done wf hx
    show (valA (tabD g.done) (x.1, x.2.1)).isNone = (Ut13.doneFor g x.1 x.2.1 x.2.2).isNone
    cases h1 : valA (tabD g.done) (x.1, x.2.1) <;> cases h2 : Ut13.doneFor g x.1 x.2.1 x.2.2 <;> rw [h1, h2] at h <;> first | rfl | cases h
  unfold todoOut
  rw [ef, List.length_map, List.flatMap_map]
  rfl
end Fo

set_option linter.all false
namespace Fo
open Ut13 (Tok Text Bytes Line File Done House)
/-- a line's text put together -/
def together (D : Tab) (N : Tab) : List Nat := (N.map fun x => (valA D x.1).getD x.2).flatten
theorem flat_map_tb (l : List Text) : Ut13.textBytes l.flatten = (l.map Ut13.textBytes).flatten := by
  induction l with
  | nil => rfl
  | cons s l ih => rw [List.flatten_cons, textBytes_app, List.map_cons, List.flatten_cons, ih]
theorem built_eq {g : Ut13.St} (wf : WF g) {k : List Nat} {t : Text} (h : Line.entry k t ∈ g.file.lines) : Ut13.textBytes (Ut13.built g k t) = together (tabD g.done) (numFrom k 0 ((Ut13.sentences t).map Ut13.textBytes)) := by
  unfold Ut13.built together
  rw [List.flatMap_def, flat_map_tb, ← zip_num, List.map_map, List.map_map]
  congr 1
  refine List.map_congr_left ?_
  rintro ⟨s, i⟩ hx
  have hs : Ut13.sentenceOf g k i = some s := (sent_iff wf.keys).mpr (all_mem.mpr ⟨t, h, zip_mem.mp hx⟩)
  show Ut13.textBytes ((Ut13.doneFor g k i s).getD s) = (valA (tabD g.done) (k, i)).getD (Ut13.textBytes s)
  rw [valA_tabD wf hs]
  cases Ut13.doneFor g k i s <;> rfl
/-- a line put together -/
def lineOut (D : Tab) (l : List Nat) : List Nat := if isKept l = true then l else keyOf l ++ 61 :: together D (numLine l)
def buildOut (D : Tab) (ls : List (List Nat)) : List Nat := ((ls.map (lineOut D)).intersperse [10]).flatten
def lineB (g : Ut13.St) : Line → List Nat
  | .kept w => w
  | .entry k t => k ++ 61 :: Ut13.textBytes (Ut13.built g k t)
theorem build_lines (g : Ut13.St) : Ut13.build g = ((g.file.lines.map (lineB g)).intersperse [10]).flatten := by
  unfold Ut13.build
  congr 2
  refine List.map_congr_left fun x _ => ?_
  cases x <;> rfl
theorem lines_out {g : Ut13.St} (wf : WF g) : ∀ {ls : List (List Nat)} {xs : List Line}, Fit ls xs → (∀ x ∈ xs, x ∈ g.file.lines) → xs.map (lineB g) = ls.map (lineOut (tabD g.done))
  | _, _, .nil, _ => rfl
  | _, _, .cons (w := w) h t, hm => by
    rw [List.map_cons, List.map_cons, lines_out wf t fun x hx => hm x (List.mem_cons_of_mem _ hx)]
    congr 1
    cases h with
    | kept hk =>
      show w = lineOut (tabD g.done) w
      rw [lineOut, if_pos hk]
    | @entry k tt hk hkey hr ok hw =>
      show k ++ 61 :: Ut13.textBytes (Ut13.built g k tt) = lineOut (tabD g.done) w
      rw [lineOut, if_neg (by rw [hk]; decide), built_eq wf (hm _ (List.mem_cons_self ..)), hkey]
      congr 3
      show _ = numFrom (keyOf w) 0 (sentencesOf (textOf w))
      rw [hkey, sents_eq hr ok]
theorem step_build {g : Ut13.St} (wf : WF g) {ls : List (List Nat)} (h : Fit ls g.file.lines) : Ut13.step g .build = (g, Ut13.ints (counted (buildOut (tabD g.done) ls))) := by
  show (g, Ut13.ints (Ut13.row (Ut13.build g))) = _
  rw [row_counted]
  unfold buildOut
  rw [build_lines, lines_out wf h fun _ hx => hx]
/-- the line of a key -/
def lineFor (ls : List (List Nat)) (k : List Nat) : Option (List Nat) := (filled ls).find? fun l => decide (keyOf l = k)
theorem find_fit : ∀ {ls : List (List Nat)} {xs : List Line} (k : List Nat), Fit ls xs → (lineFor ls k = none ∧ findT k xs = none) ∨ ∃ l t, lineFor ls k = some l ∧ findT k xs = some t ∧ Reads (textOf l) t ∧ Ut13.tagsOk [] [] t = true ∧ keyOf l = k
  | _, _, k, .nil => .inl ⟨rfl, rfl⟩
  | _, _, k, .cons (w := w) (ws := ws) h t => by
    have ih := find_fit k t
    cases h with
    | kept hk =>
      have e : lineFor (w :: ws) k = lineFor ws k := by
        unfold lineFor
        rw [show filled (w :: ws) = filled ws from List.filter_cons_of_neg (by rw [hk]; decide)]
      rw [e]
      exact ih
    | @entry j tt hk hkey hr ok hw =>
      have e : lineFor (w :: ws) k = if keyOf w = k then some w else lineFor ws k := by
        unfold lineFor
        rw [show filled (w :: ws) = w :: filled ws from List.filter_cons_of_pos (by rw [hk]; decide), List.find?_cons]
        by_cases h : keyOf w = k
        · simp [h]
        · simp [h]
      rw [e, findT, ← hkey]
      by_cases h : keyOf w = k
      · rw [if_pos h, if_pos h]
        exact .inr ⟨w, tt, rfl, rfl, hr, ok, h⟩
      · rw [if_neg h, if_neg h]
        exact ih
theorem step_key {g : Ut13.St} (wf : WF g) {ls : List (List Nat)} (h : Fit ls g.file.lines) (k : List Nat) : Ut13.step g (.key k) = (g, match lineFor ls k with
    | none => [-2]
    | some l => Ut13.ints (counted (textOf l) ++ counted (together (tabD g.done) (numLine l)))) := by
  have e : Ut13.step g (.key k) = (g, match Ut13.textOf g.file k with
    | none => [-2]
    | some t => Ut13.ints (Ut13.row (Ut13.textBytes t) ++ Ut13.row (Ut13.textBytes (Ut13.built g k t)))) := rfl
  rw [e, textOf_find]
  rcases find_fit k h with ⟨h1, h2⟩ | ⟨l, t, h1, h2, hr, ok, hk⟩
  · rw [h1, h2]
  · rw [h1, h2]
    show (g, Ut13.ints (Ut13.row (Ut13.textBytes t) ++ Ut13.row (Ut13.textBytes (Ut13.built g k t)))) = (g, Ut13.ints (counted (textOf l) ++ counted (together (tabD g.done) (numLine l))))
    rw [row_counted, row_counted, hr.bytes, built_eq wf (findT_mem h2)]
    congr 4
    show _ = together _ (numFrom (keyOf l) 0 (sentencesOf (textOf l)))
    rw [hk, sents_eq hr ok]
/-- the text of a line is its sentences -/
theorem text_flat {w : List Nat} {t : Text} (hr : Reads w t) (ok : Ut13.tagsOk [] [] t = true) : (sentencesOf w).flatten = w := by
  rw [sents_eq hr ok, ← flat_map_tb, sents_flat, hr.bytes]
theorem init_fit : Fit [[]] Ut13.init.file.lines := .cons (.kept rfl) .nil
end Fo

set_option Elab.async false
set_option linter.all false
set_option maxRecDepth 100000
set_option maxHeartbeats 2000000
namespace Fo
open PySem PySem.Spec PyProof.Rows L2 Evl
/-! ### dicts as tables: get with a default, pop, the keys -/
section
variable {α : Type} [DecidableEq α] {F : KeyFn α} {W : Wd} {K : PySem.W.Frag} {H H' : Hp} {d : Addr} {l : List (α × List Nat)} {k : α} {s : List Nat} {σ : L2.St} {ty td tv tx : TE} {D : Ends} {tz tu : TS}
/-- d.get(k, a tuple) -/
theorem ep_sgetOr (hd : Ev td σ H (.ref d)) (hy : EvN (F.ek k) ty σ H) (hx : EvP K tx σ H (iv s)) (S : SR W F H d l) : EvP K (tNGetOr W.P W.w td ty tx) σ H (iv ((valA l k).getD s)) := fun H1 e Q q =>
  hd H1 e _ fun H2 e2 => by
    obtain ⟨kvs0, D0, _⟩ := S.ex (e.trans e2)
    refine ⟨d, kvs0, rfl, D0, hy H2 (e.trans e2) _ fun b H3 e3 hk => hx H3 ((e.trans e2).trans e3) _ fun a H4 e4 ha => ?_⟩
    obtain ⟨kvs, D, P⟩ := S.ex (((e.trans e2).trans e3).trans e4)
    refine ⟨kvs, F.ek k, b, D, rfl, nt_ex e4 hk, F.dp k, fun v hv => ?_, fun hv => ?_⟩
    · rcases sd_val P k with ⟨_, h2⟩ | ⟨s', a', h1, h2, h3⟩
      · rw [h2] at hv
        cases hv
      · rw [h2] at hv
        cases hv
        rw [h1] at q
        exact q a' H4 ((e2.trans e3).trans e4) h3
    · rcases sd_val P k with ⟨h1, _⟩ | ⟨s', a', _, h2, _⟩
      · rw [h1] at q
        exact q a H4 ((e2.trans e3).trans e4) ha
      · rw [h2] at hv
        cases hv
/-- d.pop(k), thrown away -/
theorem q_spop1 (hd : Ev td σ H (.ref d)) (hy : EvN (F.ek k) ty σ H) (S : SD W F H d l) (hv : (valA l k).isSome = true) (n : ∀ H1 o, Ex H H1 → SD W F (upd H1 d o) d (dropA l k) → tz D σ (upd H1 d o)) :
    tSeq (tDrop (tNPop1 W.P W.w td ty)) tz D σ H := hd H (Ex.refl H) _ fun H1 e1 => by
  obtain ⟨kvs0, D0, _⟩ := S.ex e1
  refine ⟨d, kvs0, rfl, D0.r, hy H1 e1 _ fun b H2 e2 hk => ?_⟩
  have e := e1.trans e2
  obtain ⟨kvs, D', P⟩ := S.ex e
  rcases sd_val P k with ⟨h1, _⟩ | ⟨s', a', h1, h2, h3⟩
  · rw [h1] at hv
    cases hv
  · refine ⟨kvs, F.ek k, b, .ref a', D', rfl, hk, F.dp k, h2, fun o Dn => ?_⟩
    obtain ⟨_, _, _, xs, hx, _⟩ := D'
    exact n H2 o e ⟨_, Dn, sdr_keeps (fun c zs ec => by rw [upd_ne (ne_of ec hx (fun z => nomatch z))]; exact ec) (sd_drop P k)⟩
/-- each a tuple that is the key -/
def KeysAt (F : KeyFn α) (H : Hp) : List V → List (α × List Nat) → Prop := Paired fun v x => ∃ b, v = .ref b ∧ NT H (F.ek x.1) (.ref b)
theorem KeysAt.len {vs : List V} (h : KeysAt F H vs l) : vs.length = l.length := Paired.length h
theorem KeysAt.keeps {vs : List V} (ht : ∀ b xs, H b = some (.tup xs) → H' b = some (.tup xs)) (h : KeysAt F H vs l) : KeysAt F H' vs l := Paired.mapP h fun _ _ ⟨b, e, q⟩ => ⟨b, e, NT.keeps ht _ _ q⟩
/-- i = [j for j in d if ..], the dict locked -/
theorem q_lcK {i j : Nat} {vs : List Nat} {t : TT} (p : α × List Nat → Bool) (hd : ∀ H1, Ch d H H1 → Ev td σ H1 (.ref d)) (S : SD W F H d l) (hz : l.length ≤ 40000) (hw : ∀ x, wipe ((wipe σ vs).set j (some x)) vs = wipe σ vs) (hj : ∀ x, ((wipe σ vs).set j (some x))[j]? = some (some x))
    (ht : ∀ x b H1, x ∈ l → Ch d H H1 → NT H1 (F.ek x.1) (.ref b) → EvT t ((wipe σ vs).set j (some (.ref b))) H1 (p x))
    (hn : ∀ L ks H1, H L = none → Ex H H1 → H1 L = some (.lst ks) → KeysAt F H1 ks (l.filter p) → tz D (σ.set i (some (.ref L))) H1) :
    tSeq (tLock (tAsg (tLc (iKeysN W.P W.w td) (gName j) t (tVar j) vs) (gName i))) tz D σ H := by
  obtain ⟨kvs, ⟨z1, z2, z3, xs, hx, rel⟩, P⟩ := id S
  refine ⟨d, _, hx, True.intro, fun od => ?_⟩
  have ch : Ch d H (upd H d (.frz od (dnO W.P W.w d xs))) := Ch.upd
  have htu : ∀ c zs, H c = some (.tup zs) → upd H d (.frz od (dnO W.P W.w d xs)) c = some (.tup zs) := fun c zs ec => by rw [upd_ne (ne_of ec hx (fun z => nomatch z))]; exact ec
  refine hd _ ch _ (Ex.refl _) _ fun H1 e1 => ?_
  have hd1 : H1 d = some (.frz od (dnO W.P W.w d xs)) := e1 _ _ upd_same
  have ht1 : ∀ c zs, H c = some (.tup zs) → H1 c = some (.tup zs) := fun c zs ec => e1 _ _ (htu c zs ec)
  refine ⟨d, od, kvs, xs, rfl, z2, hd1, rel.keeps ht1, fun L hL => ?_⟩
  have hLd : L ≠ d := Ne.symm (ne_of_none hd1 hL)
  have hL0 : H L = none := by
    cases q : H L with
    | none => rfl
    | some o =>
      have := e1 L o (by rw [upd_ne hLd]; exact q)
      rw [hL] at this
      cases this
  have lkv : kvs.length = l.length := Paired.length P
  refine ⟨fun i m G => m = l.length - i ∧ i ≤ l.length ∧ Ch d H G ∧ G d = some (.frz od (dnO W.P W.w d xs)) ∧ ∃ ks, G L = some (.lst ks) ∧ KeysAt F G ks ((l.take i).filter p), ⟨l.length, by simp, Nat.zero_le _, (ch.trans (Ch.of_ex e1)).trans (Ch.of_ex (Ex.new hL)), ?_, [], upd_same, .nil⟩, ?_⟩
  · rw [upd_ne (Ne.symm hLd)]
    exact hd1
  rintro n m G ⟨rfl, hn', c, hG, ks, hks, kp⟩
  have htG : ∀ c' zs, H c' = some (.tup zs) → G c' = some (.tup zs) := fun c' zs h => c _ _ h (ne_of h hx (fun z => nomatch z))
  by_cases hlt : n < l.length
  · refine .inr ⟨⟨hG, by rw [lkv]; exact hlt⟩, fun H' => n + 1 ≤ l.length ∧ Ch d H H' ∧ H' d = some (.frz od (dnO W.P W.w d xs)) ∧ ∃ ks, H' L = some (.lst ks) ∧ KeysAt F H' ks ((l.take (n + 1)).filter p), fun H' z => ⟨l.length - (n + 1), by omega, rfl, z⟩, fun x G' y => ?_⟩
    obtain ⟨rfl, k', v, b, u, h1, h2, rfl⟩ := y
    obtain ⟨⟨a1, a2⟩, hl1, ek, _⟩ := paired_get P h1
    obtain ⟨⟨k'', b', u'⟩, hx2, r1, r2, _, _⟩ := paired_get rel h1
    rw [h2] at hx2
    cases hx2
    replace ek : k' = F.ek a1 := ek
    replace r2 : NT H k' (.ref b) := r2
    rw [ek] at r2
    have hnt : NT G' (F.ek a1) (.ref b) := NT.keeps htG _ _ r2
    have tk : (l.take (n + 1)).filter p = (l.take n).filter p ++ [(a1, a2)].filter p := by rw [take_more hl1, List.filter_append]
    refine ⟨hw _, ht (a1, a2) b G' (List.mem_of_getElem? hl1) c hnt _ (Ex.refl _) _ fun G3 e3 => ?_⟩
    have c3 : Ch d H G3 := c.trans (Ch.of_ex e3)
    refine ite_b (fun hp => ⟨_, hj _, ks, e3 _ _ hks, ?_, hlt, fun b' o hb nb => ?_, ?_, ks ++ [.ref b], upd_same, ?_⟩) (fun hp => ⟨hlt, c3, e3 _ _ hG, ks, e3 _ _ hks, ?_⟩)
    · have h1 := kp.len
      have h2 := List.length_filter_le p (l.take n)
      rw [List.length_take] at h2
      exact sz_lt (by omega)
    · rw [upd_ne (ne_of_none hb hL0)]
      exact c3 _ _ hb nb
    · rw [upd_ne (Ne.symm hLd)]
      exact e3 _ _ hG
    · rw [tk, show [(a1, a2)].filter p = [(a1, a2)] by simp [hp]]
      have kt : ∀ c' zs, G' c' = some (.tup zs) → upd G3 L (.lst (ks ++ [.ref b])) c' = some (.tup zs) := fun c' zs h => by
        rw [upd_ne (ne_of h hks (fun z => nomatch z))]
        exact e3 _ _ h
      exact Paired.snoc (kp.keeps kt) ⟨b, rfl, NT.keeps kt _ _ hnt⟩
    · rw [tk, show [(a1, a2)].filter p = [] by simp [hp], List.append_nil]
      exact kp.keeps fun c' zs h => e3 _ _ h
  · have e : n = l.length := by omega
    subst e
    rw [List.take_length] at kp
    refine .inl ⟨⟨hG, by rw [lkv]; exact Nat.le_refl _⟩, hG, hn L ks _ hL0 (fun b o hb => ?_) ?_ ?_⟩
    · by_cases hbd : b = d
      · rw [hbd, upd_same]
        rw [hbd] at hb
        exact hx.symm.trans hb
      · rw [upd_ne hbd]
        exact c b o hb hbd
    · rw [upd_ne hLd]
      exact hks
    · exact kp.keeps fun c' zs h => by
        rw [upd_ne (ne_of h hG (fun z => nomatch z))]
        exact h
end
/-! ### lines put together -/
theorem join_cons : ∀ (r : List (List Nat)) (l : List Nat), ((l :: r).intersperse [10]).flatten = l ++ r.flatMap fun x => 10 :: x
  | [], l => by simp
  | x :: r, l => by
    have ih := join_cons r x
    have e : (l :: x :: r).intersperse [10] = l :: [10] :: (x :: r).intersperse [10] := rfl
    rw [e, List.flatten_cons, List.flatten_cons, ih]
    simp
/-- the keys and texts of lines -/
def textsTab (ls : List (List Nat)) : List (List Nat × List Nat) := (filled ls).map fun l => (keyOf l, textOf l)
theorem textsTab_num (ls : List (List Nat)) : (textsTab ls).flatMap numText = (filled ls).flatMap numLine := by
  unfold textsTab
  rw [List.flatMap_map]
  rfl
theorem textsTab_more {ls : List (List Nat)} {i : Nat} {l : List Nat} (h : ls[i]? = some l) : textsTab (ls.take (i + 1)) = if isKept l = true then textsTab (ls.take i) else textsTab (ls.take i) ++ [(keyOf l, textOf l)] := by
  unfold textsTab filled
  rw [take_more h, List.filter_append, List.map_append]
  cases hk : isKept l with
  | true =>
    rw [if_pos rfl, show [l].filter (fun l => !isKept l) = [] by simp [hk]]
    simp
  | false =>
    rw [if_neg (by decide), show [l].filter (fun l => !isKept l) = [l] by simp [hk]]
    rfl
def spLineOf (K : PySem.W.Frag) : Sp := fun vs H Q _ => ∃ (p r : Addr) (k t : List Nat), vs = [.ref p, .ref r] ∧ Sq K H p (iv k) ∧ Sq K H r (iv t) ∧ k.length + t.length ≤ 2000000 ∧ RetL (iv (k ++ 61 :: t)) H Q
theorem c_line_of {W : Wd} (T : TxB W.mg) (TR : TxR W.K W.mg) (a : At W.K W.mg "line_of" s_line_of) : Cal W 1 "line_of" (spLineOf W.K) := by
  refine cal a sc_line_of (fun _ _ _ _ _ _ us hl => match us, hl with | [_, _], _ => rfl) (fun vs H Q E h => by obtain ⟨p, r, k, t, rfl, _⟩ := h; rfl) (fun f cdv A outer s H vs Q E hr h => ?_)
  obtain ⟨p, r, k, t, rfl, hp, ht, hl, q⟩ := h
  refine ⟨_, pss_one (ps_ret (pe_op op_cat (pe_op op_cat (pe_callTy call_list_of (by rfl) T.list PyProof.Rows.boot_list (pa_cons (pv 0) pa_nil)) (pe_lst (pa_cons (pe_gc TR.EQUALS) pa_nil))) (pe_callTy call_list_of (by rfl) T.list PyProof.Rows.boot_list (pa_cons (pv 1) pa_nil)))), ?_⟩
  have e : iv (k ++ 61 :: t) = (iv k ++ [vn 61]) ++ iv t := by
    rw [iv_app, List.append_assoc]
    rfl
  rw [e] at q
  exact s_retL (el_catS (el_catS (el_listQ (K := W.K) (ev_var rfl) hp) (el_lst (ea_cons ev_c ea_nil) (by simp)) (by rw [iv_len, sizeLine_eq]; simp; omega)) (el_listQ (K := W.K) (ev_var rfl) ht) (by rw [List.length_append, iv_len, iv_len, sizeLine_eq]; simp; omega)) q
def spTexts (W : Wd) : Sp := fun vs H Q _ => ∃ (p : Addr) (xs : List V) (ls : List (List Nat)), vs = [.ref p] ∧ SqL W.K H p xs ∧ LinesAt H xs ls ∧ ls.length ≤ 1000 ∧ (∀ l ∈ filled ls, 61 ∈ l) ∧ ((filled ls).map keyOf).Nodup ∧ RetD W FKey (textsTab ls) H Q
theorem c_texts_of {W : Wd} (a : At W.K W.mg "texts_of" s_texts_of) (c0 : Cal W 1 "is_kept" (spLine W.K fun l => .bl (isKept l))) (c1 : Cal W 1 "key_of" (spPart W.K keyOf)) (c2 : Cal W 1 "text_of" (spPart W.K textOf)) : Cal W 2 "texts_of" (spTexts W) := by
  refine cal a sc_texts_of (fun _ _ _ _ _ _ us hl => match us, hl with | [_], _ => rfl) (fun vs H Q E h => by obtain ⟨p, xs, ls, rfl, _⟩ := h; rfl) (fun f cdv A outer s H vs Q E hr h => ?_)
  obtain ⟨p, xs, ls, rfl, hp, hls, hlen, h61, hnd, q⟩ := h
  have hu := hr.units
  refine ⟨_, pss_cons (ps_set (i := 1) sc_texts_of.nd rfl (.inl rfl) pe_nnew)
    (pss_cons (ps_for PassesOwn.never rfl (pi_list (pv 0)) (pg_name (i := 2) sc_texts_of.nd rfl (.inl rfl))
      (pss_one (ps_if (pt_not (pt_val (pe_c c0 hr (pa_cons (pv 2) pa_nil)))) (pss_one (ps_nput hu (pv 1) (pe_c c1 hr (pa_cons (pv 2) pa_nil)) (pe_c c2 hr (pa_cons (pv 2) pa_nil)) rfl)) pss_nil)))
    (pss_one (ps_ret (pv 1)))), ?_⟩
  refine q_snew (W := W) FKey fun d o hd Sd => ?_
  have e0 : Ex H (upd H d o) := Ex.new hd
  refine q_forLn (K := W.K) (xs := xs) (ev_var rfl) (ex_l e0 hp) (fun i σ' H' => ∃ (v2 : Option V), σ' = [some (.ref p), some (.ref d), v2] ∧ Ex H H' ∧ SD W FKey H' d (textsTab (ls.take i)))
    (fun H1 e1 => ⟨none, rfl, e0.trans e1, Sd.ex e1⟩) (fun i σ' H' _ ⟨_, _, e, _⟩ => ex_l e hp) ?_ ?_
  · rintro i x σ' H' hx ⟨v2, rfl, e, S⟩
    obtain ⟨ad, l, rfl, hl, hA⟩ := hls.get hx
    have hi : i < ls.length := (List.getElem?_eq_some_iff.mp hl).1
    have more := textsTab_more hl
    refine s_when (et_not (et_B (ev_call (ea_cons (ev_var rfl) ea_nil) (sv_line (sq_of (e _ _ hA)))))) (fun b H2 e2 => ?_) (fun b H2 e2 => ?_)
    · have hk : isKept l = false := by simpa using b
      have hf : l ∈ filled ls := List.mem_filter.mpr ⟨List.mem_of_getElem? hl, by rw [hk]; rfl⟩
      have hm : 61 ∈ l := h61 l hf
      rw [hk, if_neg (by decide)] at more
      have fresh : valA (textsTab (ls.take i)) (keyOf l) = none := by
        refine valA_none fun x hx z => ?_
        obtain ⟨l', hl', ex⟩ := List.mem_map.mp hx
        have hsp : filled ls = filled (ls.take i) ++ l :: filled (ls.drop (i + 1)) := by
          unfold filled
          conv => lhs; rw [← List.take_append_drop i ls, drop_more hl]
          rw [List.filter_append, List.filter_cons_of_pos (by rw [hk]; rfl)]
        rw [hsp, List.map_append, List.map_cons] at hnd
        refine (List.nodup_append.mp hnd).2.2 (keyOf l) (List.mem_map.mpr ⟨l', hl', ?_⟩) _ (List.mem_cons_self ..) rfl
        rw [← ex] at z
        exact z
      have tl : (textsTab (ls.take i)).length < 100000 := by
        unfold textsTab filled
        rw [List.length_map]
        have h1 := List.length_filter_le (fun l => !isKept l) (ls.take i)
        rw [List.length_take] at h1
        omega
      have hA2 := (e.trans e2) _ _ hA
      refine s_sput (W := W) (F := FKey) (k := keyOf l) (s := textOf l) (K := W.K) (ep_call (K := W.K) (g := textOf) (ev_var rfl) (sq_of hA2) hm) (ev_var rfl) (en_tup (K := W.K) (ep_call (K := W.K) (g := keyOf) (ev_var rfl) (sq_of hA2) hm)) (S.ex e2) tl fun H3 o3 e3 S3 => ?_
      rw [putA_new _ fresh, ← more] at S3
      exact ⟨_, rfl, Ex.mut ((e.trans e2).trans e3) hd, S3⟩
    · have hk : isKept l = true := by simpa using b
      rw [hk, if_pos rfl] at more
      refine ⟨_, rfl, e.trans e2, ?_⟩
      rw [more]
      exact S.ex e2
  · rintro σ' H' ⟨v2, rfl, e, S⟩
    rw [hls.len, List.take_length] at S
    exact s_ret (ev_var rfl) fun H1 e1 => q d H1 hd (e.trans e1) (S.ex e1)
/-- xs.extend(a list) -/
theorem s_extQ {K : PySem.W.Frag} {σ : L2.St} {H : Hp} {D : Ends} {ta te : TE} {l b : Addr} {xs zs : List V} (hl : H l = some (.lst xs)) (ha : Ev ta σ H (.ref l)) (hb : Ev te σ H (.ref b)) (hz : H b = some (.lst zs)) (hn : xs.length + zs.length ≤ sizeLine) (k : ∀ H1, Ex H H1 → D.nx σ (upd H1 l (.lst (xs ++ zs)))) :
    tDrop (tBM K "list" rExtend ta (tCons te tNil)) D σ H := ha H (Ex.refl H) _ fun H1 e1 =>
  ⟨Or.inl ⟨rfl, xs, sq_of (e1 l _ hl)⟩, hb H1 e1 _ fun H2 e2 => ⟨l, b, xs, zs, rfl, rfl, (e1.trans e2) l _ hl, (e1.trans e2) _ _ hz, hn, k H2 (e1.trans e2)⟩⟩
/-- xs.append(e) -/
theorem q_appQ {K : PySem.W.Frag} {σ : L2.St} {H : Hp} {D : Ends} {ta te : TE} {tz : TS} {l : Addr} {xs : List V} {v : V} (hl : H l = some (.lst xs)) (ha : Ev ta σ H (.ref l)) (h : Ev te σ H v) (hz : xs.length < sizeLine) (k : ∀ H1, Ex H H1 → tz D σ (upd H1 l (.lst (xs ++ [v])))) :
    tSeq (tDrop (tBM K "list" rAppend ta (tCons te tNil))) tz D σ H := ha H (Ex.refl H) _ fun H1 e1 =>
  ⟨Or.inl ⟨rfl, xs, sq_of (e1 l _ hl)⟩, h H1 e1 _ fun H2 e2 => ⟨l, xs, v, rfl, rfl, (e1.trans e2) l _ hl, hz, k H2 (e1.trans e2)⟩⟩
theorem s_appQ {K : PySem.W.Frag} {σ : L2.St} {H : Hp} {D : Ends} {ta te : TE} {l : Addr} {xs : List V} {v : V} (hl : H l = some (.lst xs)) (ha : Ev ta σ H (.ref l)) (h : Ev te σ H v) (hz : xs.length < sizeLine) (k : ∀ H1, Ex H H1 → D.nx σ (upd H1 l (.lst (xs ++ [v])))) :
    tDrop (tBM K "list" rAppend ta (tCons te tNil)) D σ H := ha H (Ex.refl H) _ fun H1 e1 =>
  ⟨Or.inl ⟨rfl, xs, sq_of (e1 l _ hl)⟩, h H1 e1 _ fun H2 e2 => ⟨l, xs, v, rfl, rfl, (e1.trans e2) l _ hl, hz, k H2 (e1.trans e2)⟩⟩
def spFileOf (K : PySem.W.Frag) : Sp := fun vs H Q _ => ∃ (p : Addr) (xs : List V) (l : List Nat) (r : List (List Nat)), vs = [.ref p] ∧ SqL K H p xs ∧ LinesAt H xs (l :: r) ∧ (l ++ r.flatMap fun x => 10 :: x).length ≤ 2000000 ∧ RetL (iv (l ++ r.flatMap fun x => 10 :: x)) H Q
theorem c_file_of {W : Wd} (T : TxB W.mg) (TL : TxL W.K W.mg) (a : At W.K W.mg "file_of" s_file_of) : Cal W 1 "file_of" (spFileOf W.K) := by
  refine cal a sc_file_of (fun _ _ _ _ _ _ us hl => match us, hl with | [_], _ => rfl) (fun vs H Q E h => by obtain ⟨p, xs, l, r, rfl, _⟩ := h; rfl) (fun f cdv A outer s H vs Q E hr h => ?_)
  obtain ⟨p, xs, l, r, rfl, hp, hls, hlen, q⟩ := h
  refine ⟨_, pss_cons (ps_set (i := 1) sc_file_of.nd rfl (.inl rfl) (pe_callTy call_list_of (by rfl) T.list PyProof.Rows.boot_list (pa_cons (pe_ix ix_list (pv 0) pe_int (fun _ _ => rfl)) pa_nil)))
    (pss_cons (ps_for PassesOwn.never rfl (pi_list (pe_slice sl_list (pv 0) (po_some pe_int) po_none)) (pg_name (i := 2) sc_file_of.nd rfl (.inl rfl))
      (pss_cons (ps_expr (pe_bm PySem.F.plainAttrs_list PySem.F.slot_list_append PySem.F.type_list_append mt_append (pv 1) (pa_cons (pe_gc TL.LINE_END) pa_nil)))
      (pss_one (ps_expr (pe_bm PySem.F.plainAttrs_list PySem.F.slot_list_extend PySem.F.type_list_extend mt_extend (pv 1) (pa_cons (pv 2) pa_nil))))))
    (pss_one (ps_ret (pv 1)))), ?_⟩
  have hx0 : ∃ x0, xs[0]? = some x0 := by
    have := hls.len
    cases xs with
    | nil => cases this
    | cons x0 _ => exact ⟨x0, rfl⟩
  obtain ⟨x0, hx0⟩ := hx0
  obtain ⟨a0, l0, rfl, hl0, hA0⟩ := hls.get hx0
  have el : l = l0 := Option.some.inj hl0
  subst el
  refine q_asgL (el_listQ (K := W.K) (ev_op (ev_var rfl) ev_c (rv_ixL hp (atI_nat (j := 0) hx0))) (.inl (sq_of hA0))) fun L H1 hL e1 h1 => ?_
  have lx : xs.length = r.length + 1 := hls.len
  rw [List.length_append] at hlen
  refine q_forNLn (K := W.K) (el_sl (K := W.K) (lo := some ((1 : Nat) : Int)) (ev_var rfl) (eo_some ev_c) eo_none (ex_l e1 hp)) (fun Z i σ' H' => ∃ (v2 : Option V), σ' = [some (.ref p), some (.ref L), v2] ∧ Ex H H' ∧ H' Z = some (.lst (xs.drop 1)) ∧ Z ≠ L ∧ H' L = some (.lst (iv (l ++ (r.take i).flatMap fun x => 10 :: x))))
    (fun Z H2 hZ e2 h2 => ⟨none, rfl, e1.trans e2, by rw [h2, cut_from], Ne.symm (ne_of_none h1 hZ), ?_⟩) (fun Z i σ' H' _ ⟨_, _, _, h, _⟩ => sq_of (by rw [cut_from]; exact h)) ?_ ?_
  · rw [e2 _ _ h1]
    show _ = some (HO.lst (iv (l ++ [])))
    rw [List.append_nil]
  · rintro Z i x σ' H' hx ⟨v2, rfl, e, hZ, hZL, hLl⟩
    rw [cut_from, List.getElem?_drop, Nat.add_comm] at hx
    obtain ⟨ad, l', rfl, hl', hA⟩ := hls.get hx
    replace hl' : r[i]? = some l' := hl'
    have hfl := flat_le (fun x : List Nat => 10 :: x) r (i + 1)
    rw [flat_take _ hl', List.length_append, List.length_cons] at hfl
    refine q_appQ (K := W.K) hLl (ev_var rfl) ev_c (by rw [iv_len, List.length_append, sizeLine_eq]; omega) fun H2 e2 => ?_
    have e02 : Ex H (upd H2 L (.lst (iv (l ++ (r.take i).flatMap fun x => 10 :: x) ++ [vn 10]))) := Ex.mut (e.trans e2) hL
    refine s_extQ (K := W.K) upd_same (ev_var rfl) (ev_var rfl) (e02 _ _ hA) (by rw [List.length_append, iv_len, iv_len, List.length_append, sizeLine_eq]; simp only [List.length_cons, List.length_nil]; omega) fun H3 e3 => ?_
    refine ⟨_, rfl, Ex.mut (e02.trans e3) hL, ?_, hZL, ?_⟩
    · rw [upd_ne hZL]
      refine e3 _ _ ?_
      rw [upd_ne hZL]
      exact e2 _ _ hZ
    · rw [upd_same, flat_take _ hl']
      congr 2
      rw [← List.append_assoc, iv_app (l ++ _) (10 :: l'), List.append_assoc]
      rfl
  · rintro Z σ' H' ⟨v2, rfl, e, hZ, hZL, hLl⟩
    rw [cut_from, List.length_drop, lx, Nat.add_sub_cancel, List.take_length] at hLl
    exact s_ret (ev_var rfl) fun H2 e2 => q L H2 hL (e.trans e2) (e2 _ _ hLl)
end Fo

set_option Elab.async false
set_option linter.all false
set_option maxRecDepth 100000
set_option maxHeartbeats 2000000
namespace Fo
open PySem PySem.Spec PyProof.Rows L2 Evl
/-! ### the desk -/
structure TxK (K : PySem.W.Frag) (mg : Str → Option Value) (C : Addr) : Prop where
  cl : Cls K C
  nL : NoAttr K C "lines"
  nX : NoAttr K C "texts"
  nS : NoAttr K C "sentences"
  nT : NoAttr K C "translations"
  NOT_BYTES : Cn mg "NOT_BYTES" (.int (-1))
  NO_SENTENCE : Cn mg "NO_SENTENCE" (.int (-2))
  NO_KEY : Cn mg "NO_KEY" (.int (-2))
  NO_TRANSLATION : Cn mg "NO_TRANSLATION" (.int (-4))
  FIRST_FAULT : Cn mg "FIRST_FAULT" (.int (-1000))
  MOST_FILE_BYTES : Cn mg "MOST_FILE_BYTES" (vn 400)
  MOST_TRANSLATION_BYTES : Cn mg "MOST_TRANSLATION_BYTES" (vn 100)
/-- the names of the methods are no attributes -/
def ownMeths : List Str := ["lay_file", "lay_newer", "lay", "brought_over", "first_done", "standing", "list_sentences", "list_undone", "show_sentence", "put_translation", "take_translation_away", "refusal_of", "show_key", "build_file", "built_line", "built_text"]
/-- the file that is laid: where its lines stand, where its texts, what the lines are, which places they have -/
structure KC where
  L : Addr
  tx : Addr
  ls : List (List Nat)
  N : Addr → Prop
structure FOk (fs : List (Str × V)) (kc : KC) (ds dt : Addr) : Prop where
  l : fs.lookup ("lines" : Str) = some (.ref kc.L)
  x : fs.lookup ("texts" : Str) = some (.ref kc.tx)
  s : fs.lookup ("sentences" : Str) = some (.ref ds)
  t : fs.lookup ("translations" : Str) = some (.ref dt)
  m : ∀ x ∈ ownMeths, fs.lookup x = none
  n : fs.length ≤ 100
theorem SD.isExt {α : Type} [DecidableEq α] {F : KeyFn α} {W : Wd} {H : Hp} {d : Addr} {l : List (α × List Nat)} (S : SD W F H d l) : ∃ φ, H d = some (.ext φ) := by
  obtain ⟨kvs, ⟨_, _, _, xs, h, _⟩, _⟩ := S
  exact ⟨_, h⟩
/-- the lines and the texts -/
structure KAt (W : Wd) (H : Hp) (kc : KC) : Prop where
  x : SD W FKey H kc.tx (textsTab kc.ls)
  n : kc.N kc.L
  l : ∃ vs, H kc.L = some (.lst vs) ∧ LnsAt kc.N H vs kc.ls
theorem KAt.keeps {W : Wd} {H H' : Hp} {kc : KC} (h : KAt W H kc) (ht : ∀ b xs, H b = some (.tup xs) → H' b = some (.tup xs)) (hl : ∀ b xs, kc.N b → H b = some (.lst xs) → H' b = some (.lst xs)) (hx : ∀ o, H kc.tx = some o → H' kc.tx = some o) : KAt W H' kc where
  x := h.x.keeps ht hx
  n := h.n
  l := let ⟨vs, h1, h2⟩ := h.l; ⟨vs, hl _ _ h.n h1, h2.mono fun a xs n q => ⟨n, hl a xs n q⟩⟩
theorem KAt.ex {W : Wd} {H H' : Hp} {kc : KC} (h : KAt W H kc) (e : Ex H H') : KAt W H' kc := h.keeps (fun b _ q => e b _ q) (fun b _ _ q => e b _ q) fun o q => e _ o q
/-- another dict or instance is changed -/
theorem KAt.upd {W : Wd} {H : Hp} {kc : KC} {a : Addr} {o u : HO} (h : KAt W H kc) (ha : H a = some u) (h1 : ∀ xs, u ≠ .tup xs) (h2 : ∀ xs, u ≠ .lst xs) (n : kc.tx ≠ a) : KAt W (upd H a o) kc :=
  h.keeps (fun b xs q => by rw [upd_ne (ne_of q ha (fun z => h1 xs z.symm))]; exact q) (fun b xs _ q => by rw [upd_ne (ne_of q ha (fun z => h2 xs z.symm))]; exact q) fun o q => by rw [upd_ne n]; exact q
/-- the desk as it stands between two calls; ds, dt: its dicts -/
structure DeskAt (W : Wd) (C : Addr) (H : Hp) (a ds dt : Addr) (kc : KC) (S D : Tab) : Prop where
  ob : ∃ dx fs, H a = some (.ins C dx fs) ∧ FOk fs kc ds dt
  s : SD W FSpot H ds S
  t : SD W FSpot H dt D
  ne : ds ≠ dt
  k : KAt W H kc
  ks : kc.tx ≠ ds
  kt : kc.tx ≠ dt
theorem DeskAt.ex {W : Wd} {C a ds dt : Addr} {H H' : Hp} {kc : KC} {S D : Tab} (h : DeskAt W C H a ds dt kc S D) (e : Ex H H') : DeskAt W C H' a ds dt kc S D where
  ob := let ⟨dx, fs, h1, h2⟩ := h.ob; ⟨dx, fs, e _ _ h1, h2⟩
  s := h.s.ex e
  t := h.t.ex e
  ne := h.ne
  k := h.k.ex e
  ks := h.ks
  kt := h.kt
/-- an answer: a new list of whole numbers -/
def RetI (l : List Int) (H : Hp) (Q : VK) : Prop := RetL (l.map V.int) H Q
theorem iv_zi (l : List Nat) : (Ut13.ints l).map V.int = iv l := by
  unfold Ut13.ints
  rw [List.map_map]
  rfl
def spStanding (W : Wd) (C : Addr) : Sp := fun vs H Q _ => ∃ (a ds dt : Addr) (kc : KC) (S D : Tab), vs = [.ref a] ∧ DeskAt W C H a ds dt kc S D ∧ RetI [((filled kc.ls).length : Int), (S.length : Int), (D.length : Int)] H Q
theorem c_standing {W : Wd} {C : Addr} (T : TxK W.K W.mg C) (TR : TxR W.K W.mg) (a : MAt W.K C "standing" "Desk.standing" s_Desk_standing) : Met W 1 C "standing" (spStanding W C) := by
  refine met T.cl a sc_Desk_standing (fun _ _ _ _ _ _ us hl => match us, hl with | [_], _ => rfl) (fun vs H Q E h => by obtain ⟨p, ds, dt, kc, S, D, rfl, _⟩ := h; rfl) (fun f cdv A outer s H vs Q E hr h => ?_)
  obtain ⟨p, ds, dt, kc, S, D, rfl, hd, q⟩ := h
  obtain ⟨dx, fs, hp, fo⟩ := hd.ob
  refine ⟨_, pss_one (ps_ret (pe_lst (pa_cons (pe_callB call_len_n (by rfl) TR.len PySem.boot_len (pa_cons (pe_fld (pv 0) rfl) pa_nil)) (pa_cons (pe_callB call_len_n (by rfl) TR.len PySem.boot_len (pa_cons (pe_fld (pv 0) rfl) pa_nil)) (pa_cons (pe_callB call_len_n (by rfl) TR.len PySem.boot_len (pa_cons (pe_fld (pv 0) rfl) pa_nil)) pa_nil))))), ?_⟩
  have el : (textsTab kc.ls).length = (filled kc.ls).length := List.length_map _
  rw [← el] at q
  exact s_retL (xs := [vn (textsTab kc.ls).length, vn S.length, vn D.length]) (el_lst (ea_cons (ev_slen (W := W) (ev_fld (ev_var rfl) hp T.cl T.nX fo.x) hd.k.x.r) (ea_cons (ev_slen (W := W) (ev_fld (ev_var rfl) hp T.cl T.nS fo.s) hd.s.r) (ea_cons (ev_slen (W := W) (ev_fld (ev_var rfl) hp T.cl T.nT fo.t) hd.t.r) ea_nil))) (by simp)) q
/-! ### show_sentence -/
theorem ep_tuple1 {K : PySem.W.Frag} {σ : L2.St} {H : Hp} {i : Nat} {p : Addr} {xs : List V} (h : σ[i]? = some (some (.ref p))) (hs : SqL K H p xs) : EvP K (tCB (rTupOf K) (tCons (tVar i) tNil)) σ H xs := ep_tuple (eq_var h (.inl hs))
/-- (tuple(key), number) -/
theorem en_key {K : PySem.W.Frag} {σ : L2.St} {H : Hp} {ta tb : TE} {k : List Nat} {i : Nat} (h1 : EvP K ta σ H (iv k)) (h2 : Ev tb σ H (vn i)) : EvN (FSpot.ek (k, i)) (tTup (tCons ta (tCons tb tNil))) σ H := fun H1 e Q q =>
  h1 H1 e _ fun a H2 e2 ha => h2 H2 (e.trans e2) _ fun H3 e3 => ⟨by show 2 ≤ sizeLine; decide, fun p hp => q p _ ((e2.trans e3).trans (Ex.new hp)) (nt_spot upd_same ((Ex.new hp) _ _ (e3 _ _ ha)))⟩
theorem q_asgN {σ : L2.St} {H : Hp} {D : Ends} {te : TE} {tz : TS} {i : Nat} {k : NestedKey} (h : EvN k te σ H) (n : ∀ b H1, Ex H H1 → NT H1 k (.ref b) → tz D (σ.set i (some (.ref b))) H1) : tSeq (tAsg te (gName i)) tz D σ H := h H (Ex.refl H) _ fun b H1 e h1 => n b H1 e h1
theorem eq_of_p {K : PySem.W.Frag} {σ : L2.St} {H : Hp} {te : TE} {xs : List V} (h : EvP K te σ H xs) : EvQ K te σ H xs := fun H1 e Q q => h H1 e Q fun p H2 e2 hp => q p H2 e2 (.inr hp)
def showOut (S D : Tab) (k : List Nat) (i : Nat) : List Int := match valA S (k, i) with
  | none => [-2]
  | some s => Ut13.ints (sentOut s (valA D (k, i)))
def spShow (W : Wd) (C : Addr) : Sp := fun vs H Q _ => ∃ (a ds dt p : Addr) (kc : KC) (S D : Tab) (k : List Nat) (i : Nat), vs = [.ref a, .ref p, vn i] ∧ DeskAt W C H a ds dt kc S D ∧ SqL W.K H p (iv k) ∧ (∀ x ∈ S, x.2.length ≤ 1000) ∧ (∀ x ∈ D, x.2.length ≤ 1000) ∧ RetI (showOut S D k i) H Q
theorem c_show {W : Wd} {C : Addr} (T : TxK W.K W.mg C) (TL : TxL W.K W.mg) (a : MAt W.K C "show_sentence" "Desk.show_sentence" s_Desk_show_sentence) (c1 : Cal W 1 "counted" (spCounted W.K)) : Met W 2 C "show_sentence" (spShow W C) := by
  refine met T.cl a sc_Desk_show_sentence (fun _ _ _ _ _ _ us hl => match us, hl with | [_, _, _], _ => rfl) (fun vs H Q E h => by obtain ⟨p, ds, dt, r, kc, S, D, k, i, rfl, _⟩ := h; rfl) (fun f cdv A outer s H vs Q E hr h => ?_)
  obtain ⟨p, ds, dt, r, kc, S, D, k, i, rfl, hd, hk, hS, hD, q⟩ := h
  obtain ⟨dx, fs, hp, fo⟩ := hd.ob
  have hu := hr.units
  refine ⟨_, pss_cons (ps_set (i := 3) sc_Desk_show_sentence.nd rfl (.inl rfl) (pe_tup (pa_cons (pe_callTy call_tuple_of (by rfl) TL.tuple PyProof.Rows.boot_tuple (pa_cons (pv 1) pa_nil)) (pa_cons (pv 2) pa_nil))))
    (pss_cons (ps_if (pt_cmp (pc_nnotin hu (pv 3) (pe_fld (pv 0) rfl))) (pss_one (ps_ret (pe_lst (pa_cons (pe_gc T.NO_SENTENCE) pa_nil)))) pss_nil)
    (pss_cons (ps_set (i := 4) sc_Desk_show_sentence.nd rfl (.inl rfl) (pe_c c1 hr (pa_cons (pe_nget hu (pe_fld (pv 0) rfl) (pv 3) (fun _ _ => rfl)) pa_nil)))
    (pss_cons (ps_if (pt_cmp (pc_nnotin hu (pv 3) (pe_fld (pv 0) rfl))) (pss_one (ps_ret (pe_op op_cat (pv 4) (pe_lst (pa_cons pe_int pa_nil))))) pss_nil)
    (pss_one (ps_ret (pe_op op_cat (pe_op op_cat (pv 4) (pe_lst (pa_cons pe_int pa_nil))) (pe_c c1 hr (pa_cons (pe_nget hu (pe_fld (pv 0) rfl) (pv 3) (fun _ _ => rfl)) pa_nil)))))))), ?_⟩
  refine q_asgN (en_key (K := W.K) (ep_tuple1 (K := W.K) rfl hk) (ev_var rfl)) fun b H1 e1 hb => ?_
  refine q_when (et_B (ev_snin (W := W) (F := FSpot) (k := (k, i)) (en_var rfl hb) (ev_fld (ev_var rfl) (e1 _ _ hp) T.cl T.nS fo.s) (hd.s.ex e1).r)) (fun b2 H2 e2 => s_retL (xs := [.int (-2)]) (el_lst (ea_cons ev_c ea_nil) (by simp)) fun t H3 ht e3 h3 => ?_) (fun b2 H2 e2 => ?_)
  · have hn : valA S (k, i) = none := by
      cases hv : valA S (k, i) with
      | none => rfl
      | some s =>
        rw [hv] at b2
        cases b2
    have e03 : showOut S D k i = [-2] := by rw [showOut, hn]
    rw [e03] at q
    exact q t H3 (fresh_back (e1.trans e2) ht) ((e1.trans e2).trans e3) h3
  · cases hv : valA S (k, i) with
    | none =>
      rw [hv] at b2
      cases b2
    | some sv =>
      have e03 : showOut S D k i = Ut13.ints (sentOut sv (valA D (k, i))) := by rw [showOut, hv]
      rw [e03] at q
      replace q : RetL ((Ut13.ints (sentOut sv (valA D (k, i)))).map V.int) H Q := q
      rw [iv_zi] at q
      have hsl : sv.length ≤ 1000 := hS _ (valA_some hv)
      have e02 := e1.trans e2
      refine q_asgL (el_counted (K := W.K) (eq_of_p (ep_sget (W := W) (F := FSpot) (k := (k, i)) (K := W.K) (ev_fld (ev_var rfl) (e02 _ _ hp) T.cl T.nS fo.s) (en_var rfl (nt_ex e2 hb)) (hd.s.ex e02).r hv)) (by omega)) fun c H3 hc e3 h3 => ?_
      have e03' := e02.trans e3
      have lc : (iv (counted sv)).length ≤ 1001 := by
        rw [iv_len]
        show sv.length + 1 ≤ 1001
        omega
      have vl : ∀ {σ : L2.St} {H4 : Hp}, Ex H3 H4 → σ[4]? = some (some (.ref c)) → Ev (tVar 4) σ H4 (.ref c) := fun _ h => ev_var h
      have cat : ∀ {σ : L2.St} {H4 : Hp} {te : TE} {zs : List V}, Ex H3 H4 → σ[4]? = some (some (.ref c)) → EvL te σ H4 zs → zs.length ≤ 5000 → EvL (tOp rCat (tVar 4) te) σ H4 (iv (counted sv) ++ zs) := fun {σ H4 te zs} e4 hσ hz hl H5 e5 Q q =>
        ⟨.ref c, hσ, hz H5 e5 _ fun z H6 hz e6 h6 => ⟨c, z, _, _, rfl, rfl, ((e4.trans e5).trans e6) _ _ h3, h6, sz_of (by omega), fun t ht => q t _ (fresh_back e6 ht) (e6.trans (Ex.new ht)) upd_same⟩⟩
      refine q_when (et_B (ev_snin (W := W) (F := FSpot) (k := (k, i)) (en_var rfl (nt_ex (e2.trans e3) hb)) (ev_fld (ev_var rfl) (e03' _ _ hp) T.cl T.nT fo.t) (hd.t.ex e03').r)) (fun b4 H4 e4 => ?_) (fun b4 H4 e4 => ?_)
      · have hn : valA D (k, i) = none := by
          cases hv : valA D (k, i) with
          | none => rfl
          | some s =>
            rw [hv] at b4
            cases b4
        rw [hn] at q
        refine s_retL (xs := iv (counted sv) ++ [vn 0]) (cat e4 rfl (el_lst (ea_cons ev_c ea_nil) (by simp)) (by simp)) fun t H5 ht e5 h5 => q t H5 (fresh_back (e03'.trans e4) ht) ((e03'.trans e4).trans e5) ?_
        rw [h5]
        show _ = some (HO.lst (iv (counted sv ++ [0])))
        rw [iv_app]
        rfl
      · cases hn : valA D (k, i) with
        | none =>
          rw [hn] at b4
          cases b4
        | some tv =>
          rw [hn] at q
          have htl : tv.length ≤ 1000 := hD _ (valA_some hn)
          have e04 := e03'.trans e4
          refine s_retL (xs := (iv (counted sv) ++ [vn 1]) ++ iv (counted tv)) (el_cat (cat e4 rfl (el_lst (ea_cons ev_c ea_nil) (by simp)) (by simp)) (el_counted (K := W.K) (eq_of_p (ep_sget (W := W) (F := FSpot) (k := (k, i)) (K := W.K) (ev_fld (ev_var rfl) (e04 _ _ hp) T.cl T.nT fo.t) (en_var rfl (nt_ex ((e2.trans e3).trans e4) hb)) (hd.t.ex e04).r hn)) (by omega)) ?_) fun t H5 ht e5 h5 => q t H5 (fresh_back e04 ht) (e04.trans e5) ?_
          · rw [List.length_append, iv_len, iv_len]
            show (sv.length + 1) + 1 + (tv.length + 1) ≤ 100000
            omega
          · rw [h5]
            show _ = some (HO.lst (iv (counted sv ++ (1 :: counted tv))))
            rw [iv_app, List.append_assoc]
            rfl
end Fo

set_option Elab.async false
set_option linter.all false
set_option maxRecDepth 100000
set_option maxHeartbeats 2000000
namespace Fo
open PySem PySem.Spec PyProof.Rows L2 Evl
theorem s_extL {K : PySem.W.Frag} {σ : L2.St} {H : Hp} {ta te : TE} {D : Ends} {l : Addr} {xs zs : List V} (hl : H l = some (.lst xs)) (ha : Ev ta σ H (.ref l)) (h : EvL te σ H zs) (hn : xs.length + zs.length ≤ sizeLine) (k : ∀ H1, Ex H H1 → D.nx σ (upd H1 l (.lst (xs ++ zs)))) :
    tDrop (tBM K "list" rExtend ta (tCons te tNil)) D σ H := ha H (Ex.refl H) _ fun H1 e1 =>
  ⟨Or.inl ⟨rfl, xs, sq_of (e1 l _ hl)⟩, h H1 e1 _ fun p H2 _ e2 h2 => ⟨l, p, xs, zs, rfl, rfl, (e1.trans e2) l _ hl, h2, hn, k H2 (e1.trans e2)⟩⟩
theorem q_extL {K : PySem.W.Frag} {σ : L2.St} {H : Hp} {ta te : TE} {D : Ends} {tz : TS} {l : Addr} {xs zs : List V} (hl : H l = some (.lst xs)) (ha : Ev ta σ H (.ref l)) (h : EvL te σ H zs) (hn : xs.length + zs.length ≤ sizeLine) (k : ∀ H1, Ex H H1 → tz D σ (upd H1 l (.lst (xs ++ zs)))) :
    tSeq (tDrop (tBM K "list" rExtend ta (tCons te tNil))) tz D σ H := s_extL (D := { D with nx := tz D }) hl ha h hn k
/-- all but dicts and one object is as it was; what was known is known -/
structure NEx (a : Option Addr) (H H' : Hp) : Prop where
  k : ∀ b o, H b = some o → (∀ φ, o ≠ .ext φ) → some b ≠ a → H' b = some o
  i : ∀ b o, H b = some o → ∃ o', H' b = some o'
theorem NEx.of_ex {a : Option Addr} {H H' : Hp} (e : Ex H H') : NEx a H H' := ⟨fun b o h _ _ => e b o h, fun b o h => ⟨o, e b o h⟩⟩
theorem NEx.refl (a : Option Addr) (H : Hp) : NEx a H H := ⟨fun _ _ h _ _ => h, fun _ o h => ⟨o, h⟩⟩
theorem NEx.trans {a : Option Addr} {H H1 H2 : Hp} (x : NEx a H H1) (y : NEx a H1 H2) : NEx a H H2 := ⟨fun b o h n m => y.k b o (x.k b o h n m) n m, fun b o h => let ⟨o', h'⟩ := x.i b o h; y.i b o' h'⟩
theorem NEx.upd {a : Option Addr} {H : Hp} {d : Addr} {o : HO} {φ : Heap → Prop} (hd : H d = some (.ext φ)) : NEx a H (upd H d o) := ⟨fun b u h n _ => by
  rw [upd_ne (ne_of h hd (n φ))]
  exact h, fun b u h => by
    by_cases e : b = d
    · rw [e]
      exact ⟨o, upd_same⟩
    · rw [upd_ne e]
      exact ⟨u, h⟩⟩
theorem NEx.at {H : Hp} {d : Addr} {o : HO} : NEx (some d) H (L2.upd H d o) := ⟨fun b u h n m => by
  rw [upd_ne (fun z => m (by rw [z]))]
  exact h, fun b u h => by
    by_cases e : b = d
    · rw [e]
      exact ⟨o, upd_same⟩
    · rw [upd_ne e]
      exact ⟨u, h⟩⟩
theorem NEx.any {a : Option Addr} {H H' : Hp} (x : NEx none H H') : NEx a H H' := ⟨fun b o h n _ => x.k b o h n (fun z => nomatch z), x.i⟩
theorem NEx.free {a : Option Addr} {H H' : Hp} (e : NEx a H H') {p : Addr} (h : H' p = none) : H p = none := by
  cases hp : H p with
  | none => rfl
  | some o =>
    obtain ⟨o', h'⟩ := e.i p o hp
    rw [h] at h'
    cases h'
theorem NEx.sql {K : PySem.W.Frag} {a : Option Addr} {H H' : Hp} {c : Addr} {xs : List V} (e : NEx a H H') (h : SqL K H c xs) (n : some c ≠ a) : SqL K H' c xs := by
  rcases h with (h | ⟨o, h⟩) | h
  · exact .inl (.inl (e.k _ _ h (fun φ z => nomatch z) n))
  · exact .inl (.inr ⟨o, e.k _ _ h (fun φ z => nomatch z) n⟩)
  · exact .inr h
/-- what one sentence is told by -/
def listOne (D : Tab) (x : (List Nat × Nat) × List Nat) : List Nat := counted x.1.1 ++ [x.1.2, x.2.length, if (valA D x.1).isSome = true then 1 else 0]
theorem listOut_eq (S D : Tab) : listOut S D = S.length :: S.flatMap (listOne D) := rfl
def spList (W : Wd) (C : Addr) : Sp := fun vs H Q _ => ∃ (a ds dt : Addr) (kc : KC) (S D : Tab), vs = [.ref a] ∧ DeskAt W C H a ds dt kc S D ∧ (listOut S D).length ≤ 1000000 ∧ (∀ x ∈ S, x.1.1.length ≤ 2000000) ∧ ∀ p H2, H p = none → Ex H H2 → H2 p = some (.lst (iv (listOut S D))) → Q (.ref p) H2

theorem c_list {W : Wd} {C : Addr} (T : TxK W.K W.mg C) (TR : TxR W.K W.mg) (a : MAt W.K C "list_sentences" "Desk.list_sentences" s_Desk_list_sentences) (c1 : Cal W 1 "counted" (spCounted W.K)) : Met W 2 C "list_sentences" (spList W C) := by
  refine met T.cl a sc_Desk_list_sentences (fun _ _ _ _ _ _ us hl => match us, hl with | [_], _ => rfl) (fun vs H Q E h => by obtain ⟨p, ds, dt, kc, S, D, rfl, _⟩ := h; rfl) (fun f cdv A outer s H vs Q E hr h => ?_)
  obtain ⟨p, ds, dt, kc, S, D, rfl, hd, hlen, hkl, q⟩ := h
  obtain ⟨dx, fs, hp, fo⟩ := hd.ob
  have hu := hr.units
  refine ⟨_, pss_cons (ps_set (i := 1) sc_Desk_list_sentences.nd rfl (.inl rfl) (pe_lst (pa_cons (pe_callB call_len_n (by rfl) TR.len PySem.boot_len (pa_cons (pe_fld (pv 0) rfl) pa_nil)) pa_nil)))
    (pss_cons (ps_lock (ps_for PassesOwn.never rfl (pi_itemsN (pe_fld (pv 0) rfl)) (pg_tup rfl (pgs_cons (pg_name (i := 2) sc_Desk_list_sentences.nd rfl (.inl rfl)) (pgs_cons (pg_name (i := 3) sc_Desk_list_sentences.nd rfl (.inl rfl)) pgs_nil)))
      (pss_cons (ps_expr (pe_bm PySem.F.plainAttrs_list PySem.F.slot_list_extend PySem.F.type_list_extend mt_extend (pv 1) (pa_cons (pe_c c1 hr (pa_cons (pe_ix ix_tup (pv 2) pe_int (fun _ _ => rfl)) pa_nil)) pa_nil)))
      (pss_one (ps_expr (pe_bm PySem.F.plainAttrs_list PySem.F.slot_list_extend PySem.F.type_list_extend mt_extend (pv 1) (pa_cons (pe_lst (pa_cons (pe_ix ix_tup (pv 2) pe_int (fun _ _ => rfl)) (pa_cons (pe_callB call_len_seq (by rfl) TR.len PySem.boot_len (pa_cons (pv 3) pa_nil)) (pa_cons (pe_ifExp (pt_cmp (pc_nin hu (pv 2) (pe_fld (pv 0) rfl))) pe_int pe_int) pa_nil)))) pa_nil)))))))
    (pss_one (ps_ret (pv 1)))), ?_⟩
  refine q_asgL (xs := [vn S.length]) (el_lst (ea_cons (ev_slen (W := W) (ev_fld (ev_var rfl) hp T.cl T.nS fo.s) hd.s.r) ea_nil) (by simp)) fun L H1 hL e1 h1 => ?_
  have S1 := hd.s.ex e1
  obtain ⟨φ, hdsx⟩ := S1.isExt
  have hLds : L ≠ ds := ne_of h1 hdsx (fun z => nomatch z)
  have hads : p ≠ ds := ne_of (e1 _ _ hp) hdsx (fun z => nomatch z)
  have lsz : (S.flatMap (listOne D)).length + 1 ≤ 1000000 := by
    rw [listOut_eq, List.length_cons] at hlen
    exact hlen
  refine s_forI (W := W) (F := FSpot) (K := W.K) (D := { nx := tRet (tVar 1) { nx := fun _ H' => Q .non H', rt := Q }, rt := Q, bk := _, ct := _ }) (l := S) (j1 := 2) (j2 := 3) (td := tFld W.K (tVar 0) "sentences") (fun H2 c2 => ev_fld (ev_var rfl) (c2 _ _ (e1 _ _ hp) hads) T.cl T.nS fo.s) S1
    (fun i σ' H' => ∃ v2 v3, σ' = [some (.ref p), some (.ref L), v2, v3] ∧ Ch ds H1 (upd H' L (.lst [vn S.length])) ∧ H' L = some (.lst (iv (S.length :: (S.take i).flatMap (listOne D)))) ∧ SR W FSpot H' dt D)
    (fun H2 c2 _ => ⟨none, none, rfl, fun b o hb n => ?_, c2 _ _ h1 hLds, ?_⟩) ?_ ?_
  · by_cases hbL : b = L
    · rw [hbL, upd_same]
      rw [hbL, h1] at hb
      exact hb
    · rw [upd_ne hbL]
      exact c2 b o hb n
  · exact (hd.t.ex e1).r.keeps (fun b xs h => c2 _ _ h (ne_of h hdsx (fun z => nomatch z))) fun o h => c2 _ _ h (Ne.symm hd.ne)
  · rintro i ⟨k, n⟩ sv σ' H' hi ⟨v2, v3, rfl, c2, hL', R'⟩ RS ⟨o, u, hlk⟩ b sa H2 e2 hnt hsa D' hD'
    obtain ⟨ka, hb, hka⟩ := spot_nt hnt
    have hp2 : H2 p = some (.ins C dx fs) := by
      have : upd H' L (.lst [vn S.length]) p = some (.ins C dx fs) := c2 _ _ (e1 _ _ hp) hads
      rw [upd_ne (ne_of (e1 _ _ hp) h1 (fun z => nomatch z))] at this
      exact e2 _ _ this
    have hkl' : k.length ≤ 2000000 := hkl _ (List.mem_of_getElem? hi)
    have hfl := flat_le (listOne D) S (i + 1)
    rw [flat_take (listOne D) hi, List.length_append] at hfl
    have hone : (listOne D ((k, n), sv)).length = k.length + 4 := by
      show (counted k ++ [n, sv.length, _]).length = _
      rw [List.length_append]
      show k.length + 1 + 3 = _
      omega
    rw [hone] at hfl
    have ln : (iv (S.length :: (S.take i).flatMap (listOne D))).length = ((S.take i).flatMap (listOne D)).length + 1 := by rw [iv_len, List.length_cons]
    have sl : sizeLine = 16777216 := sizeLine_eq
    refine q_extL (K := W.K) (zs := iv (counted k)) (e2 _ _ hL') (ev_var rfl) (el_counted (K := W.K) (fun H3 e3 Q q => ev_op (H := H2) (ev_var rfl) ev_c (rv_ixT (K := W.K) (i := 0) (st_of hb) rfl) H3 e3 _ fun H4 e4 => q ka H4 e4 (.inr ((e3.trans e4) _ _ hka))) hkl') (by rw [ln, iv_len]; show _ + (k.length + 1) ≤ _; omega) fun H3 e3 => ?_
    have e23 := e2.trans e3
    have nLt : ∀ {c : Addr} {zs : List V}, H3 c = some (.tup zs) → upd H3 L (.lst (iv (S.length :: (S.take i).flatMap (listOne D)) ++ iv (counted k))) c = some (.tup zs) := fun {c zs} h => by
      rw [upd_ne (ne_of h (e3 _ _ (e2 _ _ hL')) (fun z => nomatch z))]
      exact h
    have hdt : dt ≠ L := by
      obtain ⟨ψ, hx⟩ := hd.t.isExt
      exact ne_of_none hx hL
    have R3 : SR W FSpot (upd H3 L (.lst (iv (S.length :: (S.take i).flatMap (listOne D)) ++ iv (counted k)))) dt D := (R'.ex e23).upd (e23 _ _ hL') (fun xs z => nomatch z) hdt
    have hp3 : upd H3 L (.lst (iv (S.length :: (S.take i).flatMap (listOne D)) ++ iv (counted k))) p = some (.ins C dx fs) := by
      rw [upd_ne (ne_of (e1 _ _ hp) h1 (fun z => nomatch z))]
      exact e3 _ _ hp2
    have hnt3 : NT (upd H3 L (.lst (iv (S.length :: (S.take i).flatMap (listOne D)) ++ iv (counted k)))) (FSpot.ek (k, n)) (.ref b) := NT.keeps (fun c zs h => nLt (e3 _ _ h)) _ _ hnt
    refine s_extL (K := W.K) (zs := [vn n, vn sv.length, vn (if (valA D (k, n)).isSome = true then 1 else 0)]) upd_same (ev_var rfl) (el_lst (ea_cons (ev_op (ev_var rfl) ev_c (rv_ixT (K := W.K) (i := 1) (st_of (nLt (e3 _ _ hb))) rfl)) (ea_cons (ev_is (ev_lenQ (K := W.K) (ev_var rfl) (.inr (nLt (e3 _ _ hsa)))) (congrArg (fun n : Nat => V.int (n : Int)) (iv_len sv)))
      (ea_cons (ev_if (et_B (ev_sin (W := W) (F := FSpot) (k := (k, n)) (en_var rfl hnt3) (ev_fld (ev_var rfl) hp3 T.cl T.nT fo.t) R3)) (fun b => ev_is ev_c (by rw [if_pos b]; rfl)) (fun b => ev_is ev_c (by rw [if_neg (by rw [b]; decide)]; rfl))) ea_nil))) (by simp)) (by rw [List.length_append, ln, iv_len]; show _ + (k.length + 1) + 3 ≤ _; omega) fun H4 e4 => ?_
    refine hD' _ _ ⟨some (.ref b), some (.ref sa), rfl, fun c oc hc nc => ?_, ?_, ?_⟩ ?_ ?_
    · by_cases hcL : c = L
      · rw [hcL, upd_same]
        rw [hcL, h1] at hc
        exact hc
      · rw [upd_ne hcL, upd_ne hcL]
        have : upd H' L (.lst [vn S.length]) c = some oc := c2 c oc hc nc
        rw [upd_ne hcL] at this
        refine e4 _ _ ?_
        rw [upd_ne hcL]
        exact e23 _ _ this
    · rw [upd_same, flat_take (listOne D) hi]
      show some (HO.lst ((iv (S.length :: (S.take i).flatMap (listOne D)) ++ iv (counted k)) ++ [vn n, vn sv.length, vn (if (valA D (k, n)).isSome = true then 1 else 0)])) = some (HO.lst (iv (S.length :: ((S.take i).flatMap (listOne D) ++ (counted k ++ [n, sv.length, if (valA D (k, n)).isSome = true then 1 else 0])))))
      rw [show S.length :: ((S.take i).flatMap (listOne D) ++ (counted k ++ [n, sv.length, if (valA D (k, n)).isSome = true then 1 else 0])) = ((S.length :: (S.take i).flatMap (listOne D)) ++ counted k) ++ [n, sv.length, if (valA D (k, n)).isSome = true then 1 else 0] by simp, iv_app, iv_app]
      rfl
    · exact (R3.ex e4).upd (e4 _ _ upd_same) (fun xs z => nomatch z) hdt
    · rw [upd_ne (Ne.symm hLds)]
      refine (e4 _ _ ?_).trans hlk.symm
      rw [upd_ne (Ne.symm hLds)]
      exact e23 _ _ hlk
    · intro c zs hc
      have h4 : H4 c = some (.tup zs) := e4 _ _ (nLt (e23 _ _ hc))
      rw [upd_ne (ne_of h4 (e4 _ _ upd_same) (fun z => nomatch z))]
      exact h4
  · rintro σ' H' o ⟨v2, v3, rfl, c2, hL', R'⟩ ho _ SDn
    rw [List.take_length] at hL'
    refine s_ret (ev_var rfl) fun H2 e2 => q L H2 hL (fun b ob hb => e2 _ _ ?_) (e2 _ _ ?_)
    · have hb1 : H1 b = some ob := e1 _ _ hb
      have hbL : b ≠ L := ne_of_none hb hL
      by_cases hbd : b = ds
      · rw [hbd, upd_same]
        rw [hbd] at hb1
        exact ho.symm.trans hb1
      · rw [upd_ne hbd]
        have : upd H' L (.lst [vn S.length]) b = some ob := c2 b ob hb1 hbd
        rw [upd_ne hbL] at this
        exact this
    · rw [upd_ne hLds, hL', listOut_eq]
end Fo

set_option Elab.async false
set_option linter.all false
set_option maxRecDepth 100000
set_option maxHeartbeats 2000000
namespace Fo
open PySem PySem.Spec PyProof.Rows L2 Evl
theorem ev_trans {K : PySem.W.Frag} {σ : L2.St} {H : Hp} {ta tb : TE} {E : XK} {p : Addr} {w s : List Nat} (ha : Ev ta σ H (.ref p)) (hw : SqL K H p (iv w)) (hb : EvP K tb σ H (iv s)) (l1 : w.length ≤ 1000) (l2 : s.length ≤ 1000) : Ev (tCall (spTrans K) [] E (tCons ta (tCons tb tNil))) σ H (.bl (isTrans w s)) := fun H1 e Q q =>
  ha H1 e _ fun H2 e2 => hb H2 (e.trans e2) _ fun r H3 e3 h3 => ⟨p, r, w, s, rfl, ex_l ((e.trans e2).trans e3) hw, h3, l1, l2, fun H4 e4 => q H4 ((e2.trans e3).trans e4)⟩
def spRefusal (W : Wd) (C : Addr) : Sp := fun vs H Q _ => ∃ (a ds dt b p : Addr) (kc : KC) (S D : Tab) (k : List Nat) (i : Nat) (w : List Nat), vs = [.ref a, .ref b, .ref p] ∧ DeskAt W C H a ds dt kc S D ∧ NT H (FSpot.ek (k, i)) (.ref b) ∧ SqL W.K H p (iv w) ∧ w.length ≤ 40000 ∧ (∀ x ∈ S, x.2.length ≤ 1000) ∧ RetV (optI (doneRefusal S k i w)) H Q
theorem bytes_len {m : Nat} {w : List Nat} (h : isBytes m w = true) : w.length ≤ m := by
  unfold isBytes at h
  rw [Bool.and_eq_true] at h
  exact of_decide_eq_true h.1
theorem c_refusal {W : Wd} {C : Addr} (T : TxK W.K W.mg C) (TR : TxR W.K W.mg) (TL : TxL W.K W.mg) (a : MAt W.K C "refusal_of" "Desk.refusal_of" s_Desk_refusal_of) (c1 : Cal W 1 "are_bytes" (spBytes W.K)) (c2 : Cal W 5 "fault_place" (spFault W.K)) (c3 : Cal W 3 "is_translation" (spTrans W.K)) : Met W 6 C "refusal_of" (spRefusal W C) := by
  refine met T.cl a sc_Desk_refusal_of (fun _ _ _ _ _ _ us hl => match us, hl with | [_, _, _], _ => rfl) (fun vs H Q E h => by obtain ⟨p, ds, dt, b, r, kc, S, D, k, i, w, rfl, _⟩ := h; rfl) (fun f cdv A outer s H vs Q E hr h => ?_)
  obtain ⟨p, ds, dt, b, r, kc, S, D, k, i, w, rfl, hd, hnt, hw, hl, hS, q⟩ := h
  obtain ⟨dx, fs, hp, fo⟩ := hd.ob
  have hu := hr.units
  refine ⟨_, pss_cons (ps_if (pt_not (pt_val (pe_c c1 hr (pa_cons (pv 2) (pa_cons (pe_gc T.MOST_TRANSLATION_BYTES) pa_nil))))) (pss_one (ps_ret (pe_gc T.NOT_BYTES))) pss_nil)
    (pss_cons (ps_if (pt_cmp (pc_nnotin hu (pv 1) (pe_fld (pv 0) rfl))) (pss_one (ps_ret (pe_gc T.NO_SENTENCE))) pss_nil)
    (pss_cons (ps_if (pt_cmpR op_in_seq (pe_gc TL.LINE_END) (pv 2) (by rfl)) (pss_one (ps_ret (pe_gc T.NOT_BYTES))) pss_nil)
    (pss_cons (ps_set (i := 3) sc_Desk_refusal_of.nd rfl (.inl rfl) (pe_c c2 hr (pa_cons (pv 2) (pa_cons (pe_gc TR.IN_TEXT) pa_nil))))
    (pss_cons (ps_if (pt_cmp (pc_notN (pv 3))) (pss_one (ps_ret (pe_op op_sub (pe_gc T.FIRST_FAULT) (pv 3)))) pss_nil)
    (pss_one (ps_ret (pe_ifExp (pt_val (pe_c c3 hr (pa_cons (pv 2) (pa_cons (pe_nget hu (pe_fld (pv 0) rfl) (pv 1) (fun _ _ => rfl)) pa_nil)))) pe_non (pe_gc T.NO_TRANSLATION)))))))), ?_⟩
  refine q_when (et_not (et_B (ev_call (ea_cons (ev_var rfl) (ea_cons ev_c ea_nil)) (sv_bytes hw hl)))) (fun b1 H1 e1 => s_ret (v := .int (-1)) ev_c fun H2 e2 => ?_) (fun b1 H1 e1 => ?_)
  · have hb : isBytes 100 w = false := by simpa using b1
    have g := q H2 (e1.trans e2)
    rw [doneRefusal, if_pos hb] at g
    exact g
  have hb : isBytes 100 w = true := by simpa using b1
  have nb : ¬ isBytes 100 w = false := by rw [hb]; decide
  have lw := bytes_len hb
  refine q_when (et_B (ev_snin (W := W) (F := FSpot) (k := (k, i)) (en_var rfl (nt_ex e1 hnt)) (ev_fld (ev_var rfl) (e1 _ _ hp) T.cl T.nS fo.s) (hd.s.ex e1).r)) (fun b2 H2 e2 => s_ret (v := .int (-2)) ev_c fun H3 e3 => ?_) (fun b2 H2 e2 => ?_)
  · have hn : valA S (k, i) = none := by
      cases hv : valA S (k, i) with
      | none => rfl
      | some s =>
        rw [hv] at b2
        cases b2
    have g := q H3 ((e1.trans e2).trans e3)
    rw [doneRefusal, if_neg nb, hn] at g
    exact g
  cases hv : valA S (k, i) with
  | none =>
    rw [hv] at b2
    cases b2
  | some sv =>
    have hsl : sv.length ≤ 1000 := hS _ (valA_some hv)
    have er : doneRefusal S k i w = if 10 ∈ w then some (-1) else match faultPlace w .text with
      | some p => some (-1000 - (p : Int))
      | none => if isTrans w sv = true then none else some (-4) := by
        rw [doneRefusal, if_neg nb]
        simp only [hv] <;> rfl
    have e02 := e1.trans e2
    refine q_when (et_is (et_test (ev_op ev_c (ev_var rfl) (rv_isL (K := W.K) (x := vn 10) (ex_l e02 hw) rfl (flat_iv _)))) (inV_iv 10 w)) (fun b3 H3 e3 => s_ret (v := .int (-1)) ev_c fun H4 e4 => ?_) (fun b3 H3 e3 => ?_)
    · have g := q H4 ((e02.trans e3).trans e4)
      rw [er, if_pos (of_decide_eq_true b3)] at g
      exact g
    rw [if_neg (of_decide_eq_false b3)] at er
    have e03 := e02.trans e3
    refine q_asg (ev_call (ea_cons (ev_var rfl) (ea_cons ev_c ea_nil)) (sv_fault (st := .text) (ex_l e03 hw))) fun H4 e4 => ?_
    have e04 := e03.trans e4
    cases hf : faultPlace w .text with
    | some pl =>
      rw [hf] at er
      refine q_when (et_notN (o := some pl) (ev_var rfl)) (fun b5 H5 e5 => s_ret (v := .int (-1000 - (pl : Int))) (ev_op ev_c (ev_var (v := vn pl) rfl) rv_I0) fun H6 e6 => ?_) (fun b5 => by cases b5)
      have g := q H6 ((e04.trans e5).trans e6)
      rw [er] at g
      exact g
    | none =>
      rw [hf] at er
      replace er : doneRefusal S k i w = if isTrans w sv = true then none else some (-4) := er
      refine q_when (et_notN (o := none) (ev_var rfl)) (fun b5 => by cases b5) (fun b5 H5 e5 => ?_)
      have e05 := e04.trans e5
      refine s_ret (ev_if (et_B (ev_trans (K := W.K) (ev_var rfl) (ex_l e05 hw) (ep_sget (W := W) (F := FSpot) (k := (k, i)) (K := W.K) (ev_fld (ev_var rfl) (e05 _ _ hp) T.cl T.nS fo.s) (en_var rfl (nt_ex e05 hnt)) (hd.s.ex e05).r hv) (by omega) hsl)) (fun b6 => ev_is ev_c ?_) (fun b6 => ev_is ev_c ?_)) fun H6 e6 => q H6 (e05.trans e6)
      · rw [er, if_pos b6] <;> rfl
      · rw [er, if_neg (by rw [b6]; decide)] <;> rfl
/-! ### put_translation -/
theorem dropA_none {α : Type} [DecidableEq α] {k : α} : ∀ {l : List (α × List Nat)}, valA l k = none → dropA l k = l
  | [], _ => rfl
  | x :: l, h => by
    by_cases e : x.1 = k
    · rw [valA_pos e] at h
      cases h
    · rw [valA_neg e] at h
      have : dropA (x :: l) k = x :: dropA l k := List.filter_cons_of_pos (by simp [e])
      rw [this, dropA_none h]
theorem valA_drop {α : Type} [DecidableEq α] {k : α} (l : List (α × List Nat)) : valA (dropA l k) k = none := by
  refine valA_none fun x hx => ?_
  have := (List.mem_filter.mp hx).2
  simpa using this
theorem dropA_len {α : Type} [DecidableEq α] (k : α) (l : List (α × List Nat)) : (dropA l k).length ≤ l.length := List.length_filter_le _ _
def spPut (W : Wd) (C : Addr) : Sp := fun vs H Q _ => ∃ (a ds dt r p : Addr) (kc : KC) (S D : Tab) (k : List Nat) (i : Nat) (w : List Nat), vs = [.ref a, .ref r, vn i, .ref p] ∧ DeskAt W C H a ds dt kc S D ∧ SqL W.K H r (iv k) ∧ SqL W.K H p (iv w) ∧ w.length ≤ 40000 ∧ (∀ x ∈ S, x.2.length ≤ 1000) ∧ D.length ≤ 5000 ∧
  (∀ z, doneRefusal S k i w = some z → RetI [z] H Q) ∧
  (doneRefusal S k i w = none → ∀ t H', H t = none → NEx none H H' → DeskAt W C H' a ds dt kc S (dropA D (k, i) ++ [((k, i), w)]) → H' t = some (.lst ([((filled kc.ls).length : Int), (S.length : Int), ((dropA D (k, i) ++ [((k, i), w)]).length : Int)].map V.int)) → Q (.ref t) H')
theorem c_put {W : Wd} {C : Addr} (T : TxK W.K W.mg C) (TL : TxL W.K W.mg) (a : MAt W.K C "put_translation" "Desk.put_translation" s_Desk_put_translation) (c1 : Met W 6 C "refusal_of" (spRefusal W C)) (c2 : Met W 1 C "standing" (spStanding W C)) : Met W 7 C "put_translation" (spPut W C) := by
  refine met T.cl a sc_Desk_put_translation (fun _ _ _ _ _ _ us hl => match us, hl with | [_, _, _, _], _ => rfl) (fun vs H Q E h => by obtain ⟨p, ds, dt, r, t, kc, S, D, k, i, w, rfl, _⟩ := h; rfl) (fun f cdv A outer s H vs Q E hr h => ?_)
  obtain ⟨p, ds, dt, r, tr, kc, S, D, k, i, w, rfl, hd, hk, hw, hl, hS, hDl, q1, q2⟩ := h
  obtain ⟨dx, fs, hp, fo⟩ := hd.ob
  have hu := hr.units
  refine ⟨_, pss_cons (ps_set (i := 4) sc_Desk_put_translation.nd rfl (.inl rfl) (pe_tup (pa_cons (pe_callTy call_tuple_of (by rfl) TL.tuple PyProof.Rows.boot_tuple (pa_cons (pv 1) pa_nil)) (pa_cons (pv 2) pa_nil))))
    (pss_cons (ps_set (i := 5) sc_Desk_put_translation.nd rfl (.inl rfl) (pe_mt c1 hr (pv 0) (pa_cons (pv 4) (pa_cons (pv 3) pa_nil))))
    (pss_cons (ps_if (pt_cmp (pc_notN (pv 5))) (pss_one (ps_ret (pe_lst (pa_cons (pv 5) pa_nil)))) pss_nil)
    (pss_cons (ps_expr (pe_npop2 hu (pe_fld (pv 0) rfl) (pv 4) pe_non ⟨rfl, rfl, rfl, rfl⟩))
    (pss_cons (ps_nput hu (pe_fld (pv 0) rfl) (pv 4) (pe_callTy call_tuple_of (by rfl) TL.tuple PyProof.Rows.boot_tuple (pa_cons (pv 3) pa_nil)) rfl)
    (pss_one (ps_ret (pe_mt0 c2 hr (pv 0)))))))), ?_⟩
  refine q_asgN (en_key (K := W.K) (ep_tuple1 (K := W.K) rfl hk) (ev_var rfl)) fun b H1 e1 hb => ?_
  have mo : ∀ x, x ∈ ownMeths → fs.lookup x = none := fo.m
  refine ⟨_, rfl, p, dx, fs, rfl, e1 _ _ hp, mo _ (by decide +kernel), _, rfl, _, rfl, p, ds, dt, b, tr, kc, S, D, k, i, w, rfl, hd.ex e1, hb, ex_l e1 hw, hl, hS, fun H2 e2 => ?_⟩
  have e02 := e1.trans e2
  cases hrf : doneRefusal S k i w with
  | some z =>
    refine q_when (et_notI (o := some z) (ev_var rfl)) (fun b3 H3 e3 => s_retL (xs := [.int z]) (el_lst (ea_cons (ev_var (v := .int z) rfl) ea_nil) (by simp)) fun t H4 ht e4 h4 => ?_) (fun b3 => by cases b3)
    exact q1 z hrf t H4 (fresh_back (e02.trans e3) ht) ((e02.trans e3).trans e4) h4
  | none =>
    refine q_when (et_notI (o := none) (ev_var rfl)) (fun b3 => by cases b3) (fun b3 H3 e3 => ?_)
    have e03 := e02.trans e3
    have d3 := hd.ex e03
    -- behind the pop
    have fin : ∀ (H4 : Hp) (dx' : Addr), NEx none H H4 → (∀ c zs, H3 c = some (.tup zs) → H4 c = some (.tup zs)) → H4 p = some (.ins C dx fs) → SqL W.K H4 tr (iv w) → SD W FSpot H4 ds S → SD W FSpot H4 dt (dropA D (k, i)) → KAt W H4 kc →
        ∀ (σ : L2.St), σ = [some (.ref p), some (.ref r), some (vn i), some (.ref tr), some (.ref b), some .non] →
        tSeq (sNPut W.P W.w (tFld W.K (tVar 0) "translations") (tVar 4) (tCB (rTupOf W.K) (tCons (tVar 3) tNil))) (tRet (tMeth C "standing" (spStanding W C) [] E0 (tVar 0) tNil)) { nx := fun _ H' => Q .non H', rt := Q } σ H4 := by
      intro H4 dx' n4 ht4 hp4 hw4 s4 t4 k4 σ hσ
      subst hσ
      have hnt4 : NT H4 (FSpot.ek (k, i)) (.ref b) := NT.keeps ht4 _ _ (nt_ex (e2.trans e3) hb)
      refine q_sput (W := W) (F := FSpot) (k := (k, i)) (s := w) (K := W.K) (ep_tuple1 (K := W.K) rfl hw4) (ev_fld (ev_var rfl) hp4 T.cl T.nT fo.t) (en_var rfl hnt4) t4 (by have := dropA_len (k, i) D; omega) fun H5 o e5 t5 => ?_
      rw [putA_new _ (valA_drop D)] at t5
      obtain ⟨φ5, hx5⟩ := (t4.ex e5).isExt
      have hp5 : upd H5 dt o p = some (.ins C dx fs) := by
        rw [upd_ne (ne_of (e5 _ _ hp4) hx5 (fun z => nomatch z))]
        exact e5 _ _ hp4
      have d5 : DeskAt W C (upd H5 dt o) p ds dt kc S (dropA D (k, i) ++ [((k, i), w)]) := ⟨⟨dx, fs, hp5, fo⟩, (s4.ex e5).upd hx5 (fun xs z => nomatch z) hd.ne, t5, hd.ne, (k4.ex e5).upd hx5 (fun xs z => nomatch z) (fun xs z => nomatch z) hd.kt, hd.ks, hd.kt⟩
      refine ⟨_, rfl, p, dx, fs, rfl, hp5, mo _ (by decide +kernel), p, ds, dt, kc, S, _, rfl, d5, fun t H6 ht6 e6 h6 => ?_⟩
      have n6 : NEx none H H6 := ((n4.trans (NEx.of_ex e5)).trans (NEx.upd hx5)).trans (NEx.of_ex e6)
      exact q2 hrf t H6 (((n4.trans (NEx.of_ex e5)).trans (NEx.upd (o := o) hx5)).free ht6) n6 (d5.ex e6) h6
    refine q_spop (W := W) (F := FSpot) (k := (k, i)) (ev_fld (ev_var rfl) (e03 _ _ hp) T.cl T.nT fo.t) (en_var rfl (nt_ex (e2.trans e3) hb)) ev_c d3.t (fun hv H4 o e4 t4 => ?_) (fun hv H4 e4 => ?_)
    · obtain ⟨φ4, hx4⟩ := (d3.t.ex e4).isExt
      have hp4 : upd H4 dt o p = some (.ins C dx fs) := by
        rw [upd_ne (ne_of ((e03.trans e4) _ _ hp) hx4 (fun z => nomatch z))]
        exact (e03.trans e4) _ _ hp
      have n4 : NEx none H (upd H4 dt o) := (NEx.of_ex (e03.trans e4)).trans (NEx.upd hx4)
      exact fin _ dx n4 (fun c zs hc => by
        rw [upd_ne (ne_of (e4 _ _ hc) hx4 (fun z => nomatch z))]
        exact e4 _ _ hc) hp4 (n4.sql hw (fun z => nomatch z)) ((d3.s.ex e4).upd hx4 (fun xs z => nomatch z) hd.ne) t4 ((d3.k.ex e4).upd hx4 (fun xs z => nomatch z) (fun xs z => nomatch z) hd.kt) _ rfl
    · refine fin H4 dx (NEx.of_ex (e03.trans e4)) (fun c zs hc => e4 _ _ hc) ((e03.trans e4) _ _ hp) (ex_l (e03.trans e4) hw) (d3.s.ex e4) ?_ (d3.k.ex e4) _ rfl
      rw [dropA_none hv]
      exact d3.t.ex e4
end Fo

set_option Elab.async false
set_option linter.all false
set_option maxRecDepth 100000
set_option maxHeartbeats 2000000
namespace Fo
open PySem PySem.Spec PyProof.Rows L2 Evl
theorem firstDone_snoc (S : Tab) : ∀ (l : Tab) (x : (List Nat × Nat) × List Nat) (acc : List ((List Nat × List Nat) × List Nat)), firstDone S (l ++ [x]) acc = if (valA (firstDone S l acc) (x.1.1, (valA S x.1).getD [])).isSome = true then firstDone S l acc else firstDone S l acc ++ [((x.1.1, (valA S x.1).getD []), x.2)]
  | [], x, acc => rfl
  | y :: l, x, acc => firstDone_snoc S l x _
theorem firstDone_len (S : Tab) : ∀ (l : Tab) (acc : List ((List Nat × List Nat) × List Nat)), (firstDone S l acc).length ≤ acc.length + l.length
  | [], acc => Nat.le_refl _
  | x :: l, acc => by
    show (firstDone S l _).length ≤ acc.length + (l.length + 1)
    have := firstDone_len S l (if (valA acc (x.1.1, (valA S x.1).getD [])).isSome = true then acc else acc ++ [((x.1.1, (valA S x.1).getD []), x.2)])
    split at this
    · next h => rw [if_pos h]; omega
    · next h =>
      rw [if_neg h]
      rw [List.length_append] at this
      simp at this
      omega
/-- (spot[0], a text) -/
theorem en_text {K : PySem.W.Frag} {σ : L2.St} {H : Hp} {ta tb : TE} {k s : List Nat} (h1 : EvP K ta σ H (iv k)) (h2 : EvP K tb σ H (iv s)) : EvN (FText.ek (k, s)) (tTup (tCons ta (tCons tb tNil))) σ H := fun H1 e Q q =>
  h1 H1 e _ fun a H2 e2 ha => h2 H2 (e.trans e2) _ fun c H3 e3 hc => ⟨by show 2 ≤ sizeLine; decide, fun p hp => q p _ ((e2.trans e3).trans (Ex.new hp)) (nt_text upd_same ((Ex.new hp) _ _ (e3 _ _ ha)) ((Ex.new hp) _ _ hc))⟩
theorem ep_spot0 {K : PySem.W.Frag} {σ : L2.St} {H : Hp} {j : Nat} {b : Addr} {k : List Nat} {i : Nat} (hσ : σ[j]? = some (some (.ref b))) (h : NT H (FSpot.ek (k, i)) (.ref b)) : EvP K (tOp (rIxT K) (tVar j) (tC (.int 0))) σ H (iv k) := by
  obtain ⟨ka, hb, hka⟩ := spot_nt h
  exact fun H1 e Q q => ev_op (H := H) (ev_var hσ) ev_c (rv_ixT (K := K) (i := 0) (st_of hb) rfl) H1 e _ fun H2 e2 => q ka H2 e2 ((e.trans e2) _ _ hka)
theorem ep_var {K : PySem.W.Frag} {σ : L2.St} {H : Hp} {j : Nat} {b : Addr} {xs : List V} (hσ : σ[j]? = some (some (.ref b))) (h : H b = some (.tup xs)) : EvP K (tVar j) σ H xs := fun H1 e Q q => ⟨_, hσ, q b H1 (Ex.refl H1) (e _ _ h)⟩
def spFirst (W : Wd) (C : Addr) : Sp := fun vs H Q _ => ∃ (a ds dt : Addr) (kc : KC) (S D : Tab), vs = [.ref a] ∧ DeskAt W C H a ds dt kc S D ∧ (∀ x ∈ D, (valA S x.1).isSome = true) ∧ D.length ≤ 5000 ∧ RetD W FText (firstDone S D []) H Q
theorem c_first {W : Wd} {C : Addr} (T : TxK W.K W.mg C) (a : MAt W.K C "first_done" "Desk.first_done" s_Desk_first_done) : Met W 1 C "first_done" (spFirst W C) := by
  refine met T.cl a sc_Desk_first_done (fun _ _ _ _ _ _ us hl => match us, hl with | [_], _ => rfl) (fun vs H Q E h => by obtain ⟨p, ds, dt, kc, S, D, rfl, _⟩ := h; rfl) (fun f cdv A outer s H vs Q E hr h => ?_)
  obtain ⟨p, ds, dt, kc, S, D, rfl, hd, hDS, hDl, q⟩ := h
  obtain ⟨dx, fs, hp, fo⟩ := hd.ob
  have hu := hr.units
  refine ⟨_, pss_cons (ps_set (i := 1) sc_Desk_first_done.nd rfl (.inl rfl) pe_nnew)
    (pss_cons (ps_lock (ps_for PassesOwn.never rfl (pi_itemsN (pe_fld (pv 0) rfl)) (pg_tup rfl (pgs_cons (pg_name (i := 2) sc_Desk_first_done.nd rfl (.inl rfl)) (pgs_cons (pg_name (i := 3) sc_Desk_first_done.nd rfl (.inl rfl)) pgs_nil)))
      (pss_one (ps_expr (pe_nsetd hu (pv 1) (pe_tup (pa_cons (pe_ix ix_tup (pv 2) pe_int (fun _ _ => rfl)) (pa_cons (pe_nget hu (pe_fld (pv 0) rfl) (pv 2) (fun _ _ => rfl)) pa_nil))) (pv 3) ⟨rfl, rfl, rfl, rfl⟩)))))
    (pss_one (ps_ret (pv 1)))), ?_⟩
  refine q_snew (W := W) FText fun F o hF SF => ?_
  have e1 : Ex H (upd H F o) := Ex.new hF
  have T1 := hd.t.ex e1
  obtain ⟨φt, hxt⟩ := hd.t.isExt
  obtain ⟨φs, hxs⟩ := hd.s.isExt
  have hFt : F ≠ dt := Ne.symm (ne_of_none hxt hF)
  have hFs : F ≠ ds := Ne.symm (ne_of_none hxs hF)
  have hpt : p ≠ dt := ne_of hp hxt (fun z => nomatch z)
  refine s_forI (W := W) (F := FSpot) (K := W.K) (D := { nx := tRet (tVar 1) { nx := fun _ H' => Q .non H', rt := Q }, rt := Q, bk := _, ct := _ }) (l := D) (j1 := 2) (j2 := 3) (td := tFld W.K (tVar 0) "translations") (fun H2 c2 => ev_fld (ev_var rfl) (c2 _ _ (e1 _ _ hp) hpt) T.cl T.nT fo.t) T1
    (fun i σ' H' => ∃ v2 v3, σ' = [some (.ref p), some (.ref F), v2, v3] ∧ Ch dt H H' ∧ SD W FText H' F (firstDone S (D.take i) []))
    (fun H2 c2 _ => ⟨none, none, rfl, (Ch.of_ex e1).trans c2, ?_⟩) ?_ ?_
  · exact SF.keeps (fun b xs h => c2 _ _ h (ne_of h (e1 _ _ hxt) (fun z => nomatch z))) fun o h => c2 _ _ h hFt
  · rintro i ⟨k, n⟩ tv σ' H' hi ⟨v2, v3, rfl, c2, SF'⟩ RS ⟨ol, u, hlk⟩ b sa H2 e2 hnt hsa D' hD'
    have hp2 : H2 p = some (.ins C dx fs) := e2 _ _ (c2 _ _ hp hpt)
    have hin := hDS _ (List.mem_of_getElem? hi)
    obtain ⟨sv, hsv⟩ := Option.isSome_iff_exists.mp hin
    have RS1 : SR W FSpot H' ds S := hd.s.r.keeps (H' := H') (fun b xs h => c2 b _ h (ne_of h hxt (fun z => nomatch z))) fun o h => c2 ds _ h hd.ne
    have RS2 : SR W FSpot H2 ds S := RS1.ex e2
    have hl5 : (firstDone S (D.take i) []).length < 100000 := by
      have := firstDone_len S (D.take i) []
      rw [List.length_nil, List.length_take] at this
      omega
    have step := firstDone_snoc S (D.take i) ((k, n), tv) []
    rw [← take_more hi] at step
    have hg : (valA S ((k, n) : List Nat × Nat)).getD [] = sv := by rw [hsv]; rfl
    have step' : firstDone S (D.take (i + 1)) [] = if (valA (firstDone S (D.take i) []) (k, sv)).isSome = true then firstDone S (D.take i) [] else firstDone S (D.take i) [] ++ [((k, sv), tv)] := by
      rw [step]
      show (if (valA (firstDone S (D.take i) []) (k, (valA S (k, n)).getD [])).isSome = true then _ else _ ++ [((k, (valA S (k, n)).getD []), tv)]) = _
      rw [hg]
    refine s_ssetd (W := W) (F := FText) (k := (k, sv)) (s := tv) (ev_var rfl) (en_text (K := W.K) (ep_spot0 rfl hnt) (ep_sget (W := W) (F := FSpot) (k := (k, n)) (K := W.K) (ev_fld (ev_var rfl) hp2 T.cl T.nS fo.s) (en_var rfl hnt) RS2 hsv)) (fun H3 e3 => ⟨sa, ev_var rfl, e3 _ _ hsa⟩) (SF'.ex e2) hl5 (fun hv H3 e3 => ?_) (fun hv H3 o3 e3 S3 => ?_)
    · rw [if_pos hv] at step'
      refine hD' _ _ ⟨some (.ref b), some (.ref sa), rfl, c2.trans (Ch.of_ex (e2.trans e3)), ?_⟩ ?_ fun c zs hc => (e2.trans e3) _ _ hc
      · rw [step']
        exact SF'.ex (e2.trans e3)
      · exact ((e2.trans e3) _ _ hlk).trans hlk.symm
    · rw [hv] at step'
      rw [if_neg (by decide)] at step'
      rw [putA_new _ hv, ← step'] at S3
      obtain ⟨φF, hxF⟩ := (SF'.ex (e2.trans e3)).isExt
      refine hD' _ _ ⟨some (.ref b), some (.ref sa), rfl, fun c oc hc nc => ?_, S3⟩ ?_ fun c zs hc => ?_
      · rw [upd_ne (ne_of_none hc hF)]
        exact (e2.trans e3) _ _ (c2 c oc hc nc)
      · rw [upd_ne (Ne.symm hFt)]
        exact ((e2.trans e3) _ _ hlk).trans hlk.symm
      · rw [upd_ne (ne_of ((e2.trans e3) _ _ hc) hxF (fun z => nomatch z))]
        exact (e2.trans e3) _ _ hc
  · rintro σ' H' od ⟨v2, v3, rfl, c2, SF'⟩ ho ⟨o1, u1, hfz⟩ SDn
    rw [List.take_length] at SF'
    have ho' : H dt = some od := by
      rw [upd_ne (Ne.symm hFt)] at ho
      exact ho
    have hex : Ex H (upd H' dt od) := fun b ob hb => by
      by_cases hbd : b = dt
      · rw [hbd, upd_same]
        rw [hbd] at hb
        exact ho'.symm.trans hb
      · rw [upd_ne hbd]
        exact c2 b ob hb hbd
    refine s_ret (ev_var rfl) fun H2 e2 => q F H2 hF (hex.trans e2) (SD.ex e2 ?_)
    obtain ⟨φF, hxF⟩ := SF'.isExt
    refine SF'.keeps (fun b xs h => ?_) fun o h => ?_
    · rw [upd_ne (ne_of h hfz (fun z => nomatch z))]
      exact h
    · rw [upd_ne hFt]
      exact h
end Fo

set_option Elab.async false
set_option linter.all false
set_option maxRecDepth 100000
set_option maxHeartbeats 2000000
namespace Fo
open PySem PySem.Spec PyProof.Rows L2 Evl
theorem bo_more {S D N : Tab} {i : Nat} {x : (List Nat × Nat) × List Nat} (h : N[i]? = some x) : broughtOver S D (N.take (i + 1)) = broughtOver S D (N.take i) ++ ((gets S D x).map fun t => (x.1, t)).toList := by
  unfold broughtOver
  rw [take_more h, List.filterMap_append]
  congr 1
theorem bo_key {S D N : Tab} {x : (List Nat × Nat) × List Nat} (h : x ∈ broughtOver S D N) : x.1 ∈ N.map (·.1) := by
  obtain ⟨y, hy, e⟩ := List.mem_filterMap.mp h
  cases hg : gets S D y with
  | none =>
    rw [hg] at e
    cases e
  | some t =>
    rw [hg] at e
    have e' : some (y.1, t) = some x := e
    injection e' with e'
    rw [← e']
    exact List.mem_map.mpr ⟨y, hy, rfl⟩
theorem bo_len (S D N : Tab) : (broughtOver S D N).length ≤ N.length := List.length_filterMap_le _ _
theorem bo_fresh {S D N : Tab} (nd : (N.map (·.1)).Nodup) {i : Nat} {x : (List Nat × Nat) × List Nat} (h : N[i]? = some x) : valA (broughtOver S D (N.take i)) x.1 = none := by
  refine valA_none fun y hy z => ?_
  have hk := bo_key hy
  have e2 : N = N.take i ++ x :: N.drop (i + 1) := by rw [← drop_more h, List.take_append_drop]
  rw [e2, List.map_append, List.map_cons] at nd
  exact (List.nodup_append.mp nd).2.2 _ hk _ (List.mem_cons_self ..) z
def spBrought (W : Wd) (C : Addr) : Sp := fun vs H Q _ => ∃ (a ds dt dn : Addr) (kc : KC) (S D N : Tab), vs = [.ref a, .ref dn] ∧ DeskAt W C H a ds dt kc S D ∧ SD W FSpot H dn N ∧ dn ≠ ds ∧ dn ≠ dt ∧ (∀ x ∈ D, (valA S x.1).isSome = true) ∧ D.length ≤ 5000 ∧ N.length ≤ 5000 ∧ RetD W FSpot (broughtOver S D N) H Q
theorem c_brought {W : Wd} {C : Addr} (T : TxK W.K W.mg C) (a : MAt W.K C "brought_over" "Desk.brought_over" s_Desk_brought_over) (c1 : Met W 1 C "first_done" (spFirst W C)) : Met W 2 C "brought_over" (spBrought W C) := by
  refine met T.cl a sc_Desk_brought_over (fun _ _ _ _ _ _ us hl => match us, hl with | [_, _], _ => rfl) (fun vs H Q E h => by obtain ⟨p, ds, dt, dn, kc, S, D, N, rfl, _⟩ := h; rfl) (fun f cdv A outer s H vs Q E hr h => ?_)
  obtain ⟨p, ds, dt, dn, kc, S, D, N, rfl, hd, hN, hns, hnt, hDS, hDl, hNl, q⟩ := h
  obtain ⟨dx, fs, hp, fo⟩ := hd.ob
  have hu := hr.units
  refine ⟨_, pss_cons (ps_set (i := 2) sc_Desk_brought_over.nd rfl (.inl rfl) (pe_mt0 c1 hr (pv 0)))
    (pss_cons (ps_set (i := 3) sc_Desk_brought_over.nd rfl (.inl rfl) pe_nnew)
    (pss_cons (ps_lock (ps_for PassesOwn.never rfl (pi_itemsN (pv 1)) (pg_tup rfl (pgs_cons (pg_name (i := 4) sc_Desk_brought_over.nd rfl (.inl rfl)) (pgs_cons (pg_name (i := 5) sc_Desk_brought_over.nd rfl (.inl rfl)) pgs_nil)))
      (pss_cons (ps_set (i := 6) sc_Desk_brought_over.nd rfl (.inl rfl) (pe_tup (pa_cons (pe_ix ix_tup (pv 4) pe_int (fun _ _ => rfl)) (pa_cons (pv 5) pa_nil))))
      (pss_one (ps_if (PW.pt (pw_and (pt_cmp (pc_nin hu (pv 4) (pe_fld (pv 0) rfl))) (pw_and1 (pt_cmpR (op_eqD hr.units) (pe_nget hu (pe_fld (pv 0) rfl) (pv 4) (fun _ _ => rfl)) (pv 5) (nomark _)))))
        (pss_one (ps_nput hu (pv 3) (pv 4) (pe_nget hu (pe_fld (pv 0) rfl) (pv 4) (fun _ _ => rfl)) rfl))
        (pss_one (ps_if (pt_cmp (pc_nin hu (pv 6) (pv 2))) (pss_one (ps_nput hu (pv 3) (pv 4) (pe_nget hu (pv 2) (pv 6) (fun _ _ => rfl)) rfl)) pss_nil)))))))
    (pss_one (ps_ret (pv 3))))), ?_⟩
  have mo : ∀ x, x ∈ ownMeths → fs.lookup x = none := fo.m
  refine ⟨_, rfl, p, dx, fs, rfl, hp, mo _ (by decide +kernel), p, ds, dt, kc, S, D, rfl, hd, hDS, hDl, fun F H1 hF e1 SF => ?_⟩
  refine q_snew (W := W) FSpot fun R o hR SR0 => ?_
  have e2 : Ex H1 (upd H1 R o) := Ex.new hR
  have e02 : Ex H (upd H1 R o) := e1.trans e2
  have N2 := hN.ex e02
  obtain ⟨φn, hxn⟩ := hN.isExt
  obtain ⟨φt, hxt⟩ := hd.t.isExt
  obtain ⟨φs, hxs⟩ := hd.s.isExt
  obtain ⟨φf, hxf⟩ := SF.isExt
  have hRn : R ≠ dn := Ne.symm (ne_of_none (e1 _ _ hxn) hR)
  have hRF : R ≠ F := Ne.symm (ne_of_none hxf hR)
  have hRt : R ≠ dt := Ne.symm (ne_of_none (e1 _ _ hxt) hR)
  have hRs : R ≠ ds := Ne.symm (ne_of_none (e1 _ _ hxs) hR)
  have hFn : F ≠ dn := Ne.symm (ne_of_none hxn hF)
  have hpn : p ≠ dn := ne_of hp hxn (fun z => nomatch z)
  have hR0 : H R = none := fresh_back e1 hR
  have nd : (N.map (·.1)).Nodup := hN.nodup
  refine s_forI (W := W) (F := FSpot) (K := W.K) (D := { nx := tRet (tVar 3) { nx := fun _ H' => Q .non H', rt := Q }, rt := Q, bk := _, ct := _ }) (l := N) (j1 := 4) (j2 := 5) (td := tVar 1) (fun H2 c2 => ev_var rfl) N2
    (fun i σ' H' => ∃ v4 v5 v6, σ' = [some (.ref p), some (.ref dn), some (.ref F), some (.ref R), v4, v5, v6] ∧ Ch dn H1 H' ∧ SD W FSpot H' R (broughtOver S D (N.take i)))
    (fun H2 c2 _ => ⟨none, none, none, rfl, (Ch.of_ex e2).trans c2, ?_⟩) ?_ ?_
  · exact SR0.keeps (H' := H2) (fun b xs h => c2 b _ h (ne_of h (e02 _ _ hxn) (fun z => nomatch z))) fun o h => c2 R _ h hRn
  · rintro i ⟨k, n⟩ sv σ' H' hi ⟨v4, v5, v6, rfl, c2, SB⟩ _ ⟨ol, u, hlk⟩ b sa H2 e3 hnb hsa D' hD'
    have tupc : ∀ c zs, H1 c = some (.tup zs) → H' c = some (.tup zs) := fun c zs h => c2 c _ h (ne_of h (e1 _ _ hxn) (fun z => nomatch z))
    have RS : SR W FSpot H' ds S := (hd.s.ex e1).r.keeps (H' := H') tupc fun o h => c2 ds _ h (Ne.symm hns)
    have RT : SR W FSpot H' dt D := (hd.t.ex e1).r.keeps (H' := H') tupc fun o h => c2 dt _ h (Ne.symm hnt)
    have RF : SR W FText H' F (firstDone S D []) := SF.r.keeps (H' := H') tupc fun o h => c2 F _ h hFn
    have hp2 : H2 p = some (.ins C dx fs) := e3 _ _ (c2 _ _ (e1 _ _ hp) hpn)
    have fresh := bo_fresh (S := S) (D := D) nd hi
    have more := bo_more (S := S) (D := D) hi
    have hbl : (broughtOver S D (N.take i)).length < 100000 := by
      have := bo_len S D (N.take i)
      rw [List.length_take] at this
      omega
    refine q_asgN (en_text (K := W.K) (ep_spot0 rfl hnb) (ep_var rfl hsa)) fun tk H3 e4 htk => ?_
    have e34 := e3.trans e4
    have hnb3 := nt_ex e4 hnb
    -- what follows a store
    have put : ∀ (tv : List Nat) (H4 : Hp) (o4 : HO) (hx4 : ∃ φ, H4 R = some (.ext φ)), Ex H' H4 → gets S D ((k, n), sv) = some tv → SD W FSpot (upd H4 R o4) R (putA (broughtOver S D (N.take i)) (k, n) tv) → D'.nx [some (.ref p), some (.ref dn), some (.ref F), some (.ref R), some (.ref b), some (.ref sa), some (.ref tk)] (upd H4 R o4) := by
      intro tv H4 o4 hx4 e5 hg S4
      obtain ⟨φ4, hx4⟩ := hx4
      rw [putA_new _ fresh] at S4
      rw [hg] at more
      have more' : broughtOver S D (N.take (i + 1)) = broughtOver S D (N.take i) ++ [((k, n), tv)] := more
      rw [← more'] at S4
      refine hD' _ _ ⟨_, _, _, rfl, fun c oc hc nc => ?_, S4⟩ ?_ fun c zs hc => ?_
      · rw [upd_ne (ne_of_none hc hR)]
        exact e5 _ _ (c2 c oc hc nc)
      · rw [upd_ne (Ne.symm hRn)]
        exact (e5 _ _ hlk).trans hlk.symm
      · rw [upd_ne (ne_of (e5 _ _ hc) hx4 (fun z => nomatch z))]
        exact e5 _ _ hc
    have eqt : (valA D ((k, n) : List Nat × Nat)).isSome = true → Ev (tOp (rEqD W.K) (tNGet W.P W.w (tFld W.K (tVar 0) "sentences") (tVar 4)) (tVar 5)) [some (.ref p), some (.ref dn), some (.ref F), some (.ref R), some (.ref b), some (.ref sa), some (.ref tk)] H3 (.bl (decide (valA S ((k, n) : List Nat × Nat) = some sv))) := by
      intro hin
      obtain ⟨tv, htv⟩ := Option.isSome_iff_exists.mp hin
      obtain ⟨s', hs'⟩ := Option.isSome_iff_exists.mp (hDS _ (valA_some htv))
      have hs'' : valA S ((k, n) : List Nat × Nat) = some s' := hs'
      refine fun H4 e5 Q q => ep_sget (W := W) (F := FSpot) (k := (k, n)) (K := W.K) (ev_fld (ev_var rfl) (e4 _ _ hp2) T.cl T.nS fo.s) (en_var rfl hnb3) (RS.ex e34) hs'' H4 e5 _ fun sb H5 e6 hsb => ⟨_, rfl, pd s', pd sv, dp_pd (st_of hsb), dp_pd (st_of (((e4.trans e5).trans e6) _ _ hsa)), shaped_pd _, shaped_pd _, ?_⟩
      rw [eqv_pd, show decide (s' = sv) = decide (valA S ((k, n) : List Nat × Nat) = some sv) from decide_eq_decide.mpr ⟨fun z => by rw [hs'', z], fun z => by rw [hs''] at z; injection z⟩]
      exact q H5 e6
    refine s_if (et_and (et_B (ev_sin (W := W) (F := FSpot) (k := (k, n)) (en_var rfl hnb3) (ev_fld (ev_var rfl) (e4 _ _ hp2) T.cl T.nT fo.t) (RT.ex e34))) fun hin => et_test (eqt hin)) (fun b5 H4 e5 => ?_) (fun b5 H4 e5 => ?_)
    · have e35 := e34.trans e5
      have b5' := b5
      rw [Bool.and_eq_true] at b5'
      obtain ⟨tv, htv⟩ := Option.isSome_iff_exists.mp b5'.1
      have hg : gets S D ((k, n), sv) = some tv := by
        show (if ((valA D (k, n)).isSome && decide (valA S (k, n) = some sv)) = true then valA D (k, n) else _) = _
        rw [if_pos b5, htv]
      refine s_sput (W := W) (F := FSpot) (k := (k, n)) (s := tv) (K := W.K) (ep_sget (W := W) (F := FSpot) (k := (k, n)) (K := W.K) (ev_fld (ev_var rfl) (e5 _ _ (e4 _ _ hp2)) T.cl T.nT fo.t) (en_var rfl (nt_ex e5 hnb3)) (RT.ex e35) htv) (ev_var rfl) (en_var rfl (nt_ex e5 hnb3)) (SB.ex e35) hbl fun H5 o5 e6 S5 => put tv H5 o5 (SB.ex (e35.trans e6)).isExt (e35.trans e6) hg S5
    · have e35 := e34.trans e5
      have hg0 : gets S D ((k, n), sv) = valA (firstDone S D []) (k, sv) := by
        show (if ((valA D (k, n)).isSome && decide (valA S (k, n) = some sv)) = true then _ else valA (firstDone S D []) (k, sv)) = _
        rw [if_neg (by rw [b5]; decide)]
      refine s_when (et_B (ev_sin (W := W) (F := FText) (k := (k, sv)) (en_var rfl (nt_ex e5 htk)) (ev_var rfl) (RF.ex e35))) (fun b6 H5 e6 => ?_) (fun b6 H5 e6 => ?_)
      · have e36 := e35.trans e6
        obtain ⟨tv, htv⟩ := Option.isSome_iff_exists.mp b6
        refine s_sput (W := W) (F := FSpot) (k := (k, n)) (s := tv) (K := W.K) (ep_sget (W := W) (F := FText) (k := (k, sv)) (K := W.K) (ev_var rfl) (en_var rfl (nt_ex (e5.trans e6) htk)) (RF.ex e36) htv) (ev_var rfl) (en_var rfl (nt_ex (e5.trans e6) hnb3)) (SB.ex e36) hbl fun H6 o6 e7 S6 => put tv H6 o6 (SB.ex (e36.trans e7)).isExt (e36.trans e7) (hg0.trans htv) S6
      · have e36 := e35.trans e6
        have hn : valA (firstDone S D []) (k, sv) = none := by
          cases hv : valA (firstDone S D []) (k, sv) with
          | none => rfl
          | some t =>
            rw [hv] at b6
            cases b6
        rw [hg0, hn] at more
        have more' : broughtOver S D (N.take (i + 1)) = broughtOver S D (N.take i) ++ [] := more
        rw [List.append_nil] at more'
        refine hD' _ _ ⟨_, _, _, rfl, c2.trans (Ch.of_ex e36), ?_⟩ ((e36 _ _ hlk).trans hlk.symm) fun c zs hc => e36 _ _ hc
        rw [more']
        exact SB.ex e36
  · rintro σ' H' od ⟨v4, v5, v6, rfl, c2, SB⟩ ho ⟨o1, u1, hfz⟩ SDn
    rw [List.take_length] at SB
    have ho' : H1 dn = some od := by
      rw [upd_ne (Ne.symm hRn)] at ho
      exact ho
    have hex : Ex H1 (upd H' dn od) := fun b ob hb => by
      by_cases hbd : b = dn
      · rw [hbd, upd_same]
        rw [hbd] at hb
        exact ho'.symm.trans hb
      · rw [upd_ne hbd]
        exact c2 b ob hb hbd
    refine s_ret (ev_var rfl) fun H2 e3 => q R H2 hR0 ((e1.trans hex).trans e3) (SD.ex e3 ?_)
    refine SB.keeps (fun b xs h => ?_) fun o h => ?_
    · rw [upd_ne (ne_of h hfz (fun z => nomatch z))]
      exact h
    · rw [upd_ne hRn]
      exact h
end Fo

set_option Elab.async false
set_option linter.all false
set_option maxRecDepth 100000
set_option maxHeartbeats 2000000
namespace Fo
open PySem PySem.Spec PyProof.Rows L2 Evl
/-! ### an attribute set anew -/
theorem putF_len {f : Str} {v x : V} : ∀ {fs : List (Str × V)}, fs.lookup f = some x → (putF f v fs).length = fs.length
  | [], h => by cases h
  | (g, y) :: r, h => by
    by_cases e : g = f
    · rw [e, put_here]
      rfl
    · rw [put_past e]
      rw [lk_past (by simpa using fun z => e z.symm)] at h
      show (putF f v r).length + 1 = r.length + 1
      rw [putF_len h]
theorem put_get {f : Str} {v : V} {fs : List (Str × V)} : (putF f v fs).lookup f = some v := by rw [lookup_putF, if_pos rfl]
theorem put_else {f g : Str} {v : V} {fs : List (Str × V)} (h : ¬ g = f) : (putF f v fs).lookup g = fs.lookup g := by rw [lookup_putF, if_neg h]
theorem FOk.putT {fs : List (Str × V)} {kc : KC} {ds dt : Addr} (h : FOk fs kc ds dt) (d : Addr) : FOk (putF "translations" (.ref d) fs) kc ds d where
  l := (put_else (by decide +kernel)).trans h.l
  x := (put_else (by decide +kernel)).trans h.x
  s := (put_else (by decide +kernel)).trans h.s
  t := put_get
  m := fun x hx => (put_else (fun z => by rw [z] at hx; revert hx; decide +kernel)).trans (h.m x hx)
  n := by rw [putF_len h.t]; exact h.n
theorem FOk.putS {fs : List (Str × V)} {kc : KC} {ds dt : Addr} (h : FOk fs kc ds dt) (d : Addr) : FOk (putF "sentences" (.ref d) fs) kc d dt where
  l := (put_else (by decide +kernel)).trans h.l
  x := (put_else (by decide +kernel)).trans h.x
  s := put_get
  t := (put_else (by decide +kernel)).trans h.t
  m := fun x hx => (put_else (fun z => by rw [z] at hx; revert hx; decide +kernel)).trans (h.m x hx)
  n := by rw [putF_len h.s]; exact h.n
theorem FOk.putL {fs : List (Str × V)} {kc : KC} {ds dt : Addr} (h : FOk fs kc ds dt) (L : Addr) (ls : List (List Nat)) (N : Addr → Prop) : FOk (putF "lines" (.ref L) fs) ⟨L, kc.tx, ls, N⟩ ds dt where
  l := put_get
  x := (put_else (by decide +kernel)).trans h.x
  s := (put_else (by decide +kernel)).trans h.s
  t := (put_else (by decide +kernel)).trans h.t
  m := fun x hx => (put_else (fun z => by rw [z] at hx; revert hx; decide +kernel)).trans (h.m x hx)
  n := by rw [putF_len h.l]; exact h.n
theorem FOk.putX {fs : List (Str × V)} {kc : KC} {ds dt : Addr} (h : FOk fs kc ds dt) (X : Addr) : FOk (putF "texts" (.ref X) fs) ⟨kc.L, X, kc.ls, kc.N⟩ ds dt where
  l := (put_else (by decide +kernel)).trans h.l
  x := put_get
  s := (put_else (by decide +kernel)).trans h.s
  t := (put_else (by decide +kernel)).trans h.t
  m := fun x hx => (put_else (fun z => by rw [z] at hx; revert hx; decide +kernel)).trans (h.m x hx)
  n := by rw [putF_len h.x]; exact h.n
theorem total_filter (p : List Nat → Bool) : ∀ ls : List (List Nat), total (ls.filter p) ≤ total ls
  | [] => Nat.le_refl _
  | l :: ls => by
    have ih := total_filter p ls
    rw [List.filter_cons]
    split
    · show l.length + total (ls.filter p) ≤ l.length + total ls
      omega
    · show total (ls.filter p) ≤ l.length + total ls
      omega
theorem total_lines : ∀ (w line : List Nat), total (linesGo line w) ≤ line.length + w.length
  | [], line => by
    show line.length + 0 ≤ line.length + 0
    omega
  | b :: r, line => by
    rw [linesGo]
    split
    · have := total_lines r []
      show line.length + total (linesGo [] r) ≤ line.length + (r.length + 1)
      have e : ([] : List Nat).length = 0 := rfl
      omega
    · have := total_lines r (line ++ [b])
      rw [List.length_append] at this
      show _ ≤ line.length + (r.length + 1)
      have e : [b].length = 1 := rfl
      omega
/-- a file without a fault: what its lines are -/
theorem file_good {w : List Nat} (h : fileFault (linesOf w) = none) : (∀ l ∈ filled (linesOf w), 61 ∈ l) ∧ ((filled (linesOf w)).map keyOf).Nodup := by
  rcases file_read w with ⟨e, z, _, h2, _⟩ | ⟨f, _, _, h3, h4⟩
  · rw [h] at h2
    cases h2
  · obtain ⟨_, b, c⟩ := fit_tab h3
    exact ⟨c, by rw [b]; exact (twice_nodup _ _ _ h4).1⟩
def newSents (w : List Nat) : Tab := (filled (linesOf w)).flatMap numLine
theorem newSents_len {w : List Nat} (h : fileFault (linesOf w) = none) : (newSents w).length ≤ w.length := by
  have h1 := flat_len (filled (linesOf w)) (file_good h).1
  have h2 := total_filter (fun l => !isKept l) (linesOf w)
  have h3 := total_lines w []
  have e : ([] : List Nat).length = 0 := rfl
  exact Nat.le_trans h1 (Nat.le_trans h2 (by show total (linesGo [] w) ≤ _; omega))
theorem newTexts_num (w : List Nat) : (textsTab (linesOf w)).flatMap numText = newSents w := textsTab_num _
/-- the heap: what an instance changed leaves -/
theorem SD.ins {α : Type} [DecidableEq α] {F : KeyFn α} {W : Wd} {G : Hp} {d p C dx : Addr} {l : List (α × List Nat)} {fs1 fs2 : List (Str × V)} (hS : SD W F G d l) (hg : G p = some (.ins C dx fs1)) : SD W F (L2.upd G p (.ins C dx fs2)) d l := by
  obtain ⟨ψ, hx⟩ := hS.isExt
  exact hS.upd hg (fun xs z => nomatch z) (ne_of hx hg (fun z => nomatch z))
theorem KAt.ins {W : Wd} {G : Hp} {p C dx : Addr} {kc : KC} {fs1 fs2 : List (Str × V)} (h : KAt W G kc) (hg : G p = some (.ins C dx fs1)) : KAt W (L2.upd G p (.ins C dx fs2)) kc := by
  obtain ⟨ψ, hx⟩ := h.x.isExt
  exact h.upd hg (fun xs z => nomatch z) (fun xs z => nomatch z) (ne_of hx hg (fun z => nomatch z))
def spLay (W : Wd) (C : Addr) : Sp := fun vs H Q _ => ∃ (a ds dt p : Addr) (kc : KC) (S D : Tab) (w : List Nat) (nw : Bool), vs = [.ref a, .ref p, .bl nw] ∧ DeskAt W C H a ds dt kc S D ∧ SqL W.K H p (iv w) ∧ w.length ≤ 40000 ∧ (∀ x ∈ D, (valA S x.1).isSome = true) ∧ D.length ≤ 5000 ∧
  (isBytes 400 w = false → RetI [-1] H Q) ∧ (∀ z, isBytes 400 w = true → fileFault (linesOf w) = some z → RetI [z] H Q) ∧
  (isBytes 400 w = true → fileFault (linesOf w) = none → ∀ t ds' dt' L' tx' H', H t = none → Ch a H H' → DeskAt W C H' a ds' dt' ⟨L', tx', linesOf w, fun b => H b = none⟩ (newSents w) (if nw = true then broughtOver S D (newSents w) else []) →
    H' t = some (.lst ([((filled (linesOf w)).length : Int), ((newSents w).length : Int), ((if nw = true then broughtOver S D (newSents w) else []).length : Int)].map V.int)) → Q (.ref t) H')
theorem c_lay {W : Wd} {C : Addr} (T : TxK W.K W.mg C) (a : MAt W.K C "lay" "Desk.lay" s_Desk_lay) (c1 : Cal W 1 "are_bytes" (spBytes W.K)) (c2 : Cal W 1 "lines_of" (spLines W.K)) (c3 : Cal W 7 "file_fault" (spFaults W.K (fun ls => ∀ l ∈ ls, l.length ≤ 1000) fileFault))
    (c4 : Cal W 2 "texts_of" (spTexts W)) (c5 : Cal W 4 "numbered_sentences" (spNum W)) (m1 : Met W 2 C "brought_over" (spBrought W C)) (m2 : Met W 1 C "standing" (spStanding W C)) : Met W 8 C "lay" (spLay W C) := by
  refine met T.cl a sc_Desk_lay (fun _ _ _ _ _ _ us hl => match us, hl with | [_, _, _], _ => rfl) (fun vs H Q E h => by obtain ⟨p, ds, dt, r, kc, S, D, w, nw, rfl, _⟩ := h; rfl) (fun f cdv A outer s H vs Q E hr h => ?_)
  obtain ⟨p, ds, dt, r, kc, S, D, w, nw, rfl, hd, hw, hl, hDS, hDl, q1, q2, q3⟩ := h
  obtain ⟨dx, fs, hp, fo⟩ := hd.ob
  have hu := hr.units
  refine ⟨_, pss_cons (ps_if (pt_not (pt_val (pe_c c1 hr (pa_cons (pv 1) (pa_cons (pe_gc T.MOST_FILE_BYTES) pa_nil))))) (pss_one (ps_ret (pe_lst (pa_cons (pe_gc T.NOT_BYTES) pa_nil)))) pss_nil)
    (pss_cons (ps_set (i := 3) sc_Desk_lay.nd rfl (.inl rfl) (pe_c c2 hr (pa_cons (pv 1) pa_nil)))
    (pss_cons (ps_set (i := 4) sc_Desk_lay.nd rfl (.inl rfl) (pe_c c3 hr (pa_cons (pv 3) pa_nil)))
    (pss_cons (ps_if (pt_cmp (pc_notN (pv 4))) (pss_one (ps_ret (pe_lst (pa_cons (pv 4) pa_nil)))) pss_nil)
    (pss_cons (ps_set (i := 5) sc_Desk_lay.nd rfl (.inl rfl) (pe_c c4 hr (pa_cons (pv 3) pa_nil)))
    (pss_cons (ps_set (i := 6) sc_Desk_lay.nd rfl (.inl rfl) (pe_c c5 hr (pa_cons (pv 5) pa_nil)))
    (pss_cons (ps_fld (pv 0) (pe_ifExp (pt_val (pv 2)) (pe_mt m1 hr (pv 0) (pa_cons (pv 6) pa_nil)) pe_nnew) rfl)
    (pss_cons (ps_fld (pv 0) (pv 3) rfl)
    (pss_cons (ps_fld (pv 0) (pv 5) rfl)
    (pss_cons (ps_fld (pv 0) (pv 6) rfl)
    (pss_one (ps_ret (pe_mt0 m2 hr (pv 0))))))))))))), ?_⟩
  refine q_when (et_not (et_B (ev_call (ea_cons (ev_var rfl) (ea_cons ev_c ea_nil)) (sv_bytes hw hl)))) (fun b1 H1 e1 => ?_) (fun b1 H1 e1 => ?_)
  · have hb : isBytes 400 w = false := by simpa using b1
    refine s_retL (xs := [.int (-1)]) (el_lst (ea_cons ev_c ea_nil) (by simp)) fun t H2 ht e2 h2 => ?_
    exact q1 hb t H2 (fresh_back e1 ht) (e1.trans e2) h2
  have hb : isBytes 400 w = true := by simpa using b1
  have lw : w.length ≤ 400 := by
    unfold isBytes at hb
    rw [Bool.and_eq_true, decide_eq_true_eq] at hb
    exact hb.1
  refine ⟨_, rfl, r, w, rfl, ex_l e1 hw, (by omega), fun L vs H2 hL e2 hL2 hln => ?_⟩
  have hls := hln.at
  have e02 := e1.trans e2
  have ll := linesGo_len w []
  have ll1 : (linesOf w).length ≤ 1000 := by
    have := ll.1
    show (linesGo [] w).length ≤ 1000
    omega
  have ll2 : ∀ l ∈ linesOf w, l.length ≤ 1000 := fun l hl => by
    have := ll.2 l hl
    have e : ([] : List Nat).length = 0 := rfl
    omega
  refine ⟨_, rfl, L, vs, linesOf w, rfl, sq_of hL2, hls, ll1, ll2, fun H3 e3 => ?_⟩
  have e03 := e02.trans e3
  cases hff : fileFault (linesOf w) with
  | some z =>
    refine q_when (et_notI (o := some z) (ev_var rfl)) (fun b3 H4 e4 => s_retL (xs := [.int z]) (el_lst (ea_cons (ev_var (v := .int z) rfl) ea_nil) (by simp)) fun t H5 ht e5 h5 => ?_) (fun b3 => by cases b3)
    exact q2 z hb hff t H5 (fresh_back (e03.trans e4) ht) ((e03.trans e4).trans e5) h5
  | none =>
    refine q_when (et_notI (o := none) (ev_var rfl)) (fun b3 => by cases b3) (fun b3 H4 e4 => ?_)
    have e04 := e03.trans e4
    have e24 := e3.trans e4
    have hL4 := e24 _ _ hL2
    have hls4 := ex_lines e24 hls
    obtain ⟨g61, gnd⟩ := file_good hff
    refine ⟨_, rfl, L, vs, linesOf w, rfl, sq_of hL4, hls4, ll1, g61, gnd, fun X H5 hX e5 SX => ?_⟩
    have lN := newSents_len hff
    have hsml : ∀ x ∈ textsTab (linesOf w), x.2.length ≤ 1000 := fun x hx => by
      obtain ⟨l, hl, rfl⟩ := List.mem_map.mp hx
      have := ll2 l (List.mem_filter.mp hl).1
      show (textOf l).length ≤ 1000
      unfold textOf
      rw [List.length_drop]
      omega
    refine ⟨_, rfl, X, textsTab (linesOf w), rfl, SX, by rw [newTexts_num]; omega, hsml, fun N H6 hN e6 SN => ?_⟩
    rw [newTexts_num] at SN
    have e05 := e04.trans e5
    have e06 := e05.trans e6
    have N0 : H N = none := fresh_back e05 hN
    have hNs : N ≠ ds := by
      obtain ⟨ψ, hx⟩ := hd.s.isExt
      exact Ne.symm (ne_of_none hx N0)
    have hNt : N ≠ dt := by
      obtain ⟨ψ, hx⟩ := hd.t.isExt
      exact Ne.symm (ne_of_none hx N0)
    have hXN : X ≠ N := by
      obtain ⟨ψ, hx⟩ := SX.isExt
      exact ne_of_none hx hN
    have mo : ∀ x, x ∈ ownMeths → fs.lookup x = none := fo.m
    have K6 : KAt W H6 ⟨L, X, linesOf w, fun b => H b = none⟩ := ⟨SX.ex e6, fresh_back e1 hL, vs, (e5.trans e6) _ _ hL4, hln.mono fun b xs n q => ⟨fresh_back e1 n, ((e24.trans e5).trans e6) _ _ q⟩⟩
    -- the rest, once the translations are there
    have rest : ∀ (dn : Addr) (D' : Tab) (H7 : Hp), Ex H6 H7 → H6 dn = none → SD W FSpot H7 dn D' → D' = (if nw = true then broughtOver S D (newSents w) else []) →
        tSeq (sFld W.K (tVar 0) (tVar 3) "lines") (tSeq (sFld W.K (tVar 0) (tVar 5) "texts") (tSeq (sFld W.K (tVar 0) (tVar 6) "sentences") (tRet (tMeth C "standing" (spStanding W C) [] E0 (tVar 0) tNil)))) { nx := fun _ H' => Q .non H', rt := Q }
          [some (.ref p), some (.ref r), some (.bl nw), some (.ref L), some .non, some (.ref X), some (.ref N)] (upd H7 p (.ins C dx (putF "translations" (.ref dn) fs))) := by
      intro dn D' H7 e7 hdn S7 eD
      have e07 := e06.trans e7
      have hp7 : H7 p = some (.ins C dx fs) := e07 _ _ hp
      have fo1 := fo.putT dn
      have fo2 := fo1.putL L (linesOf w) (fun b => H b = none)
      have fo3 := fo2.putX X
      have fo4 := fo3.putS N
      refine ⟨_, rfl, _, rfl, p, C, dx, _, rfl, upd_same, T.cl, T.nL, (by have := fo1.n; omega), ?_⟩
      refine ⟨_, rfl, _, rfl, p, C, dx, _, rfl, upd_same, T.cl, T.nX, (by have := fo2.n; omega), ?_⟩
      refine ⟨_, rfl, _, rfl, p, C, dx, _, rfl, upd_same, T.cl, T.nS, (by have := fo3.n; omega), ?_⟩
      generalize hf1 : putF "translations" (.ref dn) fs = f1 at *
      generalize hf2 : putF "lines" (.ref L) f1 = f2 at *
      generalize hf3 : putF "texts" (.ref X) f2 = f3 at *
      generalize hf4 : putF "sentences" (.ref N) f3 = f4 at *
      have ch : Ch p H (upd (upd (upd (upd H7 p (.ins C dx f1)) p (.ins C dx f2)) p (.ins C dx f3)) p (.ins C dx f4)) :=
        ((((Ch.of_ex e07).trans Ch.upd).trans Ch.upd).trans Ch.upd).trans Ch.upd
      have d4 : DeskAt W C (upd (upd (upd (upd H7 p (.ins C dx f1)) p (.ins C dx f2)) p (.ins C dx f3)) p (.ins C dx f4)) p N dn ⟨L, X, linesOf w, fun b => H b = none⟩ (newSents w) D' := by
        refine ⟨⟨dx, _, upd_same, fo4⟩, ((((SN.ex e7).ins hp7).ins upd_same).ins upd_same).ins upd_same, (((S7.ins hp7).ins upd_same).ins upd_same).ins upd_same, ?_, ((((K6.ex e7).ins hp7).ins upd_same).ins upd_same).ins upd_same, hXN, ?_⟩
        · obtain ⟨ψ, hx⟩ := SN.isExt
          exact ne_of_none hx hdn
        · obtain ⟨ψ, hx⟩ := (SX.ex e6).isExt
          exact ne_of_none hx hdn
      refine ⟨_, rfl, p, dx, _, rfl, upd_same, fo4.m _ (by decide +kernel), p, N, dn, _, _, _, rfl, d4, fun t H8 ht e8 h8 => ?_⟩
      rw [eD] at d4 h8
      refine q3 hb hff t N dn L X H8 ?_ (ch.trans (Ch.of_ex e8)) (d4.ex e8) h8
      have htp : t ≠ p := Ne.symm (ne_of_none upd_same ht)
      rw [upd_ne htp, upd_ne htp, upd_ne htp, upd_ne htp] at ht
      exact fresh_back e07 ht
    have hp6 := e06 _ _ hp
    refine ⟨.bl nw, rfl, nw, rfl, ?_⟩
    cases nw with
    | true =>
      rw [if_pos rfl]
      refine ⟨_, rfl, p, dx, fs, rfl, hp6, mo _ (by decide +kernel), _, rfl, p, ds, dt, N, kc, S, D, newSents w, rfl, hd.ex e06, SN, hNs, hNt, hDS, hDl, (by omega), fun dn H7 hdn e7 S7 => ?_⟩
      exact ⟨_, rfl, p, C, dx, fs, rfl, e7 _ _ hp6, T.cl, T.nT, (by have := fo.n; omega), rest dn _ H7 e7 hdn S7 (if_pos rfl).symm⟩
    | false =>
      rw [if_neg Bool.false_ne_true]
      refine fun dn o hdn Dn => ⟨_, rfl, p, C, dx, fs, rfl, (Ex.new hdn) _ _ hp6, T.cl, T.nT, (by have := fo.n; omega), rest dn [] _ (Ex.new hdn) hdn ⟨[], Dn, .nil⟩ (if_neg Bool.false_ne_true).symm⟩
def spLayAs (W : Wd) (C : Addr) (nw : Bool) : Sp := fun vs H Q E => ∃ a p, vs = [.ref a, .ref p] ∧ spLay W C [.ref a, .ref p, .bl nw] H Q E
theorem c_lay_file {W : Wd} {C : Addr} (T : TxK W.K W.mg C) (a : MAt W.K C "lay_file" "Desk.lay_file" s_Desk_lay_file) (m1 : Met W 8 C "lay" (spLay W C)) : Met W 9 C "lay_file" (spLayAs W C false) := by
  refine met T.cl a sc_Desk_lay_file (fun _ _ _ _ _ _ us hl => match us, hl with | [_, _], _ => rfl) (fun vs H Q E h => by obtain ⟨p, r, rfl, _⟩ := h; rfl) (fun f cdv A outer s H vs Q E hr h => ?_)
  obtain ⟨p, r, rfl, h⟩ := h
  refine ⟨_, pss_one (ps_ret (pe_mt m1 hr (pv 0) (pa_cons (pv 1) (pa_cons pe_bl pa_nil)))), ?_⟩
  obtain ⟨p, ds, dt, r, kc, S, D, w, nw, e, hd, hr⟩ := h
  obtain ⟨dx, fs, hp, fo⟩ := hd.ob
  cases e
  exact ⟨_, rfl, _, dx, fs, rfl, hp, fo.m _ (by decide +kernel), _, rfl, p, ds, dt, r, kc, S, D, w, false, rfl, hd, hr⟩
theorem c_lay_newer {W : Wd} {C : Addr} (T : TxK W.K W.mg C) (a : MAt W.K C "lay_newer" "Desk.lay_newer" s_Desk_lay_newer) (m1 : Met W 8 C "lay" (spLay W C)) : Met W 9 C "lay_newer" (spLayAs W C true) := by
  refine met T.cl a sc_Desk_lay_newer (fun _ _ _ _ _ _ us hl => match us, hl with | [_, _], _ => rfl) (fun vs H Q E h => by obtain ⟨p, r, rfl, _⟩ := h; rfl) (fun f cdv A outer s H vs Q E hr h => ?_)
  obtain ⟨p, r, rfl, h⟩ := h
  refine ⟨_, pss_one (ps_ret (pe_mt m1 hr (pv 0) (pa_cons (pv 1) (pa_cons pe_bl pa_nil)))), ?_⟩
  obtain ⟨p, ds, dt, r, kc, S, D, w, nw, e, hd, hr⟩ := h
  obtain ⟨dx, fs, hp, fo⟩ := hd.ob
  cases e
  exact ⟨_, rfl, _, dx, fs, rfl, hp, fo.m _ (by decide +kernel), _, rfl, p, ds, dt, r, kc, S, D, w, true, rfl, hd, hr⟩
/-! ### Desk() -/
def spDInit (W : Wd) (C : Addr) : Sp := fun vs H Q _ => ∃ (p dx : Addr), vs = [.ref p] ∧ H p = some (.ins C dx []) ∧ ∀ L X ds dt H', DeskAt W C H' p ds dt ⟨L, X, [[]], fun _ => True⟩ [] [] → Ch p H H' → Q .non H'
theorem c_desk_init {W : Wd} {C : Addr} (T : TxK W.K W.mg C) (g : W.mg "Desk" = some (.ref C)) (a : IAt W.K C "Desk.__init__" s_Desk_init) (c1 : Cal W 1 "lines_of" (spLines W.K)) : Mak W 2 "Desk" C (spDInit W C) := by
  refine mak a g sc_Desk_init (fun _ _ _ _ _ _ us hl => match us, hl with | [_], _ => rfl) (fun vs H Q E h => by obtain ⟨p, dx, rfl, _⟩ := h; rfl) (fun f cdv A outer s H vs Q E hr h => ?_)
  obtain ⟨p, dx, rfl, hp, k⟩ := h
  refine ⟨_, pss_cons (ps_fld (pv 0) (pe_c c1 hr (pa_cons (pe_lst pa_nil) pa_nil)) rfl) (pss_cons (ps_fld (pv 0) pe_nnew rfl) (pss_cons (ps_fld (pv 0) pe_nnew rfl) (pss_one (ps_fld (pv 0) pe_nnew rfl)))), ?_⟩
  refine ⟨Nat.zero_le _, fun z hz => ?_⟩
  have e1 : Ex H (upd H z (.lst [])) := Ex.new hz
  refine ⟨z, [], rfl, sq_of upd_same, by decide, fun L vs H2 hL e2 hL2 hln => ?_⟩
  have e02 := e1.trans e2
  refine ⟨_, rfl, p, C, dx, [], rfl, e02 _ _ hp, T.cl, T.nL, (by show 0 < 1000; decide), ?_⟩
  refine fun X o hX DX => ⟨_, rfl, p, C, dx, _, rfl, (Ex.new hX) _ _ upd_same, T.cl, T.nX, (by show 1 < 1000; decide), ?_⟩
  refine fun ds o1 hds Ds => ⟨_, rfl, p, C, dx, _, rfl, (Ex.new hds) _ _ upd_same, T.cl, T.nS, (by show 2 < 1000; decide), ?_⟩
  refine fun dt o2 hdt Dt => ⟨_, rfl, p, C, dx, _, rfl, (Ex.new hdt) _ _ upd_same, T.cl, T.nT, (by show 3 < 1000; decide), ?_⟩
  have X0 : SD W FKey _ X [] := ⟨[], DX, .nil⟩
  have S0 : SD W FSpot _ ds [] := ⟨[], Ds, .nil⟩
  have T0 : SD W FSpot _ dt [] := ⟨[], Dt, .nil⟩
  have p1 := (Ex.new (o := o) hX) _ _ upd_same
  have p2 := (Ex.new (o := o1) hds) _ _ upd_same
  have p3 := (Ex.new (o := o2) hdt) _ _ upd_same
  have Lp : L ≠ p := ne_of hL2 (e02 _ _ hp) (fun z => nomatch z)
  have lk : ∀ b xs, H2 b = some (.lst xs) → upd H2 p (.ins C dx (putF "lines" (.ref L) [])) b = some (.lst xs) := fun b xs h => by
    rw [upd_ne (ne_of h (e02 _ _ hp) (fun z => nomatch z))]
    exact h
  have K1 : KAt W (upd (upd H2 p (.ins C dx (putF "lines" (.ref L) []))) X o) ⟨L, X, [[]], fun _ => True⟩ := ⟨X0, trivial, vs, (Ex.new hX) _ _ (lk _ _ hL2), hln.mono fun b xs _ q => ⟨trivial, (Ex.new hX) _ _ (lk _ _ q)⟩⟩
  have X1 := X0.ins (fs2 := putF "texts" (.ref X) (putF "lines" (.ref L) [])) p1
  have K2 := K1.ins (fs2 := putF "texts" (.ref X) (putF "lines" (.ref L) [])) p1
  have hXs : X ≠ ds := by
    obtain ⟨ψ, hx⟩ := X1.isExt
    exact ne_of_none hx hds
  have X2 := (X1.ex (Ex.new (o := o1) hds)).ins (fs2 := putF "sentences" (.ref ds) (putF "texts" (.ref X) (putF "lines" (.ref L) []))) p2
  have K3 := (K2.ex (Ex.new (o := o1) hds)).ins (fs2 := putF "sentences" (.ref ds) (putF "texts" (.ref X) (putF "lines" (.ref L) []))) p2
  have S2 := S0.ins (fs2 := putF "sentences" (.ref ds) (putF "texts" (.ref X) (putF "lines" (.ref L) []))) p2
  have hXt : X ≠ dt := by
    obtain ⟨ψ, hx⟩ := X2.isExt
    exact ne_of_none hx hdt
  have hst : ds ≠ dt := by
    obtain ⟨ψ, hx⟩ := S2.isExt
    exact ne_of_none hx hdt
  refine k L X ds dt _ ⟨⟨dx, _, upd_same, ⟨?_, ?_, ?_, ?_, fun x hx => ?_, ?_⟩⟩, (S2.ex (Ex.new (o := o2) hdt)).ins p3, T0.ins p3, hst, (K3.ex (Ex.new (o := o2) hdt)).ins p3, hXs, hXt⟩
    (((((((Ch.of_ex e02).trans Ch.upd).trans (Ch.of_ex (Ex.new hX))).trans Ch.upd).trans ((Ch.of_ex (Ex.new hds)).trans Ch.upd)).trans (Ch.of_ex (Ex.new hdt))).trans Ch.upd)
  · exact (put_else (by decide +kernel)).trans ((put_else (by decide +kernel)).trans ((put_else (by decide +kernel)).trans put_get))
  · exact (put_else (by decide +kernel)).trans ((put_else (by decide +kernel)).trans put_get)
  · exact (put_else (by decide +kernel)).trans put_get
  · exact put_get
  · refine (put_else (fun z => ?_)).trans ((put_else (fun z => ?_)).trans ((put_else (fun z => ?_)).trans ((put_else (fun z => ?_)).trans rfl))) <;> (rw [z] at hx; revert hx; decide +kernel)
  · exact Nat.le_trans (length_putF _ _ _) (Nat.succ_le_succ (Nat.le_trans (length_putF _ _ _) (Nat.succ_le_succ (Nat.le_trans (length_putF _ _ _) (Nat.succ_le_succ (Nat.le_trans (length_putF _ _ _) (by decide)))))))
end Fo

set_option Elab.async false
set_option linter.all false
set_option maxRecDepth 100000
set_option maxHeartbeats 2000000
namespace Fo
open PySem PySem.Spec PyProof.Rows L2 Evl
/-! ### take_translation_away -/
def spAway (W : Wd) (C : Addr) : Sp := fun vs H Q _ => ∃ (a ds dt r : Addr) (kc : KC) (S D : Tab) (k : List Nat) (i : Nat), vs = [.ref a, .ref r, vn i] ∧ DeskAt W C H a ds dt kc S D ∧ SqL W.K H r (iv k) ∧
  (valA D (k, i) = none → RetI [-2] H Q) ∧
  ((valA D (k, i)).isSome = true → ∀ t H', H t = none → NEx none H H' → DeskAt W C H' a ds dt kc S (dropA D (k, i)) → H' t = some (.lst ([((filled kc.ls).length : Int), (S.length : Int), ((dropA D (k, i)).length : Int)].map V.int)) → Q (.ref t) H')
theorem c_away {W : Wd} {C : Addr} (T : TxK W.K W.mg C) (TL : TxL W.K W.mg) (a : MAt W.K C "take_translation_away" "Desk.take_translation_away" s_Desk_take_translation_away) (c2 : Met W 1 C "standing" (spStanding W C)) : Met W 2 C "take_translation_away" (spAway W C) := by
  refine met T.cl a sc_Desk_take_translation_away (fun _ _ _ _ _ _ us hl => match us, hl with | [_, _, _], _ => rfl) (fun vs H Q E h => by obtain ⟨p, ds, dt, r, kc, S, D, k, i, rfl, _⟩ := h; rfl) (fun f cdv A outer s H vs Q E hr h => ?_)
  obtain ⟨p, ds, dt, r, kc, S, D, k, i, rfl, hd, hk, q1, q2⟩ := h
  obtain ⟨dx, fs, hp, fo⟩ := hd.ob
  have hu := hr.units
  refine ⟨_, pss_cons (ps_set (i := 3) sc_Desk_take_translation_away.nd rfl (.inl rfl) (pe_tup (pa_cons (pe_callTy call_tuple_of (by rfl) TL.tuple PyProof.Rows.boot_tuple (pa_cons (pv 1) pa_nil)) (pa_cons (pv 2) pa_nil))))
    (pss_cons (ps_if (pt_cmp (pc_nnotin hu (pv 3) (pe_fld (pv 0) rfl))) (pss_one (ps_ret (pe_lst (pa_cons (pe_gc T.NO_SENTENCE) pa_nil)))) pss_nil)
    (pss_cons (ps_expr (pe_npop1 hu (pe_fld (pv 0) rfl) (pv 3) ⟨rfl, rfl, rfl, rfl⟩))
    (pss_one (ps_ret (pe_mt0 c2 hr (pv 0)))))), ?_⟩
  refine q_asgN (en_key (K := W.K) (ep_tuple1 (K := W.K) rfl hk) (ev_var rfl)) fun b H1 e1 hb => ?_
  refine q_when (et_B (ev_snin (W := W) (F := FSpot) (k := (k, i)) (en_var rfl hb) (ev_fld (ev_var rfl) (e1 _ _ hp) T.cl T.nT fo.t) (hd.t.ex e1).r)) (fun b2 H2 e2 => s_retL (xs := [.int (-2)]) (el_lst (ea_cons ev_c ea_nil) (by simp)) fun t H3 ht e3 h3 => ?_) (fun b2 H2 e2 => ?_)
  · have hn : valA D (k, i) = none := by
      cases hv : valA D (k, i) with
      | none => rfl
      | some s =>
        rw [hv] at b2
        cases b2
    exact q1 hn t H3 (fresh_back (e1.trans e2) ht) ((e1.trans e2).trans e3) h3
  · have hs : (valA D (k, i)).isSome = true := by simpa using b2
    have e02 := e1.trans e2
    have d2 := hd.ex e02
    refine q_spop1 (W := W) (F := FSpot) (k := (k, i)) (ev_fld (ev_var rfl) (e02 _ _ hp) T.cl T.nT fo.t) (en_var rfl (nt_ex e2 hb)) d2.t hs fun H4 o e4 t4 => ?_
    obtain ⟨φ4, hx4⟩ := (d2.t.ex e4).isExt
    have hp4 : upd H4 dt o p = some (.ins C dx fs) := by
      rw [upd_ne (ne_of ((e02.trans e4) _ _ hp) hx4 (fun z => nomatch z))]
      exact (e02.trans e4) _ _ hp
    have n4 : NEx none H (upd H4 dt o) := (NEx.of_ex (e02.trans e4)).trans (NEx.upd hx4)
    have d4 : DeskAt W C (upd H4 dt o) p ds dt kc S (dropA D (k, i)) := ⟨⟨dx, fs, hp4, fo⟩, (d2.s.ex e4).upd hx4 (fun xs z => nomatch z) hd.ne, t4, hd.ne, (d2.k.ex e4).upd hx4 (fun xs z => nomatch z) (fun xs z => nomatch z) hd.kt, hd.ks, hd.kt⟩
    refine ⟨_, rfl, p, dx, fs, rfl, hp4, fo.m _ (by decide +kernel), p, ds, dt, kc, S, _, rfl, d4, fun t H6 ht6 e6 h6 => ?_⟩
    exact q2 hs t H6 (n4.free ht6) (n4.trans (NEx.of_ex e6)) (d4.ex e6) h6
/-! ### list_undone -/
def todoOne (x : (List Nat × Nat) × List Nat) : List Nat := counted x.1.1 ++ [x.1.2]
def undoneOf (S D : Tab) : Tab := S.filter fun x => (valA D x.1).isNone
theorem todoOut_eq (S D : Tab) : todoOut S D = (undoneOf S D).length :: (undoneOf S D).flatMap todoOne := rfl
def spUndone (W : Wd) (C : Addr) : Sp := fun vs H Q _ => ∃ (a ds dt : Addr) (kc : KC) (S D : Tab), vs = [.ref a] ∧ DeskAt W C H a ds dt kc S D ∧ (todoOut S D).length ≤ 1000000 ∧ S.length ≤ 40000 ∧ (∀ x ∈ S, x.1.1.length ≤ 2000000) ∧ RetL (iv (todoOut S D)) H Q
theorem c_undone {W : Wd} {C : Addr} (T : TxK W.K W.mg C) (TR : TxR W.K W.mg) (a : MAt W.K C "list_undone" "Desk.list_undone" s_Desk_list_undone) (c1 : Cal W 1 "counted" (spCounted W.K)) : Met W 2 C "list_undone" (spUndone W C) := by
  refine met T.cl a sc_Desk_list_undone (fun _ _ _ _ _ _ us hl => match us, hl with | [_], _ => rfl) (fun vs H Q E h => by obtain ⟨p, ds, dt, kc, S, D, rfl, _⟩ := h; rfl) (fun f cdv A outer s H vs Q E hr h => ?_)
  obtain ⟨p, ds, dt, kc, S, D, rfl, hd, hlen, hSl, hkl, q⟩ := h
  obtain ⟨dx, fs, hp, fo⟩ := hd.ob
  have hu := hr.units
  refine ⟨_, pss_cons (ps_lock (ps_setLc (i := 1) (own := [("spot", 2)]) (g := gName 2) (tt := tB (tNNotIn W.P W.w (tVar 2) (tFld W.K (tVar 0) "translations"))) (by rfl) sc_Desk_list_undone.nd rfl rfl (sw_true rfl rfl rfl (by decide +kernel)) (pi_keysN (pe_fld (pv 0) rfl)) (blkOk_by (own := [("spot", 2)]) (N := n_Desk_list_undone) (sc := defScope s_Desk_list_undone) (by decide +kernel)) (fun _ _ _ _ _ => pg_name (i := 2) sc_Desk_list_undone.nd rfl (Or.inl rfl))
      (fun _ _ _ _ _ => pts_one (pt_cmp (pc_nnotin hu (pv 2) (pe_fld (pv 0) rfl)))) (fun _ _ _ _ _ => pv 2)))
    (pss_cons (ps_set (i := 3) sc_Desk_list_undone.nd rfl (.inl rfl) (pe_lst (pa_cons (pe_callB call_len_seq (by rfl) TR.len PySem.boot_len (pa_cons (pv 1) pa_nil)) pa_nil)))
    (pss_cons (ps_for PassesOwn.never rfl (pi_list (pv 1)) (pg_name (i := 2) sc_Desk_list_undone.nd rfl (.inl rfl))
      (pss_cons (ps_expr (pe_bm PySem.F.plainAttrs_list PySem.F.slot_list_extend PySem.F.type_list_extend mt_extend (pv 3) (pa_cons (pe_c c1 hr (pa_cons (pe_ix ix_tup (pv 2) pe_int (fun _ _ => rfl)) pa_nil)) pa_nil)))
      (pss_one (ps_expr (pe_bm PySem.F.plainAttrs_list PySem.F.slot_list_append PySem.F.type_list_append mt_append (pv 3) (pa_cons (pe_ix ix_tup (pv 2) pe_int (fun _ _ => rfl)) pa_nil))))))
    (pss_one (ps_ret (pv 3))))), ?_⟩
  obtain ⟨φs, hxs⟩ := hd.s.isExt
  have hads : p ≠ ds := ne_of hp hxs (fun z => nomatch z)
  refine q_lcK (W := W) (F := FSpot) (l := S) (j := 2) (vs := [2]) (fun x => (valA D x.1).isNone) (fun H1 c1 => ev_fld (ev_var rfl) (c1 _ _ hp hads) T.cl T.nS fo.s) hd.s hSl (fun x => rfl) (fun x => rfl) (fun x b H1 hx c1 hnt => ?_) fun U ks H1 hU e1 h1 hks => ?_
  · have RT : SR W FSpot H1 dt D := hd.t.r.keeps (H' := H1) (fun b xs h => c1 b _ h (ne_of h hxs (fun z => nomatch z))) fun o h => c1 dt _ h (Ne.symm hd.ne)
    refine et_is (et_B (ev_snin (W := W) (F := FSpot) (k := x.1) (en_var rfl hnt) (ev_fld (ev_var rfl) (c1 _ _ hp hads) T.cl T.nT fo.t) RT)) ?_
    cases valA D x.1 <;> rfl
  replace hks : KeysAt FSpot H1 ks (undoneOf S D) := hks
  have lks := hks.len
  refine q_asgL (xs := [vn (undoneOf S D).length]) (el_lst (ea_cons (ev_is (ev_len (K := W.K) (ev_var rfl) (sq_of h1)) (by rw [lks])) ea_nil) (by simp)) fun L H2 hL e2 h2 => ?_
  have e02 := e1.trans e2
  have hUL : U ≠ L := ne_of_none h1 hL
  have lsz : ((undoneOf S D).flatMap todoOne).length + 1 ≤ 1000000 := by
    rw [todoOut_eq, List.length_cons] at hlen
    exact hlen
  have hL0 : H L = none := fresh_back e1 hL
  have k2 : KeysAt FSpot H2 ks (undoneOf S D) := hks.keeps fun b xs h => e2 _ _ h
  refine q_forLn (K := W.K) (xs := ks) (ev_var rfl) (sq_of (e2 _ _ h1)) (fun i σ' H' => ∃ v2, σ' = [some (.ref p), some (.ref U), v2, some (.ref L)] ∧ Ex H1 H' ∧ H' L = some (.lst (iv ((undoneOf S D).length :: ((undoneOf S D).take i).flatMap todoOne))))
    (fun H3 e3 => ⟨none, rfl, e2.trans e3, e3 _ _ h2⟩) (fun i σ' H' _ ⟨_, _, e, _⟩ => sq_of (e _ _ h1)) ?_ ?_
  · rintro i x σ' H' hx ⟨v2, rfl, e, hL'⟩
    obtain ⟨⟨⟨k, n⟩, sv⟩, hi, b, rfl, hnt⟩ := paired_get hks hx
    replace hnt : NT H1 (FSpot.ek (k, n)) (.ref b) := hnt
    have hnt' := nt_ex e hnt
    obtain ⟨ka, hb, hka⟩ := spot_nt hnt'
    have hm : ((k, n), sv) ∈ S := (List.mem_filter.mp (List.mem_of_getElem? hi)).1
    have hkl' : k.length ≤ 2000000 := hkl _ hm
    have hfl := flat_le todoOne (undoneOf S D) (i + 1)
    rw [flat_take todoOne hi, List.length_append] at hfl
    have hone : (todoOne ((k, n), sv)).length = k.length + 2 := by
      show (counted k ++ [n]).length = _
      rw [List.length_append]
      rfl
    rw [hone] at hfl
    have ln : (iv ((undoneOf S D).length :: ((undoneOf S D).take i).flatMap todoOne)).length = (((undoneOf S D).take i).flatMap todoOne).length + 1 := by rw [iv_len, List.length_cons]
    have sl : sizeLine = 16777216 := sizeLine_eq
    refine q_extL (K := W.K) (zs := iv (counted k)) hL' (ev_var rfl) (el_counted (K := W.K) (eq_of_p (ep_spot0 rfl hnt')) hkl') (by rw [ln, iv_len]; show _ + (k.length + 1) ≤ _; omega) fun H3 e3 => ?_
    have hb3 : upd H3 L (.lst (iv ((undoneOf S D).length :: ((undoneOf S D).take i).flatMap todoOne) ++ iv (counted k))) b = some (.tup [.ref ka, vn n]) := by
      have := e3 _ _ hb
      rw [upd_ne (ne_of this (e3 _ _ hL') (fun z => nomatch z))]
      exact this
    refine s_appQ (K := W.K) upd_same (ev_var rfl) (ev_op (ev_var rfl) ev_c (rv_ixT (K := W.K) (i := 1) (st_of hb3) rfl)) (by rw [List.length_append, ln, iv_len]; show _ + (k.length + 1) < _; omega) fun H4 e4 => ?_
    refine ⟨_, rfl, Ex.mut ((Ex.mut (e.trans e3) hL).trans e4) hL, ?_⟩
    rw [upd_same, flat_take todoOne hi]
    show some (HO.lst ((iv ((undoneOf S D).length :: ((undoneOf S D).take i).flatMap todoOne) ++ iv (counted k)) ++ [vn n])) = some (HO.lst (iv ((undoneOf S D).length :: (((undoneOf S D).take i).flatMap todoOne ++ (counted k ++ [n])))))
    rw [show (undoneOf S D).length :: (((undoneOf S D).take i).flatMap todoOne ++ (counted k ++ [n])) = (((undoneOf S D).length :: ((undoneOf S D).take i).flatMap todoOne) ++ counted k) ++ [n] by simp, iv_app, iv_app]
    rfl
  · rintro σ' H' ⟨v2, rfl, e, hL'⟩
    rw [lks, List.take_length] at hL'
    refine s_ret (ev_var rfl) fun H3 e3 => q L H3 hL0 ((e1.trans e).trans e3) (e3 _ _ ?_)
    rw [hL', todoOut_eq]
/-! ### built_text -/
theorem numFrom_app (k : List Nat) : ∀ (a b : List (List Nat)) (i : Nat), numFrom k i (a ++ b) = numFrom k i a ++ numFrom k (i + a.length) b
  | [], b, i => rfl
  | x :: a, b, i => by
    show ((k, i), x) :: numFrom k (i + 1) (a ++ b) = ((k, i), x) :: (numFrom k (i + 1) a ++ numFrom k (i + (a.length + 1)) b)
    rw [numFrom_app k a b (i + 1), show i + 1 + a.length = i + (a.length + 1) by omega]
theorem together_app (D : Tab) (a b : Tab) : together D (a ++ b) = together D a ++ together D b := by
  unfold together
  rw [List.map_append, List.flatten_append]
theorem together_more {D : Tab} {k : List Nat} {ss : List (List Nat)} {n : Nat} {s : List Nat} (h : ss[n]? = some s) : together D (numFrom k 0 (ss.take (n + 1))) = together D (numFrom k 0 (ss.take n)) ++ (valA D (k, n)).getD s := by
  have hn : n < ss.length := (List.getElem?_eq_some_iff.mp h).1
  rw [take_more h, numFrom_snoc, together_app, List.length_take, Nat.min_eq_left (by omega), Nat.zero_add]
  congr 1
  show [(valA D (k, n)).getD s].flatten = _
  simp
theorem together_le (D : Tab) (k : List Nat) (ss : List (List Nat)) (n : Nat) : (together D (numFrom k 0 (ss.take n))).length ≤ (together D (numFrom k 0 ss)).length := by
  conv => rhs; rw [← List.take_append_drop n ss, numFrom_app, together_app]
  rw [List.length_append]
  omega
theorem s_extP {K : PySem.W.Frag} {σ : L2.St} {H : Hp} {D : Ends} {ta tb : TE} {tz : TS} {l : Addr} {xs zs : List V} (hl : H l = some (.lst xs)) (ha : Ev ta σ H (.ref l)) (hb : EvP K tb σ H zs) (hn : xs.length + zs.length ≤ sizeLine) (k : ∀ H1, Ex H H1 → tz D σ (upd H1 l (.lst (xs ++ zs)))) :
    tSeq (tDrop (tBM K "list" (rExtendT K) ta (tCons tb tNil))) tz D σ H := ha H (Ex.refl H) _ fun H1 e1 =>
  ⟨Or.inl ⟨rfl, xs, sq_of (e1 l _ hl)⟩, hb H1 e1 _ fun b H2 e2 h2 => ⟨l, b, xs, zs, rfl, rfl, (e1.trans e2) l _ hl, st_of h2, hn, k H2 (e1.trans e2)⟩⟩
def spText (W : Wd) (C : Addr) : Sp := fun vs H Q _ => ∃ (a ds dt p : Addr) (kc : KC) (S D : Tab) (k : List Nat) (ss : List (List Nat)), vs = [.ref a, .ref p] ∧ DeskAt W C H a ds dt kc S D ∧ H p = some (.tup (iv k)) ∧ (∀ n, valA S (k, n) = ss[n]?) ∧ (together D (numFrom k 0 ss)).length ≤ 1000000 ∧ RetL (iv (together D (numFrom k 0 ss))) H Q
theorem c_text {W : Wd} {C : Addr} (T : TxK W.K W.mg C) (a : MAt W.K C "built_text" "Desk.built_text" s_Desk_built_text) : Met W 1 C "built_text" (spText W C) := by
  refine met T.cl a sc_Desk_built_text (fun _ _ _ _ _ _ us hl => match us, hl with | [_, _], _ => rfl) (fun vs H Q E h => by obtain ⟨p, ds, dt, r, kc, S, D, k, ss, rfl, _⟩ := h; rfl) (fun f cdv A outer s H vs Q E hr h => ?_)
  obtain ⟨p, ds, dt, r, kc, S, D, k, ss, rfl, hd, hk, hss, hlen, q⟩ := h
  obtain ⟨dx, fs, hp, fo⟩ := hd.ob
  have hu := hr.units
  refine ⟨_, pss_cons (ps_set (i := 2) sc_Desk_built_text.nd rfl (.inl rfl) (pe_lst pa_nil))
    (pss_cons (ps_set (i := 3) sc_Desk_built_text.nd rfl (.inl rfl) (pe_tup (pa_cons (pv 1) (pa_cons pe_int pa_nil))))
    (pss_cons (ps_while PassesOwn.never (pt_cmp (pc_nin hu (pv 3) (pe_fld (pv 0) rfl)))
      (pss_cons (ps_expr (pe_bm PySem.F.plainAttrs_list PySem.F.slot_list_extend PySem.F.type_list_extend mt_extendT (pv 2) (pa_cons (pe_ngetOr hu (pe_fld (pv 0) rfl) (pv 3) (pe_nget hu (pe_fld (pv 0) rfl) (pv 3) (fun _ _ => rfl)) ⟨rfl, rfl, rfl, rfl⟩) pa_nil)))
      (pss_one (ps_set (i := 3) sc_Desk_built_text.nd rfl (.inl rfl) (pe_tup (pa_cons (pv 1) (pa_cons (pe_op op_add (pe_ix ix_tup (pv 3) pe_int (fun _ _ => rfl)) pe_int) pa_nil)))))))
    (pss_one (ps_ret (pv 2))))), ?_⟩
  refine q_asgL (el_lst ea_nil (by decide)) fun L H1 hL e1 h1 => ?_
  refine q_asgN (k := FSpot.ek (k, 0)) (en_spot (ev_var rfl) (e1 _ _ hk) ev_c) fun b0 H2 e2 hb0 => ?_
  refine q_while (fun m σ' H' => ∃ (n : Nat) (b : Addr), m = ss.length - n ∧ n ≤ ss.length ∧ σ' = [some (.ref p), some (.ref r), some (.ref L), some (.ref b)] ∧ Ex H H' ∧ H' L = some (.lst (iv (together D (numFrom k 0 (ss.take n))))) ∧ NT H' (FSpot.ek (k, n)) (.ref b))
    ss.length ⟨0, b0, rfl, Nat.zero_le _, rfl, e1.trans e2, e2 _ _ h1, hb0⟩ ?_
  rintro m σ' H' ⟨n, b, rfl, hn, rfl, e, hL', hnt⟩
  have hp' := e _ _ hp
  refine ⟨_, et_B (ev_sin (W := W) (F := FSpot) (k := (k, n)) (en_var rfl hnt) (ev_fld (ev_var rfl) hp' T.cl T.nS fo.s) (hd.s.ex e).r), fun hb H3 e3 => ?_, fun hb H3 e3 => ?_⟩
  · obtain ⟨sv, hsv⟩ := Option.isSome_iff_exists.mp hb
    have hsn : ss[n]? = some sv := by rw [← hss n]; exact hsv
    have hlt : n < ss.length := (List.getElem?_eq_some_iff.mp hsn).1
    have e03 := e.trans e3
    have more := together_more (D := D) (k := k) hsn
    have le := together_le D k ss (n + 1)
    rw [more, List.length_append] at le
    refine ⟨fun σ2 H2 => ∃ b', σ2 = [some (.ref p), some (.ref r), some (.ref L), some (.ref b')] ∧ Ex H H2 ∧ H2 L = some (.lst (iv (together D (numFrom k 0 (ss.take (n + 1)))))) ∧ NT H2 (FSpot.ek (k, n + 1)) (.ref b'), ?_, ?_⟩
    · rintro σ2 H2 ⟨b', h1, h2, h3, h4⟩
      exact ⟨ss.length - (n + 1), by omega, n + 1, b', rfl, hlt, h1, h2, h3, h4⟩
    have hnt3 := nt_ex e3 hnt
    have hp3 := e03 _ _ hp
    refine s_extP (K := W.K) (e3 _ _ hL') (ev_var rfl) (ep_sgetOr (W := W) (F := FSpot) (k := (k, n)) (s := sv) (K := W.K) (ev_fld (ev_var rfl) hp3 T.cl T.nT fo.t) (en_var rfl hnt3) (ep_sget (W := W) (F := FSpot) (k := (k, n)) (K := W.K) (ev_fld (ev_var rfl) hp3 T.cl T.nS fo.s) (en_var rfl hnt3) (hd.s.ex e03).r hsv) (hd.t.ex e03).r) (by rw [iv_len, iv_len, sizeLine_eq]; omega) fun H4 e4 => ?_
    have e04 : Ex H (upd H4 L (.lst (iv (together D (numFrom k 0 (ss.take n))) ++ iv ((valA D (k, n)).getD sv)))) := Ex.mut (e03.trans e4) hL
    obtain ⟨ka, hb, hka⟩ := spot_nt (nt_ex e4 hnt3)
    have hb4 : upd H4 L (.lst (iv (together D (numFrom k 0 (ss.take n))) ++ iv ((valA D (k, n)).getD sv))) b = some (.tup [.ref ka, vn n]) := by
      rw [upd_ne (ne_of hb (e4 _ _ (e3 _ _ hL')) (fun z => nomatch z))]
      exact hb
    refine en_spot (σ := [some (.ref p), some (.ref r), some (.ref L), some (.ref b)]) (k := k) (i := n + 1) (ev_var rfl) (e04 _ _ hk) (ev_addn (b := 1) (ev_op (ev_var rfl) ev_c (rv_ixT (K := W.K) (i := 1) (st_of hb4) rfl)) (tb := tC (.int 1)) ev_c) _ (Ex.refl _) _ fun b' H5 e5 hb' => ⟨b', rfl, e04.trans e5, ?_, hb'⟩
    rw [more, iv_app]
    exact e5 _ _ upd_same
  · have hge : n = ss.length := by
      have h1 := hss n
      cases hv : valA S (k, n) with
      | some v =>
        rw [hv] at hb
        cases hb
      | none =>
        rw [hv] at h1
        have := List.getElem?_eq_none_iff.mp h1.symm
        omega
    rw [hge, List.take_length] at hL'
    exact s_ret (ev_var rfl) fun H4 e4 => q L H4 hL ((e.trans e3).trans e4) ((e3.trans e4) _ _ hL')
end Fo

set_option Elab.async false
set_option linter.all false
set_option maxRecDepth 100000
set_option maxHeartbeats 2000000
namespace Fo
open PySem PySem.Spec PyProof.Rows L2 Evl
/-- what the sentences' table says of a line -/
def LineIn (S : Tab) (l : List Nat) : Prop := isKept l = false → 61 ∈ l ∧ ∀ n, valA S (keyOf l, n) = (sentencesOf (textOf l))[n]?
/-! ### built_line -/
def spBLine (W : Wd) (C : Addr) : Sp := fun vs H Q _ => ∃ (a ds dt p : Addr) (kc : KC) (S D : Tab) (l : List Nat), vs = [.ref a, .ref p] ∧ DeskAt W C H a ds dt kc S D ∧ H p = some (.lst (iv l)) ∧ LineIn S l ∧ (lineOut D l).length ≤ 1000000 ∧
  ∀ b H2, (b = p ∨ H b = none) → Ex H H2 → H2 b = some (.lst (iv (lineOut D l))) → Q (.ref b) H2
theorem c_bline {W : Wd} {C : Addr} (T : TxK W.K W.mg C) (a : MAt W.K C "built_line" "Desk.built_line" s_Desk_built_line) (c0 : Cal W 1 "is_kept" (spLine W.K fun l => .bl (isKept l))) (c1 : Cal W 1 "key_of" (spPart W.K keyOf)) (c2 : Cal W 1 "line_of" (spLineOf W.K)) (m1 : Met W 1 C "built_text" (spText W C)) : Met W 2 C "built_line" (spBLine W C) := by
  refine met T.cl a sc_Desk_built_line (fun _ _ _ _ _ _ us hl => match us, hl with | [_, _], _ => rfl) (fun vs H Q E h => by obtain ⟨p, ds, dt, r, kc, S, D, l, rfl, _⟩ := h; rfl) (fun f cdv A outer s H vs Q E hr h => ?_)
  obtain ⟨p, ds, dt, r, kc, S, D, l, rfl, hd, hl, hin, hlen, q⟩ := h
  obtain ⟨dx, fs, hp, fo⟩ := hd.ob
  refine ⟨_, pss_cons (ps_if (pt_val (pe_c c0 hr (pa_cons (pv 1) pa_nil))) (pss_one (ps_ret (pv 1))) pss_nil)
    (pss_cons (ps_set (i := 2) sc_Desk_built_line.nd rfl (.inl rfl) (pe_c c1 hr (pa_cons (pv 1) pa_nil)))
    (pss_one (ps_ret (pe_c c2 hr (pa_cons (pv 2) (pa_cons (pe_mt m1 hr (pv 0) (pa_cons (pv 2) pa_nil)) pa_nil)))))), ?_⟩
  refine q_when (et_B (ev_call (ea_cons (ev_var rfl) ea_nil) (sv_line (sq_of hl)))) (fun b H1 e1 => s_ret (ev_var rfl) fun H2 e2 => q r H2 (.inl rfl) (e1.trans e2) ?_) (fun b H1 e1 => ?_)
  · rw [lineOut, if_pos b]
    exact (e1.trans e2) _ _ hl
  · obtain ⟨hm, hss⟩ := hin b
    have eo : lineOut D l = keyOf l ++ 61 :: together D (numFrom (keyOf l) 0 (sentencesOf (textOf l))) := by
      rw [lineOut, if_neg (by rw [b]; decide)]
      rfl
    rw [eo] at hlen q
    rw [List.length_append, List.length_cons] at hlen
    refine q_asgP (ep_call (K := W.K) (g := keyOf) (ev_var rfl) (sq_of (e1 _ _ hl)) hm) fun kd H2 e2 hkd => ?_
    have e02 := e1.trans e2
    refine ⟨_, rfl, _, rfl, p, dx, fs, rfl, e02 _ _ hp, fo.m _ (by decide +kernel), _, rfl, p, ds, dt, kd, kc, S, D, keyOf l, _, rfl, hd.ex e02, hkd, hss, by omega, fun t H3 ht e3 h3 => ?_⟩
    refine ⟨kd, t, _, _, rfl, .inr (e3 _ _ hkd), .inl (sq_of h3), by omega, fun z H4 hz e4 h4 => ?_⟩
    exact q z H4 (.inr (fresh_back (e02.trans e3) hz)) ((e02.trans e3).trans e4) h4
/-! ### build_file -/
theorem flat_mem_len {l : List (List Nat)} {x : List Nat} (h : x ∈ l) : x.length ≤ ((l.intersperse [10]).flatten).length := by
  cases l with
  | nil => cases h
  | cons y r =>
    rw [join_cons, List.length_append]
    rcases List.mem_cons.mp h with e | h
    · rw [e]
      omega
    · have : x.length + 1 ≤ (r.flatMap fun x => 10 :: x).length := by
        induction r with
        | nil => cases h
        | cons z r ih =>
          rw [List.flatMap_cons, List.length_append, List.length_cons]
          rcases List.mem_cons.mp h with e | h
          · rw [e]
            omega
          · have := ih (List.mem_cons_of_mem _ h) h
            omega
      omega
def spBuild (W : Wd) (C : Addr) : Sp := fun vs H Q _ => ∃ (a ds dt : Addr) (kc : KC) (S D : Tab), vs = [.ref a] ∧ DeskAt W C H a ds dt kc S D ∧ (∀ l ∈ kc.ls, LineIn S l) ∧ kc.ls ≠ [] ∧ kc.ls.length ≤ 40000 ∧ (buildOut D kc.ls).length ≤ 1000000 ∧ RetL (iv (counted (buildOut D kc.ls))) H Q
theorem c_build {W : Wd} {C : Addr} (T : TxK W.K W.mg C) (a : MAt W.K C "build_file" "Desk.build_file" s_Desk_build_file) (c1 : Cal W 1 "counted" (spCounted W.K)) (c2 : Cal W 1 "file_of" (spFileOf W.K)) (m1 : Met W 2 C "built_line" (spBLine W C)) : Met W 3 C "build_file" (spBuild W C) := by
  refine met T.cl a sc_Desk_build_file (fun _ _ _ _ _ _ us hl => match us, hl with | [_], _ => rfl) (fun vs H Q E h => by obtain ⟨p, ds, dt, kc, S, D, rfl, _⟩ := h; rfl) (fun f cdv A outer s H vs Q E hr h => ?_)
  obtain ⟨p, ds, dt, kc, S, D, rfl, hd, hin, hne, hll, hlen, q⟩ := h
  obtain ⟨dx, fs, hp, fo⟩ := hd.ob
  refine ⟨_, pss_one (ps_ret (pe_c c1 hr (pa_cons (pe_c c2 hr (pa_cons (pe_lc (own := [("line", 1)]) (g := gName 1) (tt := tYes) (te := tMeth C "built_line" (spBLine W C) [] E0 (tVar 0) (tCons (tVar 1) tNil)) (by rfl) sc_Desk_build_file.nd (pi_list (pe_fld (pv 0) rfl)) (blkOk_by (own := [("line", 1)]) (N := n_Desk_build_file) (sc := defScope s_Desk_build_file) (by decide +kernel)) (fun _ _ _ _ _ => pg_name (i := 1) sc_Desk_build_file.nd rfl (Or.inl rfl))
      (fun _ _ _ _ _ => pts_nil) (fun _ _ _ _ _ => pe_mt m1 hr (pv 0) (pa_cons (pv 1) pa_nil))) pa_nil)) pa_nil))), ?_⟩
  obtain ⟨vs, hvL, hvs⟩ := hd.k.l
  have lvs : vs.length = kc.ls.length := hvs.at.len
  have lc : ∀ H1, Ex H H1 → ∀ Q : VK, (∀ z ys H2, Ex H1 H2 → H2 z = some (.lst ys) → LinesAt H2 ys (kc.ls.map (lineOut D)) → Q (.ref z) H2) →
      tLc (iList W.K (tFld W.K (tVar 0) "lines")) (gName 1) tYes (tMeth C "built_line" (spBLine W C) [] E0 (tVar 0) (tCons (tVar 1) tNil)) [1] (start n_Desk_build_file [.ref p]) H1 Q := by
    intro H1 e1 Q q
    refine ⟨.ref p, rfl, p, C, dx, fs, .ref kc.L, rfl, e1 _ _ hp, T.cl, T.nL, fo.l, kc.L, rfl, ⟨vs, sq_of (e1 _ _ hvL)⟩, fun Z hZ => ?_⟩
    have e02 := e1
    refine lc_list (K := W.K) (xs := vs) (fun i G => Ex H1 G ∧ ∃ ys, G Z = some (.lst ys) ∧ LnsAt (fun b => b ≠ Z) G ys ((kc.ls.take i).map (lineOut D))) ⟨Ex.new hZ, [], upd_same, .nil⟩ (fun i G _ ⟨e, _⟩ => sq_of ((e02.trans e) _ _ hvL)) (fun i x G hx ⟨e, ys, hG, hys⟩ => ?_) (fun G ⟨e, ys, hG, hys⟩ => ?_)
    · obtain ⟨l, hl, b, rfl, nb, hb⟩ := paired_get hvs hx
      have hi : i < kc.ls.length := (List.getElem?_eq_some_iff.mp hl).1
      have e0 := e02.trans e
      have hlm : lineOut D l ∈ kc.ls.map (lineOut D) := List.mem_map.mpr ⟨l, List.mem_of_getElem? hl, rfl⟩
      have hln := flat_mem_len hlm
      refine ⟨rfl, ?_⟩
      refine ⟨_, rfl, p, dx, fs, rfl, e0 _ _ hp, fo.m _ (by decide +kernel), _, rfl, p, ds, dt, b, kc, S, D, l, rfl, hd.ex e0, e0 _ _ hb, hin l (List.mem_of_getElem? hl), Nat.le_trans hln hlen, fun y G2 hy e3 hy2 => ?_⟩
      have hyZ : y ≠ Z := by
        rcases hy with rfl | hy
        · exact ne_of_none (e02 _ _ hb) hZ
        · exact Ne.symm (ne_of_none hG hy)
      refine ⟨ys, e3 _ _ hG, ?_, Ex.mut (e.trans e3) hZ, ys ++ [.ref y], upd_same, ?_⟩
      · have : ys.length = ((kc.ls.take i).map (lineOut D)).length := Paired.length hys
        rw [List.length_map, List.length_take] at this
        exact sz_lt (by omega)
      · rw [take_more hl, List.map_append]
        refine Paired.snoc (hys.mono fun c xs n h => ⟨n, ?_⟩) ⟨y, rfl, hyZ, ?_⟩
        · rw [upd_ne n]
          exact e3 _ _ h
        · rw [upd_ne hyZ]
          exact hy2
    · rw [lvs, List.take_length] at hys
      exact q Z ys G e hG hys.at
  have eb : buildOut D kc.ls = ((kc.ls.map (lineOut D)).intersperse [10]).flatten := rfl
  cases hc : kc.ls with
  | nil => exact absurd hc hne
  | cons l0 r0 =>
    have ec : kc.ls.map (lineOut D) = lineOut D l0 :: r0.map (lineOut D) := by rw [hc, List.map_cons]
    rw [ec] at lc
    rw [ec, join_cons] at eb
    rw [eb] at q hlen
    refine s_retL (el_counted (K := W.K) (fun H1 e1 Q q => ?_) (Nat.le_trans hlen (by decide))) q
    have g := lc H1 e1 (fun x G => spFileOf W.K ([x] ++ []) G Q E0) fun z ys H2 e2 hz hys => ⟨z, ys, _, _, rfl, sq_of hz, hys, Nat.le_trans hlen (by decide), fun t H3 ht e3 h3 => q t H3 (e2.trans e3) (.inl (sq_of h3))⟩
    exact g
/-! ### show_key -/
def spKey (W : Wd) (C : Addr) : Sp := fun vs H Q _ => ∃ (a ds dt p : Addr) (kc : KC) (S D : Tab) (k : List Nat), vs = [.ref a, .ref p] ∧ DeskAt W C H a ds dt kc S D ∧ SqL W.K H p (iv k) ∧
  (valA (textsTab kc.ls) k = none → RetI [-2] H Q) ∧
  ∀ t, valA (textsTab kc.ls) k = some t → (∀ n, valA S (k, n) = (sentencesOf t)[n]?) ∧ t.length ≤ 1000 ∧ (together D (numFrom k 0 (sentencesOf t))).length ≤ 1000000 ∧ RetL (iv (counted t ++ counted (together D (numFrom k 0 (sentencesOf t))))) H Q
theorem c_key {W : Wd} {C : Addr} (T : TxK W.K W.mg C) (TL : TxL W.K W.mg) (a : MAt W.K C "show_key" "Desk.show_key" s_Desk_show_key) (c1 : Cal W 1 "counted" (spCounted W.K)) (m1 : Met W 1 C "built_text" (spText W C)) : Met W 2 C "show_key" (spKey W C) := by
  refine met T.cl a sc_Desk_show_key (fun _ _ _ _ _ _ us hl => match us, hl with | [_, _], _ => rfl) (fun vs H Q E h => by obtain ⟨p, ds, dt, r, kc, S, D, k, rfl, _⟩ := h; rfl) (fun f cdv A outer s H vs Q E hr h => ?_)
  obtain ⟨p, ds, dt, r, kc, S, D, k, rfl, hd, hk, q1, q2⟩ := h
  obtain ⟨dx, fs, hp, fo⟩ := hd.ob
  have hu := hr.units
  refine ⟨_, pss_cons (ps_set (i := 2) sc_Desk_show_key.nd rfl (.inl rfl) (pe_callTy call_tuple_of (by rfl) TL.tuple PyProof.Rows.boot_tuple (pa_cons (pv 1) pa_nil)))
    (pss_cons (ps_if (pt_cmp (pc_nnotin hu (pv 2) (pe_fld (pv 0) rfl))) (pss_one (ps_ret (pe_lst (pa_cons (pe_gc T.NO_KEY) pa_nil)))) pss_nil)
    (pss_one (ps_ret (pe_op op_cat (pe_c c1 hr (pa_cons (pe_nget hu (pe_fld (pv 0) rfl) (pv 2) (fun _ _ => rfl)) pa_nil)) (pe_c c1 hr (pa_cons (pe_mt m1 hr (pv 0) (pa_cons (pv 2) pa_nil)) pa_nil)))))), ?_⟩
  refine q_asgP (ep_tuple1 (K := W.K) rfl hk) fun kd H1 e1 hkd => ?_
  have hnt : NT H1 (FKey.ek k) (.ref kd) := nt_tup hkd
  refine q_when (et_B (ev_snin (W := W) (F := FKey) (k := k) (en_var rfl hnt) (ev_fld (ev_var rfl) (e1 _ _ hp) T.cl T.nX fo.x) (hd.k.x.ex e1).r)) (fun b2 H2 e2 => s_retL (xs := [.int (-2)]) (el_lst (ea_cons ev_c ea_nil) (by simp)) fun t H3 ht e3 h3 => ?_) (fun b2 H2 e2 => ?_)
  · have hn : valA (textsTab kc.ls) k = none := by
      cases hv : valA (textsTab kc.ls) k with
      | none => rfl
      | some s =>
        rw [hv] at b2
        cases b2
    exact q1 hn t H3 (fresh_back (e1.trans e2) ht) ((e1.trans e2).trans e3) h3
  · have hs : (valA (textsTab kc.ls) k).isSome = true := by simpa using b2
    obtain ⟨t, ht⟩ := Option.isSome_iff_exists.mp hs
    obtain ⟨hss, htl, hlen, q⟩ := q2 t ht
    have e02 := e1.trans e2
    rw [iv_app] at q
    refine s_retL (el_catS (el_counted (K := W.K) (eq_of_p (ep_sget (W := W) (F := FKey) (k := k) (K := W.K) (ev_fld (ev_var rfl) (e02 _ _ hp) T.cl T.nX fo.x) (en_var rfl (nt_ex e2 hnt)) (hd.k.x.ex e02).r ht)) (by omega)) (el_counted (K := W.K) (fun H3 e3 Q q => ?_) (Nat.le_trans hlen (by decide))) ?_) fun z H3 hz e3 h3 => q z H3 (fresh_back e02 hz) (e02.trans e3) h3
    · have e03 := e02.trans e3
      refine ⟨_, rfl, p, dx, fs, rfl, e03 _ _ hp, fo.m _ (by decide +kernel), _, rfl, p, ds, dt, kd, kc, S, D, k, _, rfl, hd.ex e03, (e2.trans e3) _ _ hkd, hss, hlen, fun z H4 hz e4 h4 => q z H4 e4 (.inl (sq_of h4))⟩
    · rw [iv_len, iv_len, sizeLine_eq]
      show t.length + 1 + (_ + 1) ≤ _
      omega
end Fo

set_option linter.all false
namespace Fo
/-! ### where a call lies in the list -/
def RowAt (m : List Nat) (i : Nat) (w : List Nat) (j : Nat) : Prop := m[i]? = some w.length ∧ (m.drop (i + 1)).take w.length = w ∧ j = i + 1 + w.length
def Lies (m : List Nat) (i : Nat) : Ut13.Call → Nat → Prop
  | .file w, j => m[i]? = some 0 ∧ RowAt m (i + 1) w j
  | .newer w, j => m[i]? = some 1 ∧ RowAt m (i + 1) w j
  | .list, j => m[i]? = some 2 ∧ j = i + 1
  | .sentence k n, j => m[i]? = some 3 ∧ m[i + 1]? = some n ∧ RowAt m (i + 2) k j
  | .done k n w, j => m[i]? = some 4 ∧ m[i + 1]? = some n ∧ ∃ h, RowAt m (i + 2) k h ∧ RowAt m h w j
  | .undone k n, j => m[i]? = some 5 ∧ m[i + 1]? = some n ∧ RowAt m (i + 2) k j
  | .build, j => m[i]? = some 6 ∧ j = i + 1
  | .todo, j => m[i]? = some 7 ∧ j = i + 1
  | .key k, j => m[i]? = some 8 ∧ RowAt m (i + 1) k j
theorem head_of {m r : List Nat} {i p : Nat} (h : m.drop i = p :: r) : m[i]? = some p ∧ r = m.drop (i + 1) := by
  have h1 : (m.drop i)[0]? = some p := by rw [h]; rfl
  rw [List.getElem?_drop] at h1
  refine ⟨h1, ?_⟩
  have h2 : (m.drop i).drop 1 = r := by rw [h]; rfl
  rw [List.drop_drop] at h2
  exact h2.symm
theorem row_at {m w r : List Nat} {i : Nat} (h : rowN (m.drop i) = some (w, r)) : ∃ j, RowAt m i w j ∧ r = m.drop j ∧ j ≤ m.length := by
  cases e : m.drop i with
  | nil =>
    rw [e] at h
    cases h
  | cons n t =>
    rw [e] at h
    obtain ⟨h1, h2⟩ := head_of e
    have h' : (if n ≤ t.length then some (t.take n, t.drop n) else none) = some (w, r) := h
    by_cases c : n ≤ t.length
    · rw [if_pos c] at h'
      injection h' with h'
      injection h' with e1 e2
      have hl : w.length = n := by rw [← e1, List.length_take]; omega
      refine ⟨i + 1 + w.length, ⟨by rw [hl]; exact h1, by rw [hl, ← h2]; exact e1, rfl⟩, ?_, ?_⟩
      · rw [← e2, h2, List.drop_drop, hl]
      · rw [h2, List.length_drop] at c
        rw [hl]
        have hi : i < m.length := (List.getElem?_eq_some_iff.mp h1).1
        omega
    · rw [if_neg c] at h'
      cases h'
theorem lies_of {m r : List Nat} {i : Nat} {x : Ut13.Call} (h : callN (m.drop i) = some (x, r)) : ∃ j, Lies m i x j ∧ r = m.drop j ∧ j ≤ m.length := by
  cases e : m.drop i with
  | nil =>
    rw [e] at h
    cases h
  | cons p t =>
    rw [e, callN_cons] at h
    obtain ⟨hp, ht⟩ := head_of e
    have hi : i < m.length := (List.getElem?_eq_some_iff.mp hp).1
    have one : ∀ {c : List Nat → Ut13.Call}, ((rowN t).map fun y => (c y.1, y.2)) = some (x, r) → ∃ w j, x = c w ∧ RowAt m (i + 1) w j ∧ r = m.drop j ∧ j ≤ m.length := fun {c} z => by
      obtain ⟨y, hy, hz⟩ := Option.map_eq_some_iff.mp z
      injection hz with z1 z2
      rw [ht] at hy
      obtain ⟨j, q1, q2, q3⟩ := row_at (w := y.1) (r := y.2) hy
      exact ⟨y.1, j, z1.symm, q1, by rw [← z2]; exact q2, q3⟩
    have two : ∀ {c : List Nat → Nat → Ut13.Call}, (match t with | [] => none | n :: t => (rowN t).map fun y => (c y.1 n, y.2)) = some (x, r) → ∃ w n j, x = c w n ∧ m[i + 1]? = some n ∧ RowAt m (i + 2) w j ∧ r = m.drop j ∧ j ≤ m.length := fun {c} z => by
      cases et : t with
      | nil =>
        rw [et] at z
        cases z
      | cons n t2 =>
        rw [et] at z
        rw [ht] at et
        obtain ⟨hn, ht2⟩ := head_of et
        obtain ⟨y, hy, hz⟩ := Option.map_eq_some_iff.mp z
        injection hz with z1 z2
        rw [ht2] at hy
        obtain ⟨j, q1, q2, q3⟩ := row_at (w := y.1) (r := y.2) hy
        exact ⟨y.1, n, j, z1.symm, hn, q1, by rw [← z2]; exact q2, q3⟩
    have none_ : ∀ {c : Ut13.Call}, some (c, t) = some (x, r) → x = c ∧ r = m.drop (i + 1) := fun {c} z => by
      injection z with z
      injection z with z1 z2
      exact ⟨z1.symm, by rw [← z2]; exact ht⟩
    by_cases c0 : p = 0
    · rw [if_pos c0] at h
      obtain ⟨w, j, rfl, q⟩ := one h
      exact ⟨j, ⟨by rw [← c0]; exact hp, q.1⟩, q.2⟩
    rw [if_neg c0] at h
    by_cases c1 : p = 1
    · rw [if_pos c1] at h
      obtain ⟨w, j, rfl, q⟩ := one h
      exact ⟨j, ⟨by rw [← c1]; exact hp, q.1⟩, q.2⟩
    rw [if_neg c1] at h
    by_cases c2 : p = 2
    · rw [if_pos c2] at h
      obtain ⟨rfl, q⟩ := none_ h
      exact ⟨i + 1, ⟨by rw [← c2]; exact hp, rfl⟩, q, hi⟩
    rw [if_neg c2] at h
    by_cases c3 : p = 3
    · rw [if_pos c3] at h
      obtain ⟨w, n, j, rfl, q⟩ := two h
      exact ⟨j, ⟨by rw [← c3]; exact hp, q.1, q.2.1⟩, q.2.2⟩
    rw [if_neg c3] at h
    by_cases c4 : p = 4
    · rw [if_pos c4] at h
      cases et : t with
      | nil =>
        rw [et] at h
        cases h
      | cons n t2 =>
        rw [et] at h
        rw [ht] at et
        obtain ⟨hn, ht2⟩ := head_of et
        obtain ⟨y, hy, hz⟩ := Option.bind_eq_some_iff.mp h
        obtain ⟨y2, hy2, hz2⟩ := Option.map_eq_some_iff.mp hz
        injection hz2 with z1 z2
        rw [ht2] at hy
        obtain ⟨j, q1, q2, q3⟩ := row_at (w := y.1) (r := y.2) hy
        rw [q2] at hy2
        obtain ⟨j2, p1, p2, p3⟩ := row_at (w := y2.1) (r := y2.2) hy2
        subst z1
        exact ⟨j2, ⟨by rw [← c4]; exact hp, hn, j, q1, p1⟩, by rw [← z2]; exact p2, p3⟩
    rw [if_neg c4] at h
    by_cases c5 : p = 5
    · rw [if_pos c5] at h
      obtain ⟨w, n, j, rfl, q⟩ := two h
      exact ⟨j, ⟨by rw [← c5]; exact hp, q.1, q.2.1⟩, q.2.2⟩
    rw [if_neg c5] at h
    by_cases c6 : p = 6
    · rw [if_pos c6] at h
      obtain ⟨rfl, q⟩ := none_ h
      exact ⟨i + 1, ⟨by rw [← c6]; exact hp, rfl⟩, q, hi⟩
    rw [if_neg c6] at h
    by_cases c7 : p = 7
    · rw [if_pos c7] at h
      obtain ⟨rfl, q⟩ := none_ h
      exact ⟨i + 1, ⟨by rw [← c7]; exact hp, rfl⟩, q, hi⟩
    rw [if_neg c7] at h
    by_cases c8 : p = 8
    · rw [if_pos c8] at h
      obtain ⟨w, j, rfl, q⟩ := one h
      exact ⟨j, ⟨by rw [← c8]; exact hp, q.1⟩, q.2⟩
    rw [if_neg c8] at h
    cases h
theorem plays_step {m : List Nat} {i : Nat} {x : Ut13.Call} {xs : List Ut13.Call} (h : Plays (m.drop i) (x :: xs)) : ∃ j, Lies m i x j ∧ Plays (m.drop j) xs ∧ j ≤ m.length := by
  generalize hz : m.drop i = z at h
  cases h with
  | cons h1 h2 =>
    obtain ⟨j, a, b, c⟩ := lies_of (hz.symm ▸ h1)
    rw [b] at h2
    exact ⟨j, a, h2, c⟩
theorem plays_end {m : List Nat} {i : Nat} (h : Plays (m.drop i) []) : m.length ≤ i := by
  have e : m.drop i = [] := by
    generalize m.drop i = z at h
    cases h
    rfl
  exact List.drop_eq_nil_iff.mp e
theorem lies_lt {m : List Nat} {i j : Nat} {x : Ut13.Call} (h : Lies m i x j) : i < m.length := by
  have : ∃ p, m[i]? = some p := by
    cases x <;> exact ⟨_, h.1⟩
  obtain ⟨p, h⟩ := this
  exact (List.getElem?_eq_some_iff.mp h).1
/-- behind these calls -/
def after (g : Ut13.St) : List Ut13.Call → Ut13.St
  | [] => g
  | x :: xs => after (Ut13.step g x).1 xs
theorem after_snoc : ∀ (xs : List Ut13.Call) (g : Ut13.St) (x : Ut13.Call), after g (xs ++ [x]) = (Ut13.step (after g xs) x).1
  | [], g, x => rfl
  | y :: xs, g, x => after_snoc xs _ x
theorem due_snoc : ∀ (xs : List Ut13.Call) (g : Ut13.St) (x : Ut13.Call), due g (xs ++ [x]) = due g xs ++ [(Ut13.step (after g xs) x).2]
  | [], g, x => rfl
  | y :: xs, g, x => by
    show (Ut13.step g y).2 :: due _ (xs ++ [x]) = (Ut13.step g y).2 :: (due _ xs ++ [_])
    rw [due_snoc xs]
    rfl
theorem due_app : ∀ (xs ys : List Ut13.Call) (g : Ut13.St), due g (xs ++ ys) = due g xs ++ due (after g xs) ys
  | [], ys, g => rfl
  | x :: xs, ys, g => by
    show (Ut13.step g x).2 :: due _ (xs ++ ys) = (Ut13.step g x).2 :: (due _ xs ++ _)
    rw [due_app xs]
    rfl
theorem due_len : ∀ (xs : List Ut13.Call) (g : Ut13.St), (due g xs).length = xs.length
  | [], _ => rfl
  | x :: xs, g => by
    show (due _ xs).length + 1 = xs.length + 1
    rw [due_len xs]
theorem lens_app (a b : List (List Int)) : lens (a ++ b) = lens a + lens b := by
  unfold lens
  rw [List.map_append, List.sum_append]
theorem told_len : ∀ l : List (List Int), (PyFlat.told l).length = lens l + l.length
  | [] => rfl
  | a :: l => by
    have ih := told_len l
    show ((a.length : Int) :: a ++ PyFlat.told l).length = (a.length + lens l) + (l.length + 1)
    rw [List.length_append, List.length_cons, ih]
    omega
end Fo

set_option Elab.async false
set_option linter.all false
set_option maxRecDepth 100000
set_option maxHeartbeats 2000000
namespace Fo
open PySem PySem.Spec PyProof.Rows L2 Evl
/-! ### sizes -/
theorem total_app (a b : List (List Nat)) : total (a ++ b) = total a + total b := by
  unfold total
  rw [List.map_append, List.sum_append]
theorem total_things : ∀ (n : Nat) (l : List Nat), l.length ≤ n → total (thingsOf l) = l.length
  | 0, l, h => by
    have : l = [] := List.length_eq_zero_iff.mp (by omega)
    rw [this, thingsOf_nil]
    rfl
  | n + 1, l, h => by
    by_cases e : l = []
    · rw [e, thingsOf_nil]
      rfl
    · have h1 := sizeAt_pos l
      have h2 : 0 < l.length := List.length_pos_iff.mpr e
      have ih := total_things n (l.drop (sizeAt l)) (by rw [List.length_drop]; omega)
      rw [thingsOf_cons e]
      show (l.take (sizeAt l)).length + total (thingsOf (l.drop (sizeAt l))) = l.length
      rw [ih, List.length_take, List.length_drop]
      omega
theorem total_sent : ∀ (ts : List (List Nat)) (cur : List Nat) (d : Int) (e : Nat), total (sentGo cur d e ts) = cur.length + total ts
  | [], cur, d, e => by
    rw [sentGo]
    split
    · next h =>
      rw [h]
      rfl
    · rfl
  | t :: r, cur, d, e => by
    rw [sentGo]
    split
    · show cur.length + total (sentGo t _ _ r) = cur.length + (t.length + total r)
      rw [total_sent r]
    · rw [total_sent r, List.length_append]
      show _ = cur.length + (t.length + total r)
      omega
theorem total_sents (t : List Nat) : total (sentencesOf t) = t.length := by
  show total (sentGo [] 0 0 (thingsOf t)) = _
  rw [total_sent, total_things _ t (Nat.le_refl _)]
  exact Nat.zero_add _
theorem keyOf_le (l : List Nat) : (keyOf l).length ≤ l.length := by
  induction l with
  | nil => exact Nat.le_refl _
  | cons b r ih =>
    unfold keyOf at ih ⊢
    rw [List.takeWhile_cons]
    split
    · rw [List.length_cons, List.length_cons]
      omega
    · exact Nat.zero_le _
theorem num_val (k : List Nat) : ∀ (l : List (List Nat)) (i : Nat) (x : (List Nat × Nat) × List Nat), x ∈ numFrom k i l → x.2 ∈ l
  | [], i, x, h => by cases h
  | s :: r, i, x, h => by
    rcases List.mem_cons.mp h with e | h
    · rw [e]
      exact List.mem_cons_self ..
    · exact List.mem_cons_of_mem _ (num_val k r (i + 1) x h)
theorem numLine_small {l : List Nat} {x : (List Nat × Nat) × List Nat} (h : x ∈ numLine l) : x.1.1.length ≤ l.length ∧ x.2.length ≤ l.length := by
  have h1 := (numFrom_keys _ _ _ x h).1
  have h2 := num_val _ _ _ x h
  refine ⟨by rw [h1]; exact keyOf_le l, ?_⟩
  have h3 := len_total h2
  rw [total_sents] at h3
  unfold textOf at h3
  rw [List.length_drop] at h3
  omega
theorem first_mem (S : Tab) : ∀ (D : Tab) (acc : List ((List Nat × List Nat) × List Nat)) (x : (List Nat × List Nat) × List Nat), x ∈ firstDone S D acc → x ∈ acc ∨ ∃ y ∈ D, y.2 = x.2
  | [], acc, x, h => .inl h
  | d :: D, acc, x, h => by
    rw [firstDone] at h
    rcases first_mem S D _ x h with h | ⟨y, hy, e⟩
    · split at h
      · exact .inl h
      · rcases List.mem_append.mp h with h | h
        · exact .inl h
        · rw [List.mem_singleton.mp h]
          exact .inr ⟨d, List.mem_cons_self .., rfl⟩
    · exact .inr ⟨y, List.mem_cons_of_mem _ hy, e⟩
theorem gets_mem {S D : Tab} {x : (List Nat × Nat) × List Nat} {t : List Nat} (h : gets S D x = some t) : ∃ y ∈ D, y.2 = t := by
  unfold gets at h
  split at h
  · exact ⟨_, valA_some h, rfl⟩
  · rcases first_mem S D [] _ (valA_some h) with h | h
    · cases h
    · exact h
theorem bo_val {S D N : Tab} {x : (List Nat × Nat) × List Nat} (h : x ∈ broughtOver S D N) : ∃ y ∈ D, y.2 = x.2 := by
  obtain ⟨y, hy, e⟩ := List.mem_filterMap.mp h
  cases hg : gets S D y with
  | none =>
    rw [hg] at e
    cases e
  | some t =>
    rw [hg] at e
    have e' : some (y.1, t) = some x := e
    injection e' with e'
    rw [← e']
    exact gets_mem hg
/-! ### what holds between two calls -/
structure Bnd (g : Ut13.St) (ls : List (List Nat)) : Prop where
  wf : WF g
  fit : Fit ls g.file.lines
  tot : total ls ≤ 400
  tr : ∀ x ∈ tabD g.done, x.2.length ≤ 100
  ne : ls ≠ []
  len : ls.length ≤ 1000
section
variable {g : Ut13.St} {ls : List (List Nat)}
theorem Bnd.sents (b : Bnd g ls) : tabS g.file = (filled ls).flatMap numLine := by
  rw [tabS_eq]
  exact (fit_tab b.fit).1.symm
theorem Bnd.totf (b : Bnd g ls) : total (filled ls) ≤ 400 := Nat.le_trans (total_filter _ ls) b.tot
theorem Bnd.slen (b : Bnd g ls) : (tabS g.file).length ≤ 400 := by
  rw [b.sents]
  exact Nat.le_trans (flat_len _ (fit_tab b.fit).2.2) b.totf
theorem Bnd.small (b : Bnd g ls) : ∀ x ∈ tabS g.file, x.1.1.length ≤ 400 ∧ x.2.length ≤ 400 := by
  intro x hx
  rw [b.sents] at hx
  obtain ⟨l, hl, hx⟩ := List.mem_flatMap.mp hx
  have h1 := numLine_small hx
  have h2 := len_total hl
  have h3 := b.totf
  omega
theorem Bnd.in (b : Bnd g ls) : ∀ x ∈ tabD g.done, (valA (tabS g.file) x.1).isSome = true := by
  intro x hx
  obtain ⟨d, hd, rfl⟩ := List.mem_map.mp hx
  show (valA (tabS g.file) (d.key, d.at_)).isSome = true
  rw [valA_tabS b.wf, b.wf.done d hd]
  rfl
theorem Bnd.dlen (b : Bnd g ls) : (tabD g.done).length ≤ 400 := by
  have e : (tabD g.done).map (·.1) = g.done.map fun d => (d.key, d.at_) := by
    unfold tabD
    rw [List.map_map]
    rfl
  have nd : ((tabD g.done).map (·.1)).Nodup := by rw [e]; exact b.wf.nd
  have sub : (tabD g.done).map (·.1) ⊆ (tabS g.file).map (·.1) := by
    intro k hk
    obtain ⟨x, hx, rfl⟩ := List.mem_map.mp hk
    have := b.in x hx
    cases hv : valA (tabS g.file) x.1 with
    | none =>
      rw [hv] at this
      cases this
    | some s => exact List.mem_map.mpr ⟨_, valA_some hv, rfl⟩
  have := List.Nodup.length_le_of_subset nd sub
  rw [List.length_map, List.length_map] at this
  exact Nat.le_trans this b.slen
theorem Bnd.keys (b : Bnd g ls) : (Ut13.keysOf g.file.lines).length = (filled ls).length := by
  rw [← (fit_tab b.fit).2.1, List.length_map]
theorem Bnd.told (b : Bnd g ls) : Ut13.told g = [((filled ls).length : Int), ((tabS g.file).length : Int), ((tabD g.done).length : Int)] := by
  rw [told_eq b.wf, b.keys]
end
/-- all but instances and dicts is as it was -/
def LT (H H' : Hp) : Prop := ∀ b o, H b = some o → (∀ C dx fs, o ≠ .ins C dx fs) → (∀ φ, o ≠ .ext φ) → H' b = some o
theorem LT.of_ex {H H' : Hp} (e : Ex H H') : LT H H' := fun b o h _ _ => e b o h
theorem LT.of_ne {H H' : Hp} (e : NEx none H H') : LT H H' := fun b o h _ n => e.k b o h n (fun z => nomatch z)
theorem LT.of_ch {H H' : Hp} {a C dx : Addr} {fs : List (Str × V)} (e : Ch a H H') (ha : H a = some (.ins C dx fs)) : LT H H' := fun b o h n _ => e b o h (ne_of h ha (n C dx fs))
theorem LT.trans {H H1 H2 : Hp} (x : LT H H1) (y : LT H1 H2) : LT H H2 := fun b o h n m => y b o (x b o h n m) n m
theorem LT.lst {H H' : Hp} (x : LT H H') {b : Addr} {xs : List V} (h : H b = some (.lst xs)) : H' b = some (.lst xs) := x b _ h (fun _ _ _ z => nomatch z) (fun _ z => nomatch z)
theorem LT.sql {K : PySem.W.Frag} {H H' : Hp} (x : LT H H') {b : Addr} {xs : List V} (h : SqL K H b xs) : SqL K H' b xs := by
  rcases h with (h | ⟨o, h⟩) | h
  · exact .inl (.inl (x.lst h))
  · exact .inl (.inr ⟨o, x b _ h (fun _ _ _ z => nomatch z) (fun _ z => nomatch z)⟩)
  · exact .inr h
/-- the desk stands for g; the list at A is none of its own -/
def Stands (W : Wd) (C : Addr) (H : Hp) (a : Addr) (g : Ut13.St) (A : Addr) : Prop := ∃ (ds dt : Addr) (kc : KC), DeskAt W C H a ds dt kc (tabS g.file) (tabD g.done) ∧ Bnd g kc.ls ∧ ∀ b, kc.N b → b ≠ A
theorem Stands.ex {W : Wd} {C a A : Addr} {H H' : Hp} {g : Ut13.St} (h : Stands W C H a g A) (e : Ex H H') : Stands W C H' a g A := let ⟨ds, dt, kc, h1, h2⟩ := h; ⟨ds, dt, kc, h1.ex e, h2⟩
theorem DeskAt.ch {W : Wd} {C a ds dt b D dx : Addr} {H H' : Hp} {kc : KC} {S T : Tab} {fs : List (Str × V)} (h : DeskAt W C H a ds dt kc S T) (e : Ch b H H') (hb : H b = some (.ins D dx fs)) (n : a ≠ b) : DeskAt W C H' a ds dt kc S T where
  ob := let ⟨dx, fs, h1, h2⟩ := h.ob; ⟨dx, fs, e _ _ h1 n, h2⟩
  s := h.s.keeps (fun c xs q => e _ _ q (ne_of q hb (fun z => nomatch z))) fun o q => by
    obtain ⟨φ, hx⟩ := h.s.isExt
    exact e _ _ q (ne_of hx hb (fun z => nomatch z))
  t := h.t.keeps (fun c xs q => e _ _ q (ne_of q hb (fun z => nomatch z))) fun o q => by
    obtain ⟨φ, hx⟩ := h.t.isExt
    exact e _ _ q (ne_of hx hb (fun z => nomatch z))
  ne := h.ne
  k := h.k.keeps (fun c xs q => e _ _ q (ne_of q hb (fun z => nomatch z))) (fun c xs _ q => e _ _ q (ne_of q hb (fun z => nomatch z))) fun o q => by
    obtain ⟨φ, hx⟩ := h.k.x.isExt
    exact e _ _ q (ne_of hx hb (fun z => nomatch z))
  ks := h.ks
  kt := h.kt
theorem Stands.ch {W : Wd} {C a b D dx A : Addr} {H H' : Hp} {g : Ut13.St} {fs : List (Str × V)} (h : Stands W C H a g A) (e : Ch b H H') (hb : H b = some (.ins D dx fs)) (n : a ≠ b) : Stands W C H' a g A := let ⟨ds, dt, kc, h1, h2⟩ := h; ⟨ds, dt, kc, h1.ch e hb n, h2⟩
theorem Stands.chL {W : Wd} {C a A : Addr} {H H' : Hp} {g : Ut13.St} {xs : List V} (h : Stands W C H a g A) (e : Ch A H H') (hb : H A = some (.lst xs)) : Stands W C H' a g A := by
  obtain ⟨ds, dt, kc, h1, h2, h3⟩ := h
  refine ⟨ds, dt, kc, ⟨?_, h1.s.keeps (fun c xs q => e _ _ q (ne_of q hb (fun z => nomatch z))) fun o q => ?_, h1.t.keeps (fun c xs q => e _ _ q (ne_of q hb (fun z => nomatch z))) fun o q => ?_, h1.ne, h1.k.keeps (fun c xs q => e _ _ q (ne_of q hb (fun z => nomatch z))) (fun c xs n q => e _ _ q (h3 c n)) fun o q => ?_, h1.ks, h1.kt⟩, h2, h3⟩
  · obtain ⟨dx, fs, h3, h4⟩ := h1.ob
    exact ⟨dx, fs, e _ _ h3 (ne_of h3 hb (fun z => nomatch z)), h4⟩
  · obtain ⟨φ, hx⟩ := h1.s.isExt
    exact e _ _ q (ne_of hx hb (fun z => nomatch z))
  · obtain ⟨φ, hx⟩ := h1.t.isExt
    exact e _ _ q (ne_of hx hb (fun z => nomatch z))
  · obtain ⟨φ, hx⟩ := h1.k.x.isExt
    exact e _ _ q (ne_of hx hb (fun z => nomatch z))
/-- the places of the lines, told otherwise -/
theorem DeskAt.places {W : Wd} {C a ds dt : Addr} {H : Hp} {L X : Addr} {ls : List (List Nat)} {N N' : Addr → Prop} {S T : Tab} (h : DeskAt W C H a ds dt ⟨L, X, ls, N⟩ S T) (k : ∀ b xs, N b → H b = some (.lst xs) → N' b) : DeskAt W C H a ds dt ⟨L, X, ls, N'⟩ S T where
  ob := let ⟨dx, fs, h1, h2⟩ := h.ob; ⟨dx, fs, h1, ⟨h2.l, h2.x, h2.s, h2.t, h2.m, h2.n⟩⟩
  s := h.s
  t := h.t
  ne := h.ne
  k := let ⟨vs, h1, h2⟩ := h.k.l; ⟨h.k.x, k _ _ h.k.n h1, vs, h1, h2.mono fun b xs n q => ⟨k b xs n q, q⟩⟩
  ks := h.ks
  kt := h.kt
theorem bnd_init : Bnd Ut13.init [[]] := ⟨wf_init, init_fit, Nat.zero_le _, (fun x h => by cases h), (fun h => by cases h), Nat.le_succ_of_le (by decide : 1 ≤ 999)⟩
/-! ### the tables of the lines -/
theorem valA_flatN (n : Nat) : ∀ {fl : List (List Nat)} {l : List Nat}, (fl.map keyOf).Nodup → l ∈ fl → valA (fl.flatMap numLine) (keyOf l, n) = (sentencesOf (textOf l))[n]?
  | x :: r, l, nd, h => by
    rw [List.map_cons, List.nodup_cons] at nd
    rw [List.flatMap_cons, valA_app]
    rcases List.mem_cons.mp h with e | h
    · subst e
      have e1 : valA (numLine l) (keyOf l, n) = (sentencesOf (textOf l))[n]? := by
        have := valA_num (keyOf l) (sentencesOf (textOf l)) 0 n
        rw [Nat.zero_add] at this
        exact this
      have e2 : valA (r.flatMap numLine) (keyOf l, n) = none := valA_none fun y hy z => by
        obtain ⟨l', hl', hy'⟩ := List.mem_flatMap.mp hy
        have := (numFrom_keys _ _ _ y hy').1
        rw [congrArg Prod.fst z] at this
        exact nd.1 (List.mem_map.mpr ⟨l', hl', this.symm⟩)
      rw [e1, e2, Option.or_none]
    · have e1 : valA (numLine x) (keyOf l, n) = none := valA_none fun y hy z => by
        have := (numFrom_keys _ _ _ y hy).1
        rw [congrArg Prod.fst z] at this
        replace this : keyOf l = keyOf x := this
        exact nd.1 (List.mem_map.mpr ⟨l, h, this⟩)
      rw [e1, Option.none_or]
      exact valA_flatN n nd.2 h
theorem valA_texts (k : List Nat) : ∀ fl : List (List Nat), valA (fl.map fun l => (keyOf l, textOf l)) k = (fl.find? fun l => decide (keyOf l = k)).map textOf
  | [] => rfl
  | l :: r => by
    rw [List.map_cons, List.find?_cons]
    by_cases e : keyOf l = k
    · rw [valA_pos (p := (keyOf l, textOf l)) e, decide_eq_true e]
      rfl
    · rw [valA_neg (p := (keyOf l, textOf l)) e, decide_eq_false e]
      exact valA_texts k r
theorem textsTab_for (ls : List (List Nat)) (k : List Nat) : valA (textsTab ls) k = (lineFor ls k).map textOf := valA_texts k (filled ls)
section
variable {g : Ut13.St} {ls : List (List Nat)}
theorem Bnd.nodup (b : Bnd g ls) : ((filled ls).map keyOf).Nodup := by
  rw [(fit_tab b.fit).2.1]
  exact b.wf.keys
theorem Bnd.line (b : Bnd g ls) {l : List Nat} (h : l ∈ filled ls) (n : Nat) : valA (tabS g.file) (keyOf l, n) = (sentencesOf (textOf l))[n]? := by
  rw [b.sents]
  exact valA_flatN n b.nodup h
theorem Bnd.lineIn (b : Bnd g ls) : ∀ l ∈ ls, LineIn (tabS g.file) l := fun l hl hk => by
  have hf : l ∈ filled ls := List.mem_filter.mpr ⟨hl, by rw [hk]; rfl⟩
  exact ⟨(fit_tab b.fit).2.2 l hf, b.line hf⟩
end
end Fo

set_option Elab.async false
set_option linter.all false
set_option maxRecDepth 100000
set_option maxHeartbeats 2000000
namespace Fo
open PySem PySem.Spec PyProof.Rows L2 Evl
/-! ### each call of the desk, held against what is due -/
/-- all but the object at a and dicts is as it was -/
def DK (a : Addr) (H H' : Hp) : Prop := ∀ b o, H b = some o → b ≠ a → (∀ φ, o ≠ .ext φ) → H' b = some o
theorem DK.of_ex {a : Addr} {H H' : Hp} (e : Ex H H') : DK a H H' := fun b o h _ _ => e b o h
theorem DK.of_ch {a : Addr} {H H' : Hp} (e : Ch a H H') : DK a H H' := fun b o h n _ => e b o h n
theorem DK.of_ne {a : Addr} {H H' : Hp} (e : NEx none H H') : DK a H H' := fun b o h _ n => e.k b o h n (fun z => nomatch z)
def After (W : Wd) (C a A : Addr) (g : Ut13.St) (x : Ut13.Call) (H : Hp) (Q : VK) : Prop := ∀ t H', H t = none → DK a H H' → Stands W C H' a (Ut13.step g x).1 A → H' t = some (.lst ((Ut13.step g x).2.map V.int)) → Q (.ref t) H'
section
variable {W : Wd} {C a A p r : Addr} {H : Hp} {g : Ut13.St} {Q : VK} {E : XK} {w k : List Nat} {i : Nat}
/-- nothing changes -/
theorem After.same {x : Ut13.Call} {l : List Int} (h : After W C a A g x H Q) (hs : Stands W C H a g A) (e : Ut13.step g x = (g, l)) : RetI l H Q := fun t H' ht e1 h1 => by
  refine h t H' ht (DK.of_ex e1) ?_ ?_
  · rw [e]
    exact hs.ex e1
  · rw [e]
    exact h1
theorem total_linesOf (w : List Nat) : total (linesOf w) ≤ w.length := by
  have := total_lines w []
  have e : ([] : List Nat).length = 0 := rfl
  show total (linesGo [] w) ≤ _
  omega
theorem bytes_le {m : Nat} (h : isBytes m w = true) : w.length ≤ m := by
  unfold isBytes at h
  rw [Bool.and_eq_true, decide_eq_true_eq] at h
  exact h.1
theorem lines_ne (w : List Nat) : ∀ line : List Nat, linesGo line w ≠ [] := by
  induction w with
  | nil => exact fun line h => by cases h
  | cons b r ih =>
    intro line h
    rw [linesGo] at h
    split at h
    · cases h
    · exact ih _ h
/-- the desk behind a file that is taken -/
theorem laid {x : Ut13.Call} {g' : Ut13.St} {D' : Tab} {xs : List V} (h : After W C a A g x H Q) (hA : H A = some (.lst xs)) (e : Ut13.step g x = (g', Ut13.told g')) (wf : WF g') (hb : isBytes 400 w = true) (fit : Fit (linesOf w) g'.file.lines) (hD : tabD g'.done = D') (htr : ∀ x ∈ D', x.2.length ≤ 100) :
    ∀ t ds' dt' L' tx' H', H t = none → Ch a H H' → DeskAt W C H' a ds' dt' ⟨L', tx', linesOf w, fun b => H b = none⟩ (newSents w) D' → H' t = some (.lst ([((filled (linesOf w)).length : Int), ((newSents w).length : Int), (D'.length : Int)].map V.int)) → Q (.ref t) H' := by
  intro t ds' dt' L' tx' H' ht ch hd ht'
  have lw := bytes_le hb
  have b : Bnd g' (linesOf w) := ⟨wf, fit, Nat.le_trans (total_linesOf w) lw, by rw [hD]; exact htr, lines_ne w [], by
    have := (linesGo_len w []).1
    show (linesGo [] w).length ≤ 1000
    omega⟩
  have eS : newSents w = tabS g'.file := b.sents.symm
  refine h t H' ht (DK.of_ch ch) ?_ ?_
  · rw [e]
    refine ⟨ds', dt', ⟨L', tx', linesOf w, fun b => H b = none⟩, ?_, b, fun b n => Ne.symm (ne_of_none hA n)⟩
    show DeskAt W C H' a ds' dt' _ (tabS g'.file) (tabD g'.done)
    rw [← eS, hD]
    exact hd
  · rw [e]
    show H' t = some (.lst ((Ut13.told g').map V.int))
    rw [b.told, ← eS, hD]
    exact ht'
theorem file_sp {xs : List V} (hs : Stands W C H a g A) (hA : H A = some (.lst xs)) (hw : SqL W.K H p (iv w)) (hl : w.length ≤ 40000) (h : After W C a A g (.file w) H Q) : spLayAs W C false [.ref a, .ref p] H Q E := by
  obtain ⟨ds, dt, kc, hd, b, hN⟩ := hs
  refine ⟨a, p, rfl, a, ds, dt, p, _, _, _, w, false, rfl, hd, hw, hl, b.in, Nat.le_trans b.dlen (by decide), fun hb => ?_, fun z hb hf => ?_, fun hb hf => ?_⟩
  · rcases step_file (g := g) w with ⟨_, e⟩ | ⟨hb', _⟩ | ⟨hb', _⟩
    · exact h.same ⟨ds, dt, kc, hd, b, hN⟩ e
    · rw [hb] at hb'; cases hb'
    · rw [hb] at hb'; cases hb'
  · rcases step_file (g := g) w with ⟨hb', _⟩ | ⟨_, z', hz, e⟩ | ⟨_, hf', _⟩
    · rw [hb] at hb'; cases hb'
    · rw [hf] at hz
      cases hz
      exact h.same ⟨ds, dt, kc, hd, b, hN⟩ e
    · rw [hf] at hf'; cases hf'
  · rcases step_file (g := g) w with ⟨hb', _⟩ | ⟨_, z', hz, e⟩ | ⟨_, _, g', e, wf, fit, hD⟩
    · rw [hb] at hb'; cases hb'
    · rw [hf] at hz; cases hz
    · exact laid h hA e wf hb fit hD (fun x hx => by cases hx)
theorem newer_sp {xs : List V} (hs : Stands W C H a g A) (hA : H A = some (.lst xs)) (hw : SqL W.K H p (iv w)) (hl : w.length ≤ 40000) (h : After W C a A g (.newer w) H Q) : spLayAs W C true [.ref a, .ref p] H Q E := by
  obtain ⟨ds, dt, kc, hd, b, hN⟩ := hs
  refine ⟨a, p, rfl, a, ds, dt, p, _, _, _, w, true, rfl, hd, hw, hl, b.in, Nat.le_trans b.dlen (by decide), fun hb => ?_, fun z hb hf => ?_, fun hb hf => ?_⟩
  · rcases step_newer b.wf w with ⟨_, e⟩ | ⟨hb', _⟩ | ⟨hb', _⟩
    · exact h.same ⟨ds, dt, kc, hd, b, hN⟩ e
    · rw [hb] at hb'; cases hb'
    · rw [hb] at hb'; cases hb'
  · rcases step_newer b.wf w with ⟨hb', _⟩ | ⟨_, z', hz, e⟩ | ⟨_, hf', _⟩
    · rw [hb] at hb'; cases hb'
    · rw [hf] at hz
      cases hz
      exact h.same ⟨ds, dt, kc, hd, b, hN⟩ e
    · rw [hf] at hf'; cases hf'
  · rcases step_newer b.wf w with ⟨hb', _⟩ | ⟨_, z', hz, e⟩ | ⟨_, _, g', e, wf, fit, hD⟩
    · rw [hb] at hb'; cases hb'
    · rw [hf] at hz; cases hz
    · have eS : tabS g'.file = newSents w := by
        rw [tabS_eq]
        exact (fit_tab fit).1.symm
      rw [eS] at hD
      exact laid h hA e wf hb fit hD (fun x hx => by
        obtain ⟨y, hy, e⟩ := bo_val hx
        rw [← e]
        exact b.tr y hy)
theorem list_sp (hs : Stands W C H a g A) (hn : (Ut13.step g .list).2.length ≤ 1000000) (h : After W C a A g .list H Q) : spList W C [.ref a] H Q E := by
  obtain ⟨ds, dt, kc, hd, b, hN⟩ := hs
  have e := step_list b.wf
  have hr := h.same ⟨ds, dt, kc, hd, b, hN⟩ e
  rw [e] at hn
  refine ⟨a, ds, dt, _, _, _, rfl, hd, ?_, fun x hx => Nat.le_trans (b.small x hx).1 (by decide), fun t H2 ht e2 h2 => ?_⟩
  · unfold Ut13.ints at hn
    rw [List.length_map] at hn
    exact hn
  · refine hr t H2 ht e2 ?_
    rw [iv_zi]
    exact h2
theorem show_sp (hs : Stands W C H a g A) (hk : SqL W.K H p (iv k)) (h : After W C a A g (.sentence k i) H Q) : spShow W C [.ref a, .ref p, vn i] H Q E := by
  obtain ⟨ds, dt, kc, hd, b, hN⟩ := hs
  refine ⟨a, ds, dt, p, _, _, _, k, i, rfl, hd, hk, fun x hx => Nat.le_trans (b.small x hx).2 (by decide), fun x hx => Nat.le_trans (b.tr x hx) (by decide), ?_⟩
  have e := step_sentence b.wf k i
  exact h.same ⟨ds, dt, kc, hd, b, hN⟩ e
theorem put_sp (hs : Stands W C H a g A) (hk : SqL W.K H r (iv k)) (hw : SqL W.K H p (iv w)) (hl : w.length ≤ 40000) (h : After W C a A g (.done k i w) H Q) : spPut W C [.ref a, .ref r, vn i, .ref p] H Q E := by
  obtain ⟨ds, dt, kc, hd, b, hN⟩ := hs
  refine ⟨a, ds, dt, r, p, _, _, _, k, i, w, rfl, hd, hk, hw, hl, fun x hx => Nat.le_trans (b.small x hx).2 (by decide), Nat.le_trans b.dlen (by decide), fun z hz => ?_, fun hz => ?_⟩
  · rcases step_done b.wf k i w with ⟨z', hz', e⟩ | ⟨hz', _⟩
    · rw [hz] at hz'
      cases hz'
      exact h.same ⟨ds, dt, kc, hd, b, hN⟩ e
    · rw [hz] at hz'; cases hz'
  · rcases step_done b.wf k i w with ⟨z', hz', e⟩ | ⟨_, g', e, wf, ef, hD⟩
    · rw [hz] at hz'; cases hz'
    · intro t H' ht ne hd' ht'
      have hb : isBytes 100 w = true := by
        cases hb : isBytes 100 w with
        | true => rfl
        | false =>
          rw [doneRefusal, if_pos hb] at hz
          cases hz
      have b' : Bnd g' kc.ls := ⟨wf, by rw [ef]; exact b.fit, b.tot, by
        rw [hD]
        intro x hx
        rcases List.mem_append.mp hx with hx | hx
        · exact b.tr x (List.mem_filter.mp hx).1
        · rw [List.mem_singleton.mp hx]
          exact bytes_le hb, b.ne, b.len⟩
      refine h t H' ht (DK.of_ne ne) ?_ ?_
      · rw [e]
        refine ⟨ds, dt, kc, ?_, b', hN⟩
        show DeskAt W C H' a ds dt kc (tabS g'.file) (tabD g'.done)
        rw [ef, hD]
        exact hd'
      · rw [e]
        show H' t = some (.lst ((Ut13.told g').map V.int))
        rw [b'.told, ef, hD]
        exact ht'
theorem away_sp (hs : Stands W C H a g A) (hk : SqL W.K H r (iv k)) (h : After W C a A g (.undone k i) H Q) : spAway W C [.ref a, .ref r, vn i] H Q E := by
  obtain ⟨ds, dt, kc, hd, b, hN⟩ := hs
  refine ⟨a, ds, dt, r, _, _, _, k, i, rfl, hd, hk, fun hz => ?_, fun hz => ?_⟩
  · rcases step_undone b.wf k i with ⟨_, e⟩ | ⟨hz', _⟩
    · exact h.same ⟨ds, dt, kc, hd, b, hN⟩ e
    · rw [hz] at hz'; cases hz'
  · rcases step_undone b.wf k i with ⟨hz', e⟩ | ⟨_, g', e, wf, ef, hD⟩
    · rw [hz'] at hz; cases hz
    · intro t H' ht ne hd' ht'
      have b' : Bnd g' kc.ls := ⟨wf, by rw [ef]; exact b.fit, b.tot, by
        rw [hD]
        intro x hx
        exact b.tr x (List.mem_filter.mp hx).1, b.ne, b.len⟩
      refine h t H' ht (DK.of_ne ne) ?_ ?_
      · rw [e]
        refine ⟨ds, dt, kc, ?_, b', hN⟩
        show DeskAt W C H' a ds dt kc (tabS g'.file) (tabD g'.done)
        rw [ef, hD]
        exact hd'
      · rw [e]
        show H' t = some (.lst ((Ut13.told g').map V.int))
        rw [b'.told, ef, hD]
        exact ht'
theorem todo_sp (hs : Stands W C H a g A) (hn : (Ut13.step g .todo).2.length ≤ 1000000) (h : After W C a A g .todo H Q) : spUndone W C [.ref a] H Q E := by
  obtain ⟨ds, dt, kc, hd, b, hN⟩ := hs
  have e := step_todo b.wf
  have hr := h.same ⟨ds, dt, kc, hd, b, hN⟩ e
  rw [e] at hn
  refine ⟨a, ds, dt, _, _, _, rfl, hd, ?_, Nat.le_trans b.slen (by decide), fun x hx => Nat.le_trans (b.small x hx).1 (by decide), fun t H2 ht e2 h2 => ?_⟩
  · unfold Ut13.ints at hn
    rw [List.length_map] at hn
    exact hn
  · refine hr t H2 ht e2 ?_
    rw [iv_zi]
    exact h2
theorem build_sp (hs : Stands W C H a g A) (hn : (Ut13.step g .build).2.length ≤ 1000000) (h : After W C a A g .build H Q) : spBuild W C [.ref a] H Q E := by
  obtain ⟨ds, dt, kc, hd, b, hN⟩ := hs
  have e := step_build b.wf b.fit
  have hr := h.same ⟨ds, dt, kc, hd, b, hN⟩ e
  rw [e] at hn
  refine ⟨a, ds, dt, _, _, _, rfl, hd, b.lineIn, b.ne, Nat.le_trans b.len (by decide), ?_, fun t H2 ht e2 h2 => ?_⟩
  · unfold Ut13.ints at hn
    rw [List.length_map] at hn
    have : (buildOut (tabD g.done) kc.ls).length + 1 ≤ 1000000 := hn
    omega
  · refine hr t H2 ht e2 ?_
    rw [iv_zi]
    exact h2
theorem key_sp (hs : Stands W C H a g A) (hk : SqL W.K H p (iv k)) (hn : (Ut13.step g (.key k)).2.length ≤ 1000000) (h : After W C a A g (.key k) H Q) : spKey W C [.ref a, .ref p] H Q E := by
  obtain ⟨ds, dt, kc, hd, b, hN⟩ := hs
  have e := step_key b.wf b.fit k
  refine ⟨a, ds, dt, p, _, _, _, k, rfl, hd, hk, fun hz => ?_, fun t hz => ?_⟩
  · rw [textsTab_for] at hz
    cases hl : lineFor kc.ls k with
    | none =>
      rw [hl] at e
      exact h.same ⟨ds, dt, kc, hd, b, hN⟩ e
    | some l =>
      rw [hl] at hz
      cases hz
  · rw [textsTab_for] at hz
    cases hl : lineFor kc.ls k with
    | none =>
      rw [hl] at hz
      cases hz
    | some l =>
      rw [hl] at hz e
      have et : textOf l = t := Option.some.inj hz
      have ek : keyOf l = k := by
        have := List.find?_some hl
        exact of_decide_eq_true this
      have hf : l ∈ filled kc.ls := List.mem_of_find?_eq_some hl
      have hr := h.same ⟨ds, dt, kc, hd, b, hN⟩ e
      rw [e] at hn
      have en : numLine l = numFrom k 0 (sentencesOf t) := by
        show numFrom (keyOf l) 0 (sentencesOf (textOf l)) = _
        rw [ek, et]
      have hn' : (Ut13.ints (counted (textOf l) ++ counted (together (tabD g.done) (numLine l)))).length ≤ 1000000 := hn
      replace hr : RetI (Ut13.ints (counted (textOf l) ++ counted (together (tabD g.done) (numLine l)))) H Q := hr
      rw [en, et] at hn' hr
      refine ⟨fun n => ?_, ?_, ?_, fun z H2 hz e2 h2 => ?_⟩
      · rw [← ek, ← et]
        exact b.line hf n
      · have h2 := len_total hf
        have h3 := b.totf
        rw [← et]
        unfold textOf
        rw [List.length_drop]
        omega
      · unfold Ut13.ints at hn'
        rw [List.length_map, List.length_append] at hn'
        have : (counted t).length + ((together (tabD g.done) (numFrom k 0 (sentencesOf t))).length + 1) ≤ 1000000 := hn'
        omega
      · refine hr z H2 hz e2 ?_
        rw [iv_zi]
        exact h2
end
end Fo

set_option Elab.async false
set_option linter.all false
set_option maxRecDepth 100000
set_option maxHeartbeats 2000000
namespace Fo
open PySem PySem.Spec PyProof.Rows L2 Evl
theorem pe_mk0 {X : Cx} {k j : Nat} {C : Addr} {x : Str} {sp : Sp} {p pos : Pos} (c : Mak (wdOf X) k x C sp) (hr : Room j X.A) (hk : k + 1 ≤ j := by decide) (hg : Gl X x := by rfl)
    (hdb : (x == ("__debug__" : Str)) = false := by decide) : PE X (.Call (.Name x p) [] [] pos) (tMake C sp [] E0 tNil) := by
  obtain ⟨f, fd, ps, M, F, hm, b⟩ := c.ex
  exact pe_make0 M F (hr.mono hk) hg hm b .nil pass0 hdb
section
variable {K : PySem.W.Frag} {σ : L2.St} {H : Hp} {D : Ends} {ta te : TE} {tz : TS}
theorem ev_mt0 {C p dx : Addr} {fs : List (Str × V)} {m : Str} {sp : Sp} {v : V} (ha : Ev ta σ H (.ref p)) (hp : H p = some (.ins C dx fs)) (hm : fs.lookup m = none) (hs : SpV sp [.ref p] H v) : Ev (tMeth C m sp [] E0 ta tNil) σ H v := fun H1 e Q q =>
  ha H1 e _ fun H2 e2 => ⟨p, dx, fs, rfl, (e.trans e2) _ _ hp, hm, hs H2 (e.trans e2) Q (fun H3 e3 => q H3 (e2.trans e3)) _⟩
theorem q_appS {l : Addr} {xs : List V} {v : V} (hl : H l = some (.lst xs)) (ha : Ev ta σ H (.ref l)) (h : Ev te σ H v) (hz : xs.length < sizeLine) (k : ∀ H1, Ex H H1 → tz D σ (upd H1 l (.lst (xs ++ [v])))) :
    tSeq (tDrop (tBM K "list" rAppend ta (tCons te tNil))) tz D σ H := ha H (Ex.refl H) _ fun H1 e1 =>
  ⟨Or.inl ⟨rfl, xs, sq_of (e1 l _ hl)⟩, h H1 e1 _ fun H2 e2 => ⟨l, xs, v, rfl, rfl, (e1.trans e2) l _ hl, hz, k H2 (e1.trans e2)⟩⟩
theorem s_extS {l b : Addr} {xs zs : List V} (hl : H l = some (.lst xs)) (ha : Ev ta σ H (.ref l)) (hb : Ev te σ H (.ref b)) (hz : H b = some (.lst zs)) (hn : xs.length + zs.length ≤ sizeLine) (k : ∀ H1, Ex H H1 → D.nx σ (upd H1 l (.lst (xs ++ zs)))) :
    tDrop (tBM K "list" rExtend ta (tCons te tNil)) D σ H := ha H (Ex.refl H) _ fun H1 e1 =>
  ⟨Or.inl ⟨rfl, xs, sq_of (e1 l _ hl)⟩, hb H1 e1 _ fun H2 e2 => ⟨l, b, xs, zs, rfl, rfl, (e1.trans e2) l _ hl, (e1.trans e2) _ _ hz, hn, k H2 (e1.trans e2)⟩⟩
end
def spCall (W : Wd) (CD CR : Addr) : Sp := fun vs H Q _ => ∃ (d r c A : Addr) (zs : List V) (g : Ut13.St) (m : List Nat) (i j : Nat) (x : Ut13.Call), vs = [.ref d, .ref r] ∧ d ≠ r ∧ Stands W CD H d g A ∧ H A = some (.lst zs) ∧ RdAt CR H r c i ∧ SqL W.K H c (iv m) ∧ Lies m i x j ∧ Small x ∧ (Ut13.step g x).2.length ≤ 1000000 ∧
  ∀ t H', H t = none → LT H H' → Stands W CD H' d (Ut13.step g x).1 A → RdAt CR H' r c j → H' t = some (.lst ((Ut13.step g x).2.map V.int)) → Q (.ref t) H'
def spAns (K : PySem.W.Frag) : Sp := fun vs H Q _ => ∃ (a : Addr) (m : List Nat), vs = [.ref a] ∧ SqL K H a (iv m) ∧ PyUt13.answers_asked (zi m) = true ∧ ∀ H' p, H' p = some (.lst ((PyUt13.answers (zi m)).map V.int)) → Q (.ref p) H'
theorem ex_made {H H1 : Hp} {x dx : Addr} {o u : HO} (hx : H x = none) (hdx : H dx = none) (c : Ch x (upd (upd H dx o) x u) H1) : Ex H H1 := fun b v hb => by
  have n1 : b ≠ x := ne_of_none hb hx
  have n2 : b ≠ dx := ne_of_none hb hdx
  refine c b v ?_ n1
  rw [upd_ne n1, upd_ne n2]
  exact hb
theorem plays_nil {xs : List Ut13.Call} (h : Plays [] xs) : xs = [] := by
  cases h with
  | nil => rfl
  | cons h _ => cases h
theorem len_answers (K : PySem.W.Frag) : ∀ vs H Q E, spAns K vs H Q E → vs.length = p_answers.length := fun vs H Q E h => by obtain ⟨p, m, rfl, _⟩ := h; rfl
theorem b_answers {W : Wd} {CD CR : Addr} (TD : TxD W.K W.mg CR) (TK : TxK W.K W.mg CD) (TR : TxR W.K W.mg) (k1 : Mak W 1 "Reader" CR (spRInit CR)) (k2 : Mak W 2 "Desk" CD (spDInit W CD)) (m1 : Met W 1 CR "is_at_end" (spEnd W.K CR)) (c1 : Cal W 10 "answer_call" (spCall W CD CR)) : ∀ f, Body W 11 "answers" s_answers n_answers f (spAns W.K) := by
  intro f cdv A outer s H vs Q E hr h
  obtain ⟨p, m, rfl, hm, hask, q⟩ := h
  obtain ⟨xs, hpl, hxl, hsm, hln, hdue⟩ := asked_due hask
  refine ⟨_, pss_cons (ps_set (i := 1) sc_answers.nd rfl (.inl rfl) (pe_mk k1 hr (pa_cons (pv 0) pa_nil)))
    (pss_cons (ps_set (i := 2) sc_answers.nd rfl (.inl rfl) (pe_mk0 k2 hr))
    (pss_cons (ps_set (i := 3) sc_answers.nd rfl (.inl rfl) (pe_lst pa_nil))
    (pss_cons (ps_while PassesOwn.never (pt_not (pt_val (pe_mt0 m1 hr (pv 1))))
      (pss_cons (ps_set (i := 4) sc_answers.nd rfl (.inl rfl) (pe_c c1 hr (pa_cons (pv 2) (pa_cons (pv 1) pa_nil))))
      (pss_cons (ps_expr (pe_bm PySem.F.plainAttrs_list PySem.F.slot_list_append PySem.F.type_list_append mt_append (pv 3) (pa_cons (pe_callB call_len_seq (by rfl) TR.len PySem.boot_len (pa_cons (pv 4) pa_nil)) pa_nil)))
      (pss_one (ps_expr (pe_bm PySem.F.plainAttrs_list PySem.F.slot_list_extend PySem.F.type_list_extend mt_extend (pv 3) (pa_cons (pv 4) pa_nil)))))))
    (pss_one (ps_ret (pv 3)))))), ?_⟩
  refine ⟨_, rfl, fun r rx hr0 hrx hrr => ?_⟩
  refine ⟨r, rx, p, rfl, upd_same, fun H1 R1 ch1 => ⟨rfl, ?_⟩⟩
  refine fun d dx hd0 hdx hdd => ?_
  refine ⟨d, dx, rfl, upd_same, fun DL DX ds dt H2 DA2 ch2 => ⟨rfl, ?_⟩⟩
  have e01 : Ex H H1 := ex_made hr0 hrx ch1
  have e12 : Ex H1 H2 := ex_made hd0 hdx ch2
  have hdr : d ≠ r := by
    obtain ⟨z, hz⟩ := R1
    exact Ne.symm (ne_of_none hz hd0)
  have R2 : RdAt CR H2 r p 0 := R1.ex e12
  refine q_asgL (el_lst ea_nil (by decide)) fun L H3 hL e3 h3 => ?_
  have S2 : Stands W CD H2 d Ut13.init L := ⟨ds, dt, ⟨DL, DX, [[]], fun b => b ≠ L⟩, DA2.places (fun b xs _ hb => ne_of_none hb hL), bnd_init, fun b n => n⟩
  have e03 := (e01.trans e12).trans e3
  have hL0 : H L = none := fresh_back (e01.trans e12) hL
  have hmk : ∀ G : Hp, (p ≠ L → SqL W.K G p (iv m)) → SqL W.K G p (iv m) := fun G hG => by
    rcases hm with (h | ⟨o, h⟩) | h
    · exact hG (ne_of_none h hL0)
    · exact hG (ne_of_none h hL0)
    · exact .inr h
  refine q_while (fun n σ' H' => ∃ (pl rs : List Ut13.Call) (j : Nat) (v4 : Option V), xs = pl ++ rs ∧ n = rs.length ∧ Plays (m.drop j) rs ∧ j ≤ m.length ∧ σ' = [some (.ref p), some (.ref r), some (.ref d), some (.ref L), v4] ∧ RdAt CR H' r p j ∧ Stands W CD H' d (after Ut13.init pl) L ∧ H' L = some (.lst ((PyFlat.told (due Ut13.init pl)).map V.int)) ∧ SqL W.K H' p (iv m))
    xs.length ⟨[], xs, 0, none, rfl, rfl, hpl, Nat.zero_le _, rfl, R2.ex e3, S2.ex e3, h3, ex_l e03 hm⟩ ?_
  rintro n σ' H' ⟨pl, rs, j, v4, hx, rfl, hp, hj, rfl, R, S, hL', hm'⟩
  obtain ⟨rx', hR⟩ := id R
  have hb : EvT (tNot (tB (tMeth CR "is_at_end" (spEnd W.K CR) [] E0 (tVar 1) tNil))) [some (.ref p), some (.ref r), some (.ref d), some (.ref L), v4] H' (!decide (j = m.length)) :=
    et_not (et_B (ev_mt0 (ev_var rfl) hR (rF_no p j (by decide +kernel) (by decide +kernel)) fun H4 e4 Q q _ => ⟨r, p, m, j, rfl, ⟨rx', e4 _ _ hR⟩, ex_l e4 hm', q⟩))
  refine ⟨_, hb, fun b H4 e4 => ?_, fun b H4 e4 => ?_⟩
  · have hne : j ≠ m.length := by simpa using b
    cases rs with
    | nil =>
      have := plays_end hp
      omega
    | cons x rs =>
      obtain ⟨i, hli, hpi, him⟩ := plays_step hp
      have hxm : x ∈ xs := by
        rw [hx]
        exact List.mem_append_right _ (List.mem_cons_self ..)
      have hlen : lens (due Ut13.init pl) + ((Ut13.step (after Ut13.init pl) x).2.length + lens (due (Ut13.step (after Ut13.init pl) x).1 rs)) ≤ 1000000 := by
        have := hln
        rw [hx, due_app, lens_app] at this
        exact this
      have hpll : pl.length ≤ 30 := by
        have := hxl
        rw [hx, List.length_append] at this
        omega
      have htl : ((PyFlat.told (due Ut13.init pl)).map V.int).length = lens (due Ut13.init pl) + pl.length := by rw [List.length_map, told_len, due_len]
      refine ⟨fun σ2 H2 => ∃ (j : Nat) (v4 : Option V), Plays (m.drop j) rs ∧ j ≤ m.length ∧ σ2 = [some (.ref p), some (.ref r), some (.ref d), some (.ref L), v4] ∧ RdAt CR H2 r p j ∧ Stands W CD H2 d (after Ut13.init (pl ++ [x])) L ∧ H2 L = some (.lst ((PyFlat.told (due Ut13.init (pl ++ [x]))).map V.int)) ∧ SqL W.K H2 p (iv m), ?_, ?_⟩
      · rintro σ2 H2 ⟨j2, v, a1, a2, a3, a4, a5, a6, a7⟩
        exact ⟨rs.length, Nat.lt_succ_self _, pl ++ [x], rs, j2, v, by rw [hx, List.append_assoc]; rfl, rfl, a1, a2, a3, a4, a5, a6, a7⟩
      refine ⟨_, rfl, _, rfl, d, r, p, L, _, after Ut13.init pl, m, j, i, x, rfl, hdr, S.ex e4, e4 _ _ hL', R.ex e4, ex_l e4 hm', hli, hsm x hxm, by omega, fun t H5 ht0 lt5 S5 R5 ht5 => ?_⟩
      have hL5 := lt5.lst (e4 _ _ hL')
      have hm5 := lt5.sql (ex_l e4 hm')
      have hlt : t ≠ L := Ne.symm (ne_of_none (e4 _ _ hL') ht0)
      refine q_appS (K := W.K) hL5 (ev_var rfl) (ev_len (K := W.K) (ev_var rfl) (sq_of ht5)) ?_ fun H6 e6 => ?_
      · rw [htl]
        exact Nat.lt_of_le_of_lt (by omega : _ ≤ 1000030) (by decide)
      have tl6 : upd H6 L (.lst ((PyFlat.told (due Ut13.init pl)).map V.int ++ [V.int (((Ut13.step (after Ut13.init pl) x).2.map V.int).length : Int)])) t = some (.lst ((Ut13.step (after Ut13.init pl) x).2.map V.int)) := by
        rw [upd_ne hlt]
        exact e6 _ _ ht5
      refine s_extS (K := W.K) upd_same (ev_var rfl) (ev_var rfl) tl6 ?_ fun H7 e7 => ?_
      · rw [List.length_append, htl, List.length_map]
        show _ + 1 + _ ≤ _
        exact Nat.le_trans (by omega : _ ≤ 1000031) (by decide)
      have c57 : Ch L H5 (upd H7 L (.lst ((PyFlat.told (due Ut13.init pl)).map V.int ++ [V.int (((Ut13.step (after Ut13.init pl) x).2.map V.int).length : Int)] ++ (Ut13.step (after Ut13.init pl) x).2.map V.int))) :=
        (((Ch.of_ex e6).trans Ch.upd).trans (Ch.of_ex e7)).trans Ch.upd
      refine ⟨i, some (.ref t), hpi, him, rfl, ?_, ?_, ?_, ?_⟩
      · obtain ⟨z, hz⟩ := id R5
        exact R5.ch c57 (ne_of hz hL5 (fun z => nomatch z))
      · rw [after_snoc]
        exact S5.chL c57 hL5
      · rw [upd_same, due_snoc, told_snoc, List.map_append, List.map_cons, List.append_assoc, List.length_map]
        rfl
      · refine hmk _ fun hpL => ?_
        rcases hm5 with (h | ⟨o, h⟩) | h
        · exact .inl (.inl (c57 _ _ h hpL))
        · exact .inl (.inr ⟨o, c57 _ _ h hpL⟩)
        · exact .inr h
  · have hje : j = m.length := by simpa using b
    rw [hje, List.drop_length] at hp
    have hr0 := plays_nil hp
    rw [hr0, List.append_nil] at hx
    refine s_ret (ev_var rfl) fun H5 e5 => q H5 L ?_
    rw [hdue, hx]
    exact (e4.trans e5) _ _ hL'
end Fo

set_option Elab.async false
set_option linter.all false
set_option maxRecDepth 100000
set_option maxHeartbeats 2000000
namespace Fo
open PySem PySem.Spec PyProof.Rows L2 Evl
/-! ### one call -/
/-- a statement that is never reached -/
def tDead : TS := fun _ _ _ => False
theorem ps_dead {X : Cx} {st : Stmt} : PS X st tDead := ⟨fun _ _ _ _ _ _ h => h.elim⟩
structure RK (H H' : Hp) : Prop where
  l : LT H H'
  n : ∀ b, H' b = none → H b = none
theorem RK.ex {H H' : Hp} (e : Ex H H') : RK H H' := ⟨LT.of_ex e, fun b h => fresh_back e h⟩
theorem RK.trans {H H1 H2 : Hp} (x : RK H H1) (y : RK H1 H2) : RK H H2 := ⟨x.l.trans y.l, fun b h => x.n b (y.n b h)⟩
theorem RK.rd {C r c c' : Addr} {i i' : Nat} {H H' : Hp} (R : RdAt C H r c i) (R' : RdAt C H' r c' i') (ch : Ch r H H') : RK H H' := by
  obtain ⟨dx, h⟩ := R
  obtain ⟨dx', h'⟩ := R'
  refine ⟨LT.of_ch ch h, fun b hb => ?_⟩
  cases e : H b with
  | none => rfl
  | some o =>
    by_cases n : b = r
    · rw [n, h'] at hb
      cases hb
    · rw [ch b o e n] at hb
      cases hb
theorem LT.of_dk {W : Wd} {C a A : Addr} {g : Ut13.St} {H H' : Hp} (S : Stands W C H a g A) (e : DK a H H') : LT H H' := by
  obtain ⟨_, _, _, h, _⟩ := S
  obtain ⟨dx, fs, ha, _⟩ := h.ob
  exact fun b o hb n m => e b o hb (ne_of hb ha (n C dx fs)) m
section
variable {W : Wd} {CD CR d r c A : Addr} {g : Ut13.St} {H H1 H3 : Hp} {Q : VK} {x : Ut13.Call} {i j : Nat}
theorem after_of (q : ∀ t H', H t = none → LT H H' → Stands W CD H' d (Ut13.step g x).1 A → RdAt CR H' r c j → H' t = some (.lst ((Ut13.step g x).2.map V.int)) → Q (.ref t) H') (hdr : d ≠ r) (k : RK H H3) (R : RdAt CR H3 r c j) (S : Stands W CD H3 d g A) : After W CD d A g x H3 Q :=
  fun t H' ht dk S' ht' => q t H' (k.n t ht) (k.l.trans (LT.of_dk S dk)) S' (let ⟨rx, h⟩ := R; ⟨rx, dk _ _ h (Ne.symm hdr) (fun φ z => nomatch z)⟩) ht'
theorem Stands.rd {c' : Addr} (S : Stands W CD H d g A) (R : RdAt CR H r c i) (ch : Ch r H H1) (hdr : d ≠ r) : Stands W CD H1 d g A := let ⟨_, h⟩ := R; S.ch ch h hdr
theorem Stands.obj (S : Stands W CD H d g A) : ∃ dx fs, H d = some (.ins CD dx fs) ∧ ∀ x ∈ ownMeths, fs.lookup x = none := by
  obtain ⟨_, _, _, h, _⟩ := S
  obtain ⟨dx, fs, ha, fo⟩ := h.ob
  exact ⟨dx, fs, ha, fo.m⟩
theorem row_len {m w : List Nat} (h : RowAt m i w j) : (m.drop (i + 1)).take w.length = w := h.2.1
theorem q_skip {σ : L2.St} {D : Ends} {tu tz : TS} {s n b : Nat} {G : Hp} (hv : σ[s]? = some (some (vn n))) (hne : n ≠ b) (h : ∀ G', Ex G G' → tz D σ G') : tSeq (tIfS (tB (tOp rEq (tVar s) (tC (vn b)))) tu tNext) tz D σ G :=
  q_when (et_test (ev_eqn (ev_var hv) ev_c)) (fun z => absurd (of_decide_eq_true z) hne) (fun _ G' e => h G' e)
theorem q_take {σ : L2.St} {D : Ends} {tu tz : TS} {s n b : Nat} {G : Hp} (hv : σ[s]? = some (some (vn n))) (he : n = b) (h : ∀ G', Ex G G' → tu { D with nx := tz D } σ G') : tSeq (tIfS (tB (tOp rEq (tVar s) (tC (vn b)))) tu tNext) tz D σ G :=
  q_when (et_test (ev_eqn (ev_var hv) ev_c)) (fun _ G' e => h G' e) (fun z => absurd he (of_decide_eq_false z))
/-- reader.take_row() as the first of what is handed over -/
theorem en_row {m w : List Nat} {σ : L2.St} {E : XK} {Qa : List V → Hp → Prop} {s : Nat} (hv : σ[s]? = some (some (.ref r))) (R : RdAt CR H r c i) (hm : SqL W.K H c (iv m)) (hw : RowAt m i w j) (hdr : d ≠ r) (S : Stands W CD H d g A)
    (k : ∀ p H', RK H H' → RdAt CR H' r c j → Stands W CD H' d g A → SqL W.K H' c (iv m) → H' p = some (.lst (iv w)) → Qa [.ref p] H') : tCons (tMeth CR "take_row" (spRow W.K CR) [] E (tVar s) tNil) tNil σ H Qa := by
  obtain ⟨rx, hR⟩ := id R
  refine ⟨_, hv, r, rx, _, rfl, hR, rF_no c i (by decide +kernel) (by decide +kernel), r, c, m, i, w.length, rfl, R, hm, hw.1, fun p H' hp R' ch hp' => ?_⟩
  rw [hw.2.1] at hp'
  rw [← hw.2.2] at R'
  exact k p H' (RK.rd R R' ch) R' (S.ch ch hR hdr) (ch.sql hR hm) hp'
theorem en_rowC {m w : List Nat} {σ : L2.St} {E : XK} {ta : TA} {Qa : List V → Hp → Prop} {s : Nat} (hv : σ[s]? = some (some (.ref r))) (R : RdAt CR H r c i) (hm : SqL W.K H c (iv m)) (hw : RowAt m i w j) (hdr : d ≠ r) (S : Stands W CD H d g A)
    (k : ∀ p H', RK H H' → RdAt CR H' r c j → Stands W CD H' d g A → SqL W.K H' c (iv m) → H' p = some (.lst (iv w)) → ta σ H' fun vs H2 => Qa (.ref p :: vs) H2) : tCons (tMeth CR "take_row" (spRow W.K CR) [] E (tVar s) tNil) ta σ H Qa := by
  obtain ⟨rx, hR⟩ := id R
  refine ⟨_, hv, r, rx, _, rfl, hR, rF_no c i (by decide +kernel) (by decide +kernel), r, c, m, i, w.length, rfl, R, hm, hw.1, fun p H' hp R' ch hp' => ?_⟩
  rw [hw.2.1] at hp'
  rw [← hw.2.2] at R'
  exact k p H' (RK.rd R R' ch) R' (S.ch ch hR hdr) (ch.sql hR hm) hp'
/-- x = reader.take_row(); n = reader.take_number() -/
theorem q_row {m w : List Nat} {σ : L2.St} {D : Ends} {tz : TS} {E : XK} {s u : Nat} (hv : σ[s]? = some (some (.ref r))) (R : RdAt CR H r c i) (hm : SqL W.K H c (iv m)) (hw : RowAt m i w j) (hdr : d ≠ r) (S : Stands W CD H d g A)
    (k : ∀ p H', RK H H' → RdAt CR H' r c j → Stands W CD H' d g A → SqL W.K H' c (iv m) → H' p = some (.lst (iv w)) → tz D (σ.set u (some (.ref p))) H') : tSeq (tAsg (tMeth CR "take_row" (spRow W.K CR) [] E (tVar s) tNil) (gName u)) tz D σ H := by
  obtain ⟨rx, hR⟩ := id R
  refine ⟨_, hv, r, rx, _, rfl, hR, rF_no c i (by decide +kernel) (by decide +kernel), r, c, m, i, w.length, rfl, R, hm, hw.1, fun p H' hp R' ch hp' => ?_⟩
  rw [hw.2.1] at hp'
  rw [← hw.2.2] at R'
  exact k p H' (RK.rd R R' ch) R' (S.ch ch hR hdr) (ch.sql hR hm) hp'
theorem q_num {m : List Nat} {n : Nat} {σ : L2.St} {D : Ends} {tz : TS} {E : XK} {s u : Nat} (hv : σ[s]? = some (some (.ref r))) (R : RdAt CR H r c i) (hm : SqL W.K H c (iv m)) (hn : m[i]? = some n) (hdr : d ≠ r) (S : Stands W CD H d g A)
    (k : ∀ H', RK H H' → RdAt CR H' r c (i + 1) → Stands W CD H' d g A → SqL W.K H' c (iv m) → tz D (σ.set u (some (vn n))) H') : tSeq (tAsg (tMeth CR "take_number" (spTake W.K CR) [] E (tVar s) tNil) (gName u)) tz D σ H := by
  obtain ⟨rx, hR⟩ := id R
  exact ⟨_, hv, r, rx, _, rfl, hR, rF_no c i (by decide +kernel) (by decide +kernel), r, c, m, i, n, rfl, R, hm, hn, fun H' R' ch => k H' (RK.rd R R' ch) R' (S.ch ch hR hdr) (ch.sql hR hm)⟩
end
structure TxO (mg : Str → Option Value) : Prop where
  FILE : Cn mg "FILE" (vn 0)
  NEWER : Cn mg "NEWER" (vn 1)
  LIST : Cn mg "LIST" (vn 2)
  SENTENCE : Cn mg "SENTENCE" (vn 3)
  DONE : Cn mg "DONE" (vn 4)
  UNDONE : Cn mg "UNDONE" (vn 5)
  BUILD : Cn mg "BUILD" (vn 6)
  TODO : Cn mg "TODO" (vn 7)
  KEY : Cn mg "KEY" (vn 8)
/-! ### the calls about a sentence -/
/-- the call's number -/
def isS : Ut13.Call → Option Nat
  | .sentence _ _ => some 3
  | .done _ _ _ => some 4
  | .undone _ _ => some 5
  | _ => none
/-- where the call goes on, behind its number -/
def spSent (W : Wd) (CD CR : Addr) : Sp := fun vs H Q _ => ∃ (d r c A : Addr) (zs : List V) (g : Ut13.St) (m : List Nat) (i j n : Nat) (x : Ut13.Call), vs = [vn n, .ref d, .ref r] ∧ isS x = some n ∧ d ≠ r ∧ Stands W CD H d g A ∧ H A = some (.lst zs) ∧ RdAt CR H r c (i + 1) ∧ SqL W.K H c (iv m) ∧ Lies m i x j ∧ Small x ∧ (Ut13.step g x).2.length ≤ 1000000 ∧
  ∀ t H', H t = none → LT H H' → Stands W CD H' d (Ut13.step g x).1 A → RdAt CR H' r c j → H' t = some (.lst ((Ut13.step g x).2.map V.int)) → Q (.ref t) H'
theorem c_sent {W : Wd} {CD CR : Addr} (TO : TxO W.mg) (a : At W.K W.mg "answer_sentence_call" s_answer_sentence_call) (r1 : Met W 1 CR "take_number" (spTake W.K CR)) (r2 : Met W 2 CR "take_row" (spRow W.K CR))
    (m3 : Met W 2 CD "show_sentence" (spShow W CD)) (m4 : Met W 7 CD "put_translation" (spPut W CD)) (m5 : Met W 2 CD "take_translation_away" (spAway W CD)) : Cal W 8 "answer_sentence_call" (spSent W CD CR) := by
  refine cal a sc_answer_sentence_call (fun _ _ _ _ _ _ us hl => match us, hl with | [_, _, _], _ => rfl) (fun vs H Q E h => by obtain ⟨d, r, c, A, zs, g, m, i, j, n, x, rfl, _⟩ := h; rfl) (fun f cdv Ar outer s H vs Q E hr h => ?_)
  obtain ⟨d, r, c, A, zs, g, m, i, j, n, x, rfl, hx, hdr, S, hA, R, hm, hli, hsm, hn, q⟩ := h
  refine ⟨_, pss_cons (ps_set (i := 3) sc_answer_sentence_call.nd rfl (.inl rfl) (pe_mt0 r1 hr (pv 2)))
    (pss_cons (ps_set (i := 4) sc_answer_sentence_call.nd rfl (.inl rfl) (pe_mt0 r2 hr (pv 2)))
    (pss_cons (ps_if (pt_cmpR op_eq (pv 0) (pe_gc TO.SENTENCE) (nomark _)) (pss_one (ps_ret (pe_mt m3 hr (pv 1) (pa_cons (pv 4) (pa_cons (pv 3) pa_nil))))) pss_nil)
    (pss_cons (ps_if (pt_cmpR op_eq (pv 0) (pe_gc TO.DONE) (nomark _)) (pss_one (ps_ret (pe_mt m4 hr (pv 1) (pa_cons (pv 4) (pa_cons (pv 3) (pa_cons (pe_mt0 r2 hr (pv 2)) pa_nil)))))) pss_nil)
    (pss_one (ps_ret (pe_mt m5 hr (pv 1) (pa_cons (pv 4) (pa_cons (pv 3) pa_nil)))))))), ?_⟩
  have ext : ∀ {G G' : Hp}, Ex G G' → RK H G → RK H G' := fun e k => k.trans (RK.ex e)
  cases x with
  | sentence k n' =>
    obtain ⟨hp, hn1, hw⟩ := hli
    cases hx
    refine q_num (W := W) rfl R hm hn1 hdr S fun G1 k1 R1 S1 hm1 => ?_
    refine q_row (W := W) rfl R1 hm1 hw hdr S1 fun p G2 k2 R2 S2 hm2 hp2 => ?_
    refine q_take rfl rfl fun G e => ?_
    obtain ⟨dx, fs, hd, fm⟩ := (S2.ex e).obj
    refine ⟨_, rfl, d, dx, fs, rfl, hd, fm _ (by decide +kernel), _, rfl, _, rfl, ?_⟩
    exact show_sp (E := E0) (S2.ex e) (sq_of (e _ _ hp2)) (after_of q hdr (ext e (k1.trans k2)) (R2.ex e) (S2.ex e))
  | done k n' w =>
    obtain ⟨hp, hn1, h, hw, hw2⟩ := hli
    cases hx
    refine q_num (W := W) rfl R hm hn1 hdr S fun G1 k1 R1 S1 hm1 => ?_
    refine q_row (W := W) rfl R1 hm1 hw hdr S1 fun p G2 k2 R2 S2 hm2 hp2 => ?_
    refine q_skip rfl (by decide) fun G0 e0 => q_take rfl rfl fun G e' => ?_
    have e := e0.trans e'
    obtain ⟨dx, fs, hd, fm⟩ := (S2.ex e).obj
    refine ⟨_, rfl, d, dx, fs, rfl, hd, fm _ (by decide +kernel), _, rfl, _, rfl, en_row (W := W) rfl (R2.ex e) (ex_l e hm2) hw2 hdr (S2.ex e) fun p2 G5 k5 R5 S5 _ hp5 => ?_⟩
    exact put_sp (E := E0) S5 (sq_of (k5.l.lst (e _ _ hp2))) (sq_of hp5) (Nat.le_trans hsm.2.2.2.1 (by decide)) (after_of q hdr ((ext e (k1.trans k2)).trans k5) R5 S5)
  | undone k n' =>
    obtain ⟨hp, hn1, hw⟩ := hli
    cases hx
    refine q_num (W := W) rfl R hm hn1 hdr S fun G1 k1 R1 S1 hm1 => ?_
    refine q_row (W := W) rfl R1 hm1 hw hdr S1 fun p G2 k2 R2 S2 hm2 hp2 => ?_
    refine q_skip rfl (by decide) fun G0 e0 => q_skip rfl (by decide) fun G e' => ?_
    have e := e0.trans e'
    obtain ⟨dx, fs, hd, fm⟩ := (S2.ex e).obj
    refine ⟨_, rfl, d, dx, fs, rfl, hd, fm _ (by decide +kernel), _, rfl, _, rfl, ?_⟩
    exact away_sp (E := E0) (S2.ex e) (sq_of (e _ _ hp2)) (after_of q hdr (ext e (k1.trans k2)) (R2.ex e) (S2.ex e))
  | _ => cases hx
/-- if call in (..) -/
theorem q_in {K : PySem.W.Frag} {σ : L2.St} {D : Ends} {tu tz : TS} {s n a b c : Nat} {G : Hp} (hv : σ[s]? = some (some (vn n))) (he : n = a ∨ n = b ∨ n = c) (h : ∀ G', Ex G G' → tu { D with nx := tz D } σ G') : tSeq (tIfS (tTest (tOp (rIn K false) (tVar s) (tTup (tCons (tC (vn a)) (tCons (tC (vn b)) (tCons (tC (vn c)) tNil)))))) tu tNext) tz D σ G := by
  refine q_when (et_test (ev_inU (K := K) (xs := iv [a, b, c]) (ev_var hv) (eu_tup (ea_cons ev_c (ea_cons ev_c (ea_cons ev_c ea_nil))) (by simp)) rfl (flat_iv _))) (fun _ G' e => h G' e) (fun z => ?_)
  have : decide (n ∈ [a, b, c]) = false := (inV_iv n [a, b, c]).symm.trans z
  exact absurd (by simpa using he) (of_decide_eq_false this)
theorem c_answer_call {W : Wd} {CD CR : Addr} (TO : TxO W.mg) (a : At W.K W.mg "answer_call" s_answer_call) (r1 : Met W 1 CR "take_number" (spTake W.K CR)) (r2 : Met W 2 CR "take_row" (spRow W.K CR))
    (m0 : Met W 9 CD "lay_file" (spLayAs W CD false)) (m1 : Met W 9 CD "lay_newer" (spLayAs W CD true)) (m2 : Met W 2 CD "list_sentences" (spList W CD)) (m6 : Met W 3 CD "build_file" (spBuild W CD)) (m7 : Met W 2 CD "list_undone" (spUndone W CD)) (m8 : Met W 2 CD "show_key" (spKey W CD))
    (c1 : Cal W 8 "answer_sentence_call" (spSent W CD CR)) : Cal W 10 "answer_call" (spCall W CD CR) := by
  refine cal a sc_answer_call (fun _ _ _ _ _ _ us hl => match us, hl with | [_, _], _ => rfl) (fun vs H Q E h => by obtain ⟨d, r, c, A, zs, g, m, i, j, x, rfl, _⟩ := h; rfl) (fun f cdv Ar outer s H vs Q E hr h => ?_)
  obtain ⟨d, r, c, A, zs, g, m, i, j, x, rfl, hdr, S, hA, R, hm, hli, hsm, hn, q⟩ := h
  refine ⟨_, pss_cons (ps_set (i := 2) sc_answer_call.nd rfl (.inl rfl) (pe_mt0 r1 hr (pv 1)))
    (pss_cons (ps_if (pt_cmpR op_eq (pv 2) (pe_gc TO.FILE) (nomark _)) (pss_one (ps_ret (pe_mt m0 hr (pv 0) (pa_cons (pe_mt0 r2 hr (pv 1)) pa_nil)))) pss_nil)
    (pss_cons (ps_if (pt_cmpR op_eq (pv 2) (pe_gc TO.NEWER) (nomark _)) (pss_one (ps_ret (pe_mt m1 hr (pv 0) (pa_cons (pe_mt0 r2 hr (pv 1)) pa_nil)))) pss_nil)
    (pss_cons (ps_if (pt_cmpR op_eq (pv 2) (pe_gc TO.LIST) (nomark _)) (pss_one (ps_ret (pe_mt0 m2 hr (pv 0)))) pss_nil)
    (pss_cons (ps_if (pt_cmpR op_eq (pv 2) (pe_gc TO.BUILD) (nomark _)) (pss_one (ps_ret (pe_mt0 m6 hr (pv 0)))) pss_nil)
    (pss_cons (ps_if (pt_cmpR op_eq (pv 2) (pe_gc TO.TODO) (nomark _)) (pss_one (ps_ret (pe_mt0 m7 hr (pv 0)))) pss_nil)
    (pss_cons (ps_if (pt_cmpR op_eq (pv 2) (pe_gc TO.KEY) (nomark _)) (pss_one (ps_ret (pe_mt m8 hr (pv 0) (pa_cons (pe_mt0 r2 hr (pv 1)) pa_nil)))) pss_nil)
    (pss_cons (ps_if (pt_cmpR op_in_seq (pv 2) (pe_tup (pa_cons (pe_gc TO.SENTENCE) (pa_cons (pe_gc TO.DONE) (pa_cons (pe_gc TO.UNDONE) pa_nil)))) (by rfl)) (pss_one (ps_ret (pe_c c1 hr (pa_cons (pv 2) (pa_cons (pv 0) (pa_cons (pv 1) pa_nil)))))) pss_nil)
    (pss_one ps_dead)))))))), ?_⟩
  obtain ⟨rx, hR⟩ := id R
  obtain ⟨n, hn0⟩ : ∃ n, m[i]? = some n := by
    cases x <;> exact ⟨_, hli.1⟩
  refine ⟨_, rfl, r, rx, _, rfl, hR, rF_no c i (by decide +kernel) (by decide +kernel), r, c, m, i, n, rfl, R, hm, hn0, fun H1 R1 ch1 => ?_⟩
  have k1 : RK H H1 := RK.rd R R1 ch1
  have S1 : Stands W CD H1 d g A := S.ch ch1 hR hdr
  have hm1 : SqL W.K H1 c (iv m) := ch1.sql hR hm
  have hA1 : H1 A = some (.lst zs) := k1.l.lst hA
  have ext : ∀ {G G' : Hp}, Ex G G' → RK H G → RK H G' := fun e k => k.trans (RK.ex e)
  have sent : ∀ (n' : Nat) (G : Hp), isS x = some n' → n = n' → Ex H1 G → spSent W CD CR [vn n, .ref d, .ref r] G Q E0 := fun n' G hx hnn e =>
    ⟨d, r, c, A, zs, g, m, i, j, n, x, rfl, by rw [hnn]; exact hx, hdr, S1.ex e, e _ _ hA1, R1.ex e, ex_l e hm1, hli, hsm, hn, fun t H' ht lt S' R' ht' => q t H' ((ext e k1).n t ht) ((ext e k1).l.trans lt) S' R' ht'⟩
  cases x with
  | file w =>
    obtain ⟨hp, hw⟩ := hli
    rw [hp] at hn0
    cases hn0
    refine q_take rfl rfl fun G e => ?_
    obtain ⟨dx, fs, hd, fm⟩ := (S1.ex e).obj
    refine ⟨_, rfl, d, dx, fs, rfl, hd, fm _ (by decide +kernel), en_row (W := W) rfl (R1.ex e) (ex_l e hm1) hw hdr (S1.ex e) fun p G2 k2 R2 S2 _ hp2 => ?_⟩
    exact file_sp (E := E0) S2 (k2.l.lst (e _ _ hA1)) (sq_of hp2) (Nat.le_trans hsm.1 (by decide)) (after_of q hdr ((ext e k1).trans k2) R2 S2)
  | newer w =>
    obtain ⟨hp, hw⟩ := hli
    rw [hp] at hn0
    cases hn0
    refine q_skip rfl (by decide) fun G0 e0 => q_take rfl rfl fun G e' => ?_
    have e := e0.trans e'
    obtain ⟨dx, fs, hd, fm⟩ := (S1.ex e).obj
    refine ⟨_, rfl, d, dx, fs, rfl, hd, fm _ (by decide +kernel), en_row (W := W) rfl (R1.ex e) (ex_l e hm1) hw hdr (S1.ex e) fun p G2 k2 R2 S2 _ hp2 => ?_⟩
    exact newer_sp (E := E0) S2 (k2.l.lst (e _ _ hA1)) (sq_of hp2) (Nat.le_trans hsm.1 (by decide)) (after_of q hdr ((ext e k1).trans k2) R2 S2)
  | list =>
    obtain ⟨hp, hj⟩ := hli
    rw [hp] at hn0
    cases hn0
    refine q_skip rfl (by decide) fun G0 e0 => q_skip rfl (by decide) fun G1 e1 => q_take rfl rfl fun G e' => ?_
    have e := (e0.trans e1).trans e'
    obtain ⟨dx, fs, hd, fm⟩ := (S1.ex e).obj
    rw [← hj] at R1
    exact ⟨_, rfl, d, dx, fs, rfl, hd, fm _ (by decide +kernel), list_sp (E := E0) (S1.ex e) hn (after_of q hdr (ext e k1) (R1.ex e) (S1.ex e))⟩
  | build =>
    obtain ⟨hp, hj⟩ := hli
    rw [hp] at hn0
    cases hn0
    refine q_skip rfl (by decide) fun G0 e0 => q_skip rfl (by decide) fun G1 e1 => q_skip rfl (by decide) fun G2 e2 => q_take rfl rfl fun G e' => ?_
    have e := ((e0.trans e1).trans e2).trans e'
    obtain ⟨dx, fs, hd, fm⟩ := (S1.ex e).obj
    rw [← hj] at R1
    exact ⟨_, rfl, d, dx, fs, rfl, hd, fm _ (by decide +kernel), build_sp (E := E0) (S1.ex e) hn (after_of q hdr (ext e k1) (R1.ex e) (S1.ex e))⟩
  | todo =>
    obtain ⟨hp, hj⟩ := hli
    rw [hp] at hn0
    cases hn0
    refine q_skip rfl (by decide) fun G0 e0 => q_skip rfl (by decide) fun G1 e1 => q_skip rfl (by decide) fun G2 e2 => q_skip rfl (by decide) fun G3 e3 => q_take rfl rfl fun G e' => ?_
    have e := (((e0.trans e1).trans e2).trans e3).trans e'
    obtain ⟨dx, fs, hd, fm⟩ := (S1.ex e).obj
    rw [← hj] at R1
    exact ⟨_, rfl, d, dx, fs, rfl, hd, fm _ (by decide +kernel), todo_sp (E := E0) (S1.ex e) hn (after_of q hdr (ext e k1) (R1.ex e) (S1.ex e))⟩
  | key k =>
    obtain ⟨hp, hw⟩ := hli
    rw [hp] at hn0
    cases hn0
    refine q_skip rfl (by decide) fun G0 e0 => q_skip rfl (by decide) fun G1 e1 => q_skip rfl (by decide) fun G2 e2 => q_skip rfl (by decide) fun G3 e3 => q_skip rfl (by decide) fun G4 e4 => q_take rfl rfl fun G e' => ?_
    have e := ((((e0.trans e1).trans e2).trans e3).trans e4).trans e'
    obtain ⟨dx, fs, hd, fm⟩ := (S1.ex e).obj
    refine ⟨_, rfl, d, dx, fs, rfl, hd, fm _ (by decide +kernel), en_row (W := W) rfl (R1.ex e) (ex_l e hm1) hw hdr (S1.ex e) fun p G2 k2 R2 S2 _ hp2 => ?_⟩
    exact key_sp (E := E0) S2 (sq_of hp2) hn (after_of q hdr ((ext e k1).trans k2) R2 S2)
  | sentence k n' =>
    have hp := hli.1
    rw [hp] at hn0
    cases hn0
    refine q_skip rfl (by decide) fun G0 e0 => q_skip rfl (by decide) fun G1 e1 => q_skip rfl (by decide) fun G2 e2 => q_skip rfl (by decide) fun G3 e3 => q_skip rfl (by decide) fun G4 e4 => q_skip rfl (by decide) fun G5 e5 => q_in (K := W.K) rfl (.inl rfl) fun G e' => ?_
    exact ⟨_, rfl, _, rfl, _, rfl, sent 3 G rfl rfl ((((((e0.trans e1).trans e2).trans e3).trans e4).trans e5).trans e')⟩
  | done k n' w =>
    have hp := hli.1
    rw [hp] at hn0
    cases hn0
    refine q_skip rfl (by decide) fun G0 e0 => q_skip rfl (by decide) fun G1 e1 => q_skip rfl (by decide) fun G2 e2 => q_skip rfl (by decide) fun G3 e3 => q_skip rfl (by decide) fun G4 e4 => q_skip rfl (by decide) fun G5 e5 => q_in (K := W.K) rfl (.inr (.inl rfl)) fun G e' => ?_
    exact ⟨_, rfl, _, rfl, _, rfl, sent 4 G rfl rfl ((((((e0.trans e1).trans e2).trans e3).trans e4).trans e5).trans e')⟩
  | undone k n' =>
    have hp := hli.1
    rw [hp] at hn0
    cases hn0
    refine q_skip rfl (by decide) fun G0 e0 => q_skip rfl (by decide) fun G1 e1 => q_skip rfl (by decide) fun G2 e2 => q_skip rfl (by decide) fun G3 e3 => q_skip rfl (by decide) fun G4 e4 => q_skip rfl (by decide) fun G5 e5 => q_in (K := W.K) rfl (.inr (.inr rfl)) fun G e' => ?_
    exact ⟨_, rfl, _, rfl, _, rfl, sent 5 G rfl rfl ((((((e0.trans e1).trans e2).trans e3).trans e4).trans e5).trans e')⟩
end Fo

set_option Elab.async false
set_option linter.all false
set_option maxRecDepth 100000
set_option maxHeartbeats 2000000
namespace Fo
open PySem PySem.Spec PyProof.Rows L2 Evl
section
variable {K : PySem.W.Frag} {h : Heap} {mg : Str → Option Value} {C f : Addr} {x m qual : Str} {st : Stmt} {od an : Option Addr} {sl : Array (Option Value)} {oc kV dc pm cd ct : Value}
theorem at_mk (X : K.In h) (G : h.Ns mainGlobals mg) (a : PySem.W.nsIn K mainGlobals x = some (some (.ref f))) (l : K.lookup f = some ⟨oc, od, .func (PySem.W.fnOf x x (defArgs st) (defBody st) (defScope st) .none kV dc pm an cd ct), sl⟩) (c : PySem.W.codeIn K cd x = true) (k : PySem.W.keepIn K (.ref f) = true) : At K mg x st :=
  ⟨f, _, fun_mk l c k, PySem.W.mg_of X G a⟩
theorem mat_mk (a : PySem.W.findIn K (.ref C) m = some (some (.ref f))) (i : PySem.W.isFn K (.ref f) = true) (l : K.lookup f = some ⟨oc, od, .func (PySem.W.fnOf m qual (defArgs st) (defBody st) (defScope st) .none kV dc pm an cd ct), sl⟩) (c : PySem.W.codeIn K cd qual = true) (k : PySem.W.keepIn K (.ref f) = true) : MAt K C m qual st :=
  ⟨f, _, fun_mk l c k, ⟨a, i, k⟩⟩
theorem iat_mk (mk : PySem.W.makesIn K C = true) (kc : PySem.W.keepIn K (.ref C) = true) (a : PySem.W.findIn K (.ref C) "__init__" = some (some (.ref f))) (i : PySem.W.isFn K (.ref f) = true) (l : K.lookup f = some ⟨oc, od, .func (PySem.W.fnOf "__init__" qual (defArgs st) (defBody st) (defScope st) .none kV dc pm an cd ct), sl⟩) (c : PySem.W.codeIn K cd qual = true) (k : PySem.W.keepIn K (.ref f) = true) : IAt K C qual st :=
  ⟨f, _, fun_mk l c k, ⟨mk, a, i, kc⟩⟩
theorem noattr_mk (a : PySem.W.findIn K (.ref C) x = some none) : NoAttr K C x := a
theorem cn_int {i : Int} {t : Tok} (X : K.In h) (G : h.Ns mainGlobals mg) (a : PySem.W.nsIn K mainGlobals x = some (some (.int i t))) : Cn mg x (.int i) := ⟨_, PySem.W.mg_of X G a, ⟨_, rfl⟩⟩
theorem cn_str {y : Str} {t : Tok} (X : K.In h) (G : h.Ns mainGlobals mg) (a : PySem.W.nsIn K mainGlobals x = some (some (.str y t))) : Cn mg x (.str y) := ⟨_, PySem.W.mg_of X G a, ⟨_, rfl⟩⟩
theorem cn_ref (X : K.In h) (G : h.Ns mainGlobals mg) (a : PySem.W.nsIn K mainGlobals x = some (some (.ref f))) : Cn mg x (.ref f) := ⟨_, PySem.W.mg_of X G a, rfl⟩
theorem st1 {a : Nat} {t : Tok} {n : Nat} (l : K.lookup f = some ⟨.type "tuple", od, .seq #[.int (a : Int) t] n, sl⟩) (H : Hp) : SqT K H f (iv [a]) :=
  .inr ⟨_, _, _, l, rfl, rfl, (by show 1 ≤ sizeLine; decide), .cons ⟨_, rfl⟩ .nil⟩
theorem cn_tup1 {a : Nat} {t : Tok} {n : Nat} (X : K.In h) (G : h.Ns mainGlobals mg) (e : PySem.W.nsIn K mainGlobals x = some (some (.ref f))) (l : K.lookup f = some ⟨.type "tuple", od, .seq #[.int (a : Int) t] n, sl⟩) : ∃ q, Cn mg x (.ref q) ∧ ∀ H, SqT K H q (iv [a]) := ⟨f, cn_ref X G e, st1 l⟩
theorem cn_tup4 {a b c d : Nat} {t1 t2 t3 t4 : Tok} {n : Nat} (X : K.In h) (G : h.Ns mainGlobals mg) (e : PySem.W.nsIn K mainGlobals x = some (some (.ref f))) (l : K.lookup f = some ⟨.type "tuple", od, .seq #[.int (a : Int) t1, .int (b : Int) t2, .int (c : Int) t3, .int (d : Int) t4] n, sl⟩) : ∃ q, Cn mg x (.ref q) ∧ ∀ H, SqT K H q (iv [a, b, c, d]) :=
  ⟨f, cn_ref X G e, fun H => .inr ⟨_, _, _, l, rfl, rfl, (by show 4 ≤ sizeLine; decide), .cons ⟨_, rfl⟩ (.cons ⟨_, rfl⟩ (.cons ⟨_, rfl⟩ (.cons ⟨_, rfl⟩ .nil)))⟩⟩
theorem cn_tt3 {a b c : Nat} {t1 t2 t3 : Tok} {n n1 n2 n3 : Nat} {f1 f2 f3 : Addr} {od1 od2 od3 : Option Addr} {sl1 sl2 sl3 : Array (Option Value)} (X : K.In h) (G : h.Ns mainGlobals mg) (e : PySem.W.nsIn K mainGlobals x = some (some (.ref f))) (l : K.lookup f = some ⟨.type "tuple", od, .seq #[.ref f1, .ref f2, .ref f3] n, sl⟩)
    (l1 : K.lookup f1 = some ⟨.type "tuple", od1, .seq #[.int (a : Int) t1] n1, sl1⟩) (l2 : K.lookup f2 = some ⟨.type "tuple", od2, .seq #[.int (b : Int) t2] n2, sl2⟩) (l3 : K.lookup f3 = some ⟨.type "tuple", od3, .seq #[.int (c : Int) t3] n3, sl3⟩) : ∃ q, Cn mg x (.ref q) ∧ ∀ H, Dp K H (.ref q) (.tuple ([[a], [b], [c]].map pd)) :=
  ⟨f, cn_ref X G e, fun H => .tup (xs := [.ref f1, .ref f2, .ref f3]) (.inr ⟨_, _, _, l, rfl, rfl, (by show 3 ≤ sizeLine; decide), .cons rfl (.cons rfl (.cons rfl .nil))⟩) (.cons (dp_pd (st1 l1 H)) (.cons (dp_pd (st1 l2 H)) (.cons (dp_pd (st1 l3 H)) .nil)))⟩
end
end Fo

set_option Elab.async false
set_option linter.all false
set_option maxRecDepth 100000
set_option maxHeartbeats 2000000
namespace Fo
open PySem PySem.Spec PyProof.Rows L2 Evl
structure Txt (K : PySem.W.Frag) (mg : Str → Option Value) (CDesk CReader : Addr) : Prop where
  a_Desk : PySem.W.nsIn K mainGlobals "Desk" = some (some (.ref CDesk))
  a_Reader : PySem.W.nsIn K mainGlobals "Reader" = some (some (.ref CReader))
  cl_Desk : Cls K CDesk
  no_Desk_lines : NoAttr K CDesk "lines"
  no_Desk_texts : NoAttr K CDesk "texts"
  no_Desk_sentences : NoAttr K CDesk "sentences"
  no_Desk_translations : NoAttr K CDesk "translations"
  Desk_init : IAt K CDesk "Desk.__init__" s_Desk_init
  Desk_lay_file : MAt K CDesk "lay_file" "Desk.lay_file" s_Desk_lay_file
  Desk_lay_newer : MAt K CDesk "lay_newer" "Desk.lay_newer" s_Desk_lay_newer
  Desk_lay : MAt K CDesk "lay" "Desk.lay" s_Desk_lay
  Desk_brought_over : MAt K CDesk "brought_over" "Desk.brought_over" s_Desk_brought_over
  Desk_first_done : MAt K CDesk "first_done" "Desk.first_done" s_Desk_first_done
  Desk_standing : MAt K CDesk "standing" "Desk.standing" s_Desk_standing
  Desk_list_sentences : MAt K CDesk "list_sentences" "Desk.list_sentences" s_Desk_list_sentences
  Desk_list_undone : MAt K CDesk "list_undone" "Desk.list_undone" s_Desk_list_undone
  Desk_show_sentence : MAt K CDesk "show_sentence" "Desk.show_sentence" s_Desk_show_sentence
  Desk_put_translation : MAt K CDesk "put_translation" "Desk.put_translation" s_Desk_put_translation
  Desk_take_translation_away : MAt K CDesk "take_translation_away" "Desk.take_translation_away" s_Desk_take_translation_away
  Desk_refusal_of : MAt K CDesk "refusal_of" "Desk.refusal_of" s_Desk_refusal_of
  Desk_show_key : MAt K CDesk "show_key" "Desk.show_key" s_Desk_show_key
  Desk_build_file : MAt K CDesk "build_file" "Desk.build_file" s_Desk_build_file
  Desk_built_line : MAt K CDesk "built_line" "Desk.built_line" s_Desk_built_line
  Desk_built_text : MAt K CDesk "built_text" "Desk.built_text" s_Desk_built_text
  cl_Reader : Cls K CReader
  no_Reader_numbers : NoAttr K CReader "numbers"
  no_Reader_place : NoAttr K CReader "place"
  Reader_init : IAt K CReader "Reader.__init__" s_Reader_init
  Reader_is_at_end : MAt K CReader "is_at_end" "Reader.is_at_end" s_Reader_is_at_end
  Reader_take_number : MAt K CReader "take_number" "Reader.take_number" s_Reader_take_number
  Reader_take_row : MAt K CReader "take_row" "Reader.take_row" s_Reader_take_row
  TAB : Cn mg "TAB" (.int (9))
  DOT : Cn mg "DOT" (.int (46))
  SLASH : Cn mg "SLASH" (.int (47))
  LESS : Cn mg "LESS" (.int (60))
  EQUALS : Cn mg "EQUALS" (.int (61))
  GREATER : Cn mg "GREATER" (.int (62))
  BACKSLASH : Cn mg "BACKSLASH" (.int (92))
  BYTES_BEHIND_BACKSLASH : ∃ a, Cn mg "BYTES_BEHIND_BACKSLASH" (.ref a) ∧ ∀ H, SqT K H a (iv [60, 92, 110, 116])
  KEY_BEGIN : Cn mg "KEY_BEGIN" (.str "no byte of a key yet")
  IN_KEY : Cn mg "IN_KEY" (.str "within a key")
  IN_TEXT : Cn mg "IN_TEXT" (.str "between the things of a text")
  BEHIND_BACKSLASH : Cn mg "BEHIND_BACKSLASH" (.str "behind a backslash")
  BEHIND_LESS : Cn mg "BEHIND_LESS" (.str "behind a tag's first byte")
  BEHIND_CLOSING : Cn mg "BEHIND_CLOSING" (.str "behind a closing tag's slash")
  BEHIND_DIGIT : Cn mg "BEHIND_DIGIT" (.str "behind the digit of a tag that opens or stands alone")
  AT_TAG_END : Cn mg "AT_TAG_END" (.str "ahead of a tag's last byte")
  WRONG : Cn mg "WRONG" (.str "behind a byte that can't stand there")
  fault_place : At K mg "fault_place" s_fault_place
  state_behind : At K mg "state_behind" s_state_behind
  state_behind_text : At K mg "state_behind_text" s_state_behind_text
  state_behind_key : At K mg "state_behind_key" s_state_behind_key
  state_behind_tag : At K mg "state_behind_tag" s_state_behind_tag
  is_digit : At K mg "is_digit" s_is_digit
  is_key_byte : At K mg "is_key_byte" s_is_key_byte
  things_of : At K mg "things_of" s_things_of
  thing_size : At K mg "thing_size" s_thing_size
  is_opening : At K mg "is_opening" s_is_opening
  is_closing : At K mg "is_closing" s_is_closing
  is_alone : At K mg "is_alone" s_is_alone
  are_tags_right : At K mg "are_tags_right" s_are_tags_right
  tags_of : At K mg "tags_of" s_tags_of
  LINE_END : Cn mg "LINE_END" (.int (10))
  REMARK : Cn mg "REMARK" (.int (35))
  WRONG_TAGS : Cn mg "WRONG_TAGS" (.int (998))
  KEY_TWICE : Cn mg "KEY_TWICE" (.int (999))
  lines_of : At K mg "lines_of" s_lines_of
  file_of : At K mg "file_of" s_file_of
  file_fault : At K mg "file_fault" s_file_fault
  line_fault : At K mg "line_fault" s_line_fault
  key_fault : At K mg "key_fault" s_key_fault
  told_fault : At K mg "told_fault" s_told_fault
  is_kept : At K mg "is_kept" s_is_kept
  key_of : At K mg "key_of" s_key_of
  text_of : At K mg "text_of" s_text_of
  line_of : At K mg "line_of" s_line_of
  texts_of : At K mg "texts_of" s_texts_of
  BLANK : ∃ a, Cn mg "BLANK" (.ref a) ∧ ∀ H, SqT K H a (iv [32])
  STOPS : ∃ a, Cn mg "STOPS" (.ref a) ∧ ∀ H, Dp K H (.ref a) (.tuple ([[33], [46], [63]].map pd))
  NO_STOP : Cn mg "NO_STOP" (.int (0))
  STOP : Cn mg "STOP" (.int (1))
  STOP_AND_BLANK : Cn mg "STOP_AND_BLANK" (.int (2))
  sentences_of : At K mg "sentences_of" s_sentences_of
  can_begin : At K mg "can_begin" s_can_begin
  ending_behind : At K mg "ending_behind" s_ending_behind
  depth_behind : At K mg "depth_behind" s_depth_behind
  MOST_FILE_BYTES : Cn mg "MOST_FILE_BYTES" (.int (400))
  MOST_TRANSLATION_BYTES : Cn mg "MOST_TRANSLATION_BYTES" (.int (100))
  NOT_BYTES : Cn mg "NOT_BYTES" (.int (-1))
  NO_SENTENCE : Cn mg "NO_SENTENCE" (.int (-2))
  NO_KEY : Cn mg "NO_KEY" (.int (-2))
  NO_TRANSLATION : Cn mg "NO_TRANSLATION" (.int (-4))
  FIRST_FAULT : Cn mg "FIRST_FAULT" (.int (-1000))
  are_bytes : At K mg "are_bytes" s_are_bytes
  numbered_sentences : At K mg "numbered_sentences" s_numbered_sentences
  is_translation : At K mg "is_translation" s_is_translation
  counted : At K mg "counted" s_counted
  FILE : Cn mg "FILE" (.int (0))
  NEWER : Cn mg "NEWER" (.int (1))
  LIST : Cn mg "LIST" (.int (2))
  SENTENCE : Cn mg "SENTENCE" (.int (3))
  DONE : Cn mg "DONE" (.int (4))
  UNDONE : Cn mg "UNDONE" (.int (5))
  BUILD : Cn mg "BUILD" (.int (6))
  TODO : Cn mg "TODO" (.int (7))
  KEY : Cn mg "KEY" (.int (8))
  answers : At K mg "answers" s_answers
  answer_call : At K mg "answer_call" s_answer_call
  answer_sentence_call : At K mg "answer_sentence_call" s_answer_sentence_call
  b_len : mg "len" = none
  b_enumerate : mg "enumerate" = none
  b_tuple : mg "tuple" = none
  b_sorted : mg "sorted" = none
  b_all : mg "all" = none
  b_list : mg "list" = none
end Fo

set_option Elab.async false
set_option linter.all false
set_option maxRecDepth 100000
set_option maxHeartbeats 2000000
namespace Fo
open PySem PySem.Spec PyProof.Rows L2 Evl
theorem nats_of : ∀ (l : List Int), (∀ x ∈ l, 0 ≤ x) → ∃ m : List Nat, l = zi m
  | [], _ => ⟨[], rfl⟩
  | x :: l, h => by
    obtain ⟨m, e⟩ := nats_of l fun y hy => h y (List.mem_cons_of_mem _ hy)
    have hx := h x (List.mem_cons_self ..)
    refine ⟨x.toNat :: m, ?_⟩
    rw [e]
    show x :: zi m = (x.toNat : Int) :: zi m
    rw [Int.toNat_of_nonneg hx]
/-- every def of the program keeps its promise -/
theorem all_ok {W : Wd} {CD CR : Addr} (T : Txt W.K W.mg CD CR) (gD : W.mg "Desk" = some (.ref CD)) (gR : W.mg "Reader" = some (.ref CR)) : ∀ f, Body W 11 "answers" s_answers n_answers f (spAns W.K) := by
  have TR : TxR W.K W.mg := ⟨T.TAB, T.DOT, T.SLASH, T.LESS, T.EQUALS, T.GREATER, T.BACKSLASH, T.BYTES_BEHIND_BACKSLASH, T.KEY_BEGIN, T.IN_KEY, T.IN_TEXT, T.BEHIND_BACKSLASH, T.BEHIND_LESS, T.BEHIND_CLOSING, T.BEHIND_DIGIT, T.AT_TAG_END, T.WRONG, T.b_len, T.b_enumerate⟩
  have TS : TxS W.K W.mg := ⟨T.BLANK, T.STOPS, T.NO_STOP, T.STOP, T.STOP_AND_BLANK⟩
  have TL : TxL W.K W.mg := ⟨T.LINE_END, T.REMARK, T.WRONG_TAGS, T.KEY_TWICE, T.b_tuple⟩
  have TB : TxB W.mg := ⟨T.b_all, T.b_list⟩
  have TD : TxD W.K W.mg CR := ⟨T.cl_Reader, T.no_Reader_numbers, T.no_Reader_place⟩
  have TK : TxK W.K W.mg CD := ⟨T.cl_Desk, T.no_Desk_lines, T.no_Desk_texts, T.no_Desk_sentences, T.no_Desk_translations, T.NOT_BYTES, T.NO_SENTENCE, T.NO_KEY, T.NO_TRANSLATION, T.FIRST_FAULT, T.MOST_FILE_BYTES, T.MOST_TRANSLATION_BYTES⟩
  have TO : TxO W.mg := ⟨T.FILE, T.NEWER, T.LIST, T.SENTENCE, T.DONE, T.UNDONE, T.BUILD, T.TODO, T.KEY⟩
  have d1 := c_is_digit T.is_digit
  have d2 := c_is_key_byte TR T.is_key_byte d1
  have d3 := c_sb_text TR T.state_behind_text
  have d4 := c_sb_key TR T.state_behind_key d2
  have d5 := c_sb_tag TR T.state_behind_tag d1
  have d6 := c_sb TR T.state_behind d3 d4 d5
  have d7 := c_fault TR T.fault_place d6
  have t1 := c_thing_size TR T.thing_size
  have t2 := c_things_of TR T.b_tuple T.things_of t1
  have t3 := c_is_opening TR T.is_opening
  have t4 := c_is_closing TR T.is_closing
  have t5 := c_is_alone TR T.is_alone
  have t6 := c_tags_right TR T.are_tags_right t3 t4 t5
  have t7 := c_tags_of TR T.b_sorted T.tags_of t3 t5
  have l1 := c_lines_of TL T.lines_of
  have l2 := c_is_kept TL T.is_kept
  have l3 := c_key_of TL TR T.key_of
  have l4 := c_text_of TL TR T.text_of
  have l5 := c_told T.told_fault
  have l6 := c_line_fault TL TR T.line_fault l2 d7 t6 t2 l4
  have l7 := c_key_fault TL TR T.key_fault l2 l3 l5
  have l8 := c_file_fault TL TR T.file_fault l6 l7 l5
  have s1 := c_can_begin TS T.can_begin t4
  have s2 := c_ending TS T.ending_behind t4 t5
  have s3 := c_depth T.depth_behind t3 t4
  have s4 := c_sentences_of TS TL T.sentences_of t2 s1 s2 s3
  have h1 := c_are_bytes TB TR T.are_bytes
  have h2 := c_counted TB TR T.counted
  have h3 := c_is_translation T.is_translation t2 t6 t7
  have h4 := c_numbered TR T.numbered_sentences s4
  have l9 := c_line_of TB TR T.line_of
  have l10 := c_texts_of T.texts_of l2 l3 l4
  have l11 := c_file_of TB TL T.file_of
  have r1 := c_reader_init TD gR T.Reader_init
  have r2 := c_at_end TD TR T.Reader_is_at_end
  have r3 := c_take_number TD T.Reader_take_number
  have r4 := c_take_row TD T.Reader_take_row r3
  have k0 := c_desk_init TK gD T.Desk_init l1
  have k1 := c_standing TK TR T.Desk_standing
  have k2 := c_show TK TL T.Desk_show_sentence h2
  have k3 := c_list TK TR T.Desk_list_sentences h2
  have k4 := c_refusal TK TR TL T.Desk_refusal_of h1 d7 h3
  have k5 := c_put TK TL T.Desk_put_translation k4 k1
  have k6 := c_first TK T.Desk_first_done
  have k7 := c_brought TK T.Desk_brought_over k6
  have k8 := c_lay TK T.Desk_lay h1 l1 l8 l10 h4 k7 k1
  have k9 := c_lay_file TK T.Desk_lay_file k8
  have k10 := c_lay_newer TK T.Desk_lay_newer k8
  have k11 := c_away TK TL T.Desk_take_translation_away k1
  have k12 := c_undone TK TR T.Desk_list_undone h2
  have k13 := c_text TK T.Desk_built_text
  have k14 := c_bline TK T.Desk_built_line l2 l3 l9 k13
  have k15 := c_build TK T.Desk_build_file h2 l11 k14
  have k16 := c_key TK TL T.Desk_show_key h2 k13
  have o0 := c_sent TO T.answer_sentence_call r3 r4 k2 k5 k11
  have o1 := c_answer_call TO T.answer_call r3 r4 k9 k10 k3 k15 k12 k16 o0
  exact b_answers TD TK TR r1 k0 r2 o1
theorem fin {P : Program} {w : World} {K : PySem.W.Frag} {h : Heap} {mg : Str → Option Value} {fa CD CR : Addr} (X : K.In h) (G : h.Ns mainGlobals mg) (hfa : mg "answers" = some (.ref fa)) (T : Txt K mg CD CR) :
    ∃ fd : FuncData, (∀ (s : Shared) (us : List Value), us.length = (["calls"] : List Str).length → BindsTo s fd ⟨us, []⟩ ((["calls"] : List Str).zip us)) ∧ ∀ base : Heap, K.In base → base.Ns mainGlobals mg → FnOk P w K mg base CX0 12 fa fd ["calls"] (spAns K) := by
  obtain ⟨f, fd, F, hm⟩ := T.answers
  cases hm.symm.trans hfa
  refine ⟨fd, fun s us hu => ?_, fun base hb hn => ?_⟩
  · obtain ⟨oc, od, kV, doc, pm, an, cdv, ct, osl, rfl, _, _⟩ := F.ex
    match us, hu with
    | [_], _ => exact .of_eq rfl
  · exact F.ok sc_answers (len_answers K) (all_ok (W := ⟨P, w, K, mg, base⟩) T (PySem.W.mg_of X G T.a_Desk) (PySem.W.mg_of X G T.a_Reader) _)
end Fo

set_option Elab.async false
set_option linter.all false
set_option maxRecDepth 100000
set_option maxHeartbeats 2000000
open PySem PySem.W PyProof.Rows
set_option maxRecDepth 100000 in
set_option maxHeartbeats 0 in
theorem PySem.Challenge.cw_fileoffice_s01_answers_holds : PySem.Challenge.rw_fileoffice_s01_answers.Holds := by
  w_on; k_headS; (case hw => exact ⟨[.list [.int 2]], by decide +kernel, by decide +kernel⟩)
  k_fillS
  refine L2.walk_specK (r := PySem.Challenge.rw_fileoffice_s01_answers) (k := 12) (CX := L2.CX0) (ps := ["calls"]) (sp := Fo.spAns) (by decide +kernel) rfl rfl ⟨rfl, by decide, by decide⟩ (fun w h Y => PySem.W.kIn_of Y) ?F ?S (fun _ _ _ _ z => z)
  case F =>
    intro w mg fa h Y KX G hmg
    refine' Fo.fin KX G hmg ⟨?a_Desk, ?a_Reader, ?cl_Desk, ?no_Desk_lines, ?no_Desk_texts, ?no_Desk_sentences, ?no_Desk_translations, ?Desk_init, ?Desk_lay_file, ?Desk_lay_newer, ?Desk_lay, ?Desk_brought_over, ?Desk_first_done, ?Desk_standing, ?Desk_list_sentences, ?Desk_list_undone, ?Desk_show_sentence, ?Desk_put_translation, ?Desk_take_translation_away, ?Desk_refusal_of, ?Desk_show_key, ?Desk_build_file, ?Desk_built_line, ?Desk_built_text, ?cl_Reader, ?no_Reader_numbers, ?no_Reader_place, ?Reader_init, ?Reader_is_at_end, ?Reader_take_number, ?Reader_take_row, ?TAB, ?DOT, ?SLASH, ?LESS, ?EQUALS, ?GREATER, ?BACKSLASH, ?BYTES_BEHIND_BACKSLASH, ?KEY_BEGIN, ?IN_KEY, ?IN_TEXT, ?BEHIND_BACKSLASH, ?BEHIND_LESS, ?BEHIND_CLOSING, ?BEHIND_DIGIT, ?AT_TAG_END, ?WRONG, ?fault_place, ?state_behind, ?state_behind_text, ?state_behind_key, ?state_behind_tag, ?is_digit, ?is_key_byte, ?things_of, ?thing_size, ?is_opening, ?is_closing, ?is_alone, ?are_tags_right, ?tags_of, ?LINE_END, ?REMARK, ?WRONG_TAGS, ?KEY_TWICE, ?lines_of, ?file_of, ?file_fault, ?line_fault, ?key_fault, ?told_fault, ?is_kept, ?key_of, ?text_of, ?line_of, ?texts_of, ?BLANK, ?STOPS, ?NO_STOP, ?STOP, ?STOP_AND_BLANK, ?sentences_of, ?can_begin, ?ending_behind, ?depth_behind, ?MOST_FILE_BYTES, ?MOST_TRANSLATION_BYTES, ?NOT_BYTES, ?NO_SENTENCE, ?NO_KEY, ?NO_TRANSLATION, ?FIRST_FAULT, ?are_bytes, ?numbered_sentences, ?is_translation, ?counted, ?FILE, ?NEWER, ?LIST, ?SENTENCE, ?DONE, ?UNDONE, ?BUILD, ?TODO, ?KEY, ?answers, ?answer_call, ?answer_sentence_call, ?b_len, ?b_enumerate, ?b_tuple, ?b_sorted, ?b_all, ?b_list⟩
    (case a_Desk => k_is)
    (case a_Reader => k_is)
    (case cl_Desk => refine' L2.Cls.mk ?pg ?hd ?po ?sa; (case pg => k_is); (case hd => k_is); (case po => k_is); (case sa => k_is))
    (case no_Desk_lines => refine' Fo.noattr_mk ?a; (case a => k_is))
    (case no_Desk_texts => refine' Fo.noattr_mk ?a; (case a => k_is))
    (case no_Desk_sentences => refine' Fo.noattr_mk ?a; (case a => k_is))
    (case no_Desk_translations => refine' Fo.noattr_mk ?a; (case a => k_is))
    (case Desk_init => refine' Fo.iat_mk ?mk ?kc ?a ?i ?l ?c ?k; (case mk => k_is); (case kc => k_is); (case a => k_is); (case i => k_is); (case l => k_is); (case c => k_is); (case k => k_is))
    (case Desk_lay_file => refine' Fo.mat_mk ?a ?i ?l ?c ?k; (case a => k_is); (case i => k_is); (case l => k_is); (case c => k_is); (case k => k_is))
    (case Desk_lay_newer => refine' Fo.mat_mk ?a ?i ?l ?c ?k; (case a => k_is); (case i => k_is); (case l => k_is); (case c => k_is); (case k => k_is))
    (case Desk_lay => refine' Fo.mat_mk ?a ?i ?l ?c ?k; (case a => k_is); (case i => k_is); (case l => k_is); (case c => k_is); (case k => k_is))
    (case Desk_brought_over => refine' Fo.mat_mk ?a ?i ?l ?c ?k; (case a => k_is); (case i => k_is); (case l => k_is); (case c => k_is); (case k => k_is))
    (case Desk_first_done => refine' Fo.mat_mk ?a ?i ?l ?c ?k; (case a => k_is); (case i => k_is); (case l => k_is); (case c => k_is); (case k => k_is))
    (case Desk_standing => refine' Fo.mat_mk ?a ?i ?l ?c ?k; (case a => k_is); (case i => k_is); (case l => k_is); (case c => k_is); (case k => k_is))
    (case Desk_list_sentences => refine' Fo.mat_mk ?a ?i ?l ?c ?k; (case a => k_is); (case i => k_is); (case l => k_is); (case c => k_is); (case k => k_is))
    (case Desk_list_undone => refine' Fo.mat_mk ?a ?i ?l ?c ?k; (case a => k_is); (case i => k_is); (case l => k_is); (case c => k_is); (case k => k_is))
    (case Desk_show_sentence => refine' Fo.mat_mk ?a ?i ?l ?c ?k; (case a => k_is); (case i => k_is); (case l => k_is); (case c => k_is); (case k => k_is))
    (case Desk_put_translation => refine' Fo.mat_mk ?a ?i ?l ?c ?k; (case a => k_is); (case i => k_is); (case l => k_is); (case c => k_is); (case k => k_is))
    (case Desk_take_translation_away => refine' Fo.mat_mk ?a ?i ?l ?c ?k; (case a => k_is); (case i => k_is); (case l => k_is); (case c => k_is); (case k => k_is))
    (case Desk_refusal_of => refine' Fo.mat_mk ?a ?i ?l ?c ?k; (case a => k_is); (case i => k_is); (case l => k_is); (case c => k_is); (case k => k_is))
    (case Desk_show_key => refine' Fo.mat_mk ?a ?i ?l ?c ?k; (case a => k_is); (case i => k_is); (case l => k_is); (case c => k_is); (case k => k_is))
    (case Desk_build_file => refine' Fo.mat_mk ?a ?i ?l ?c ?k; (case a => k_is); (case i => k_is); (case l => k_is); (case c => k_is); (case k => k_is))
    (case Desk_built_line => refine' Fo.mat_mk ?a ?i ?l ?c ?k; (case a => k_is); (case i => k_is); (case l => k_is); (case c => k_is); (case k => k_is))
    (case Desk_built_text => refine' Fo.mat_mk ?a ?i ?l ?c ?k; (case a => k_is); (case i => k_is); (case l => k_is); (case c => k_is); (case k => k_is))
    (case cl_Reader => refine' L2.Cls.mk ?pg ?hd ?po ?sa; (case pg => k_is); (case hd => k_is); (case po => k_is); (case sa => k_is))
    (case no_Reader_numbers => refine' Fo.noattr_mk ?a; (case a => k_is))
    (case no_Reader_place => refine' Fo.noattr_mk ?a; (case a => k_is))
    (case Reader_init => refine' Fo.iat_mk ?mk ?kc ?a ?i ?l ?c ?k; (case mk => k_is); (case kc => k_is); (case a => k_is); (case i => k_is); (case l => k_is); (case c => k_is); (case k => k_is))
    (case Reader_is_at_end => refine' Fo.mat_mk ?a ?i ?l ?c ?k; (case a => k_is); (case i => k_is); (case l => k_is); (case c => k_is); (case k => k_is))
    (case Reader_take_number => refine' Fo.mat_mk ?a ?i ?l ?c ?k; (case a => k_is); (case i => k_is); (case l => k_is); (case c => k_is); (case k => k_is))
    (case Reader_take_row => refine' Fo.mat_mk ?a ?i ?l ?c ?k; (case a => k_is); (case i => k_is); (case l => k_is); (case c => k_is); (case k => k_is))
    (case TAB => refine' Fo.cn_int KX G ?a; (case a => k_is))
    (case DOT => refine' Fo.cn_int KX G ?a; (case a => k_is))
    (case SLASH => refine' Fo.cn_int KX G ?a; (case a => k_is))
    (case LESS => refine' Fo.cn_int KX G ?a; (case a => k_is))
    (case EQUALS => refine' Fo.cn_int KX G ?a; (case a => k_is))
    (case GREATER => refine' Fo.cn_int KX G ?a; (case a => k_is))
    (case BACKSLASH => refine' Fo.cn_int KX G ?a; (case a => k_is))
    (case BYTES_BEHIND_BACKSLASH => refine' Fo.cn_tup4 KX G ?a ?l; (case a => k_is); (case l => k_is))
    (case KEY_BEGIN => refine' Fo.cn_str KX G ?a; (case a => k_is))
    (case IN_KEY => refine' Fo.cn_str KX G ?a; (case a => k_is))
    (case IN_TEXT => refine' Fo.cn_str KX G ?a; (case a => k_is))
    (case BEHIND_BACKSLASH => refine' Fo.cn_str KX G ?a; (case a => k_is))
    (case BEHIND_LESS => refine' Fo.cn_str KX G ?a; (case a => k_is))
    (case BEHIND_CLOSING => refine' Fo.cn_str KX G ?a; (case a => k_is))
    (case BEHIND_DIGIT => refine' Fo.cn_str KX G ?a; (case a => k_is))
    (case AT_TAG_END => refine' Fo.cn_str KX G ?a; (case a => k_is))
    (case WRONG => refine' Fo.cn_str KX G ?a; (case a => k_is))
    (case fault_place => refine' Fo.at_mk KX G ?a ?l ?c ?k; (case a => k_is); (case l => k_is); (case c => k_is); (case k => k_is))
    (case state_behind => refine' Fo.at_mk KX G ?a ?l ?c ?k; (case a => k_is); (case l => k_is); (case c => k_is); (case k => k_is))
    (case state_behind_text => refine' Fo.at_mk KX G ?a ?l ?c ?k; (case a => k_is); (case l => k_is); (case c => k_is); (case k => k_is))
    (case state_behind_key => refine' Fo.at_mk KX G ?a ?l ?c ?k; (case a => k_is); (case l => k_is); (case c => k_is); (case k => k_is))
    (case state_behind_tag => refine' Fo.at_mk KX G ?a ?l ?c ?k; (case a => k_is); (case l => k_is); (case c => k_is); (case k => k_is))
    (case is_digit => refine' Fo.at_mk KX G ?a ?l ?c ?k; (case a => k_is); (case l => k_is); (case c => k_is); (case k => k_is))
    (case is_key_byte => refine' Fo.at_mk KX G ?a ?l ?c ?k; (case a => k_is); (case l => k_is); (case c => k_is); (case k => k_is))
    (case things_of => refine' Fo.at_mk KX G ?a ?l ?c ?k; (case a => k_is); (case l => k_is); (case c => k_is); (case k => k_is))
    (case thing_size => refine' Fo.at_mk KX G ?a ?l ?c ?k; (case a => k_is); (case l => k_is); (case c => k_is); (case k => k_is))
    (case is_opening => refine' Fo.at_mk KX G ?a ?l ?c ?k; (case a => k_is); (case l => k_is); (case c => k_is); (case k => k_is))
    (case is_closing => refine' Fo.at_mk KX G ?a ?l ?c ?k; (case a => k_is); (case l => k_is); (case c => k_is); (case k => k_is))
    (case is_alone => refine' Fo.at_mk KX G ?a ?l ?c ?k; (case a => k_is); (case l => k_is); (case c => k_is); (case k => k_is))
    (case are_tags_right => refine' Fo.at_mk KX G ?a ?l ?c ?k; (case a => k_is); (case l => k_is); (case c => k_is); (case k => k_is))
    (case tags_of => refine' Fo.at_mk KX G ?a ?l ?c ?k; (case a => k_is); (case l => k_is); (case c => k_is); (case k => k_is))
    (case LINE_END => refine' Fo.cn_int KX G ?a; (case a => k_is))
    (case REMARK => refine' Fo.cn_int KX G ?a; (case a => k_is))
    (case WRONG_TAGS => refine' Fo.cn_int KX G ?a; (case a => k_is))
    (case KEY_TWICE => refine' Fo.cn_int KX G ?a; (case a => k_is))
    (case lines_of => refine' Fo.at_mk KX G ?a ?l ?c ?k; (case a => k_is); (case l => k_is); (case c => k_is); (case k => k_is))
    (case file_of => refine' Fo.at_mk KX G ?a ?l ?c ?k; (case a => k_is); (case l => k_is); (case c => k_is); (case k => k_is))
    (case file_fault => refine' Fo.at_mk KX G ?a ?l ?c ?k; (case a => k_is); (case l => k_is); (case c => k_is); (case k => k_is))
    (case line_fault => refine' Fo.at_mk KX G ?a ?l ?c ?k; (case a => k_is); (case l => k_is); (case c => k_is); (case k => k_is))
    (case key_fault => refine' Fo.at_mk KX G ?a ?l ?c ?k; (case a => k_is); (case l => k_is); (case c => k_is); (case k => k_is))
    (case told_fault => refine' Fo.at_mk KX G ?a ?l ?c ?k; (case a => k_is); (case l => k_is); (case c => k_is); (case k => k_is))
    (case is_kept => refine' Fo.at_mk KX G ?a ?l ?c ?k; (case a => k_is); (case l => k_is); (case c => k_is); (case k => k_is))
    (case key_of => refine' Fo.at_mk KX G ?a ?l ?c ?k; (case a => k_is); (case l => k_is); (case c => k_is); (case k => k_is))
    (case text_of => refine' Fo.at_mk KX G ?a ?l ?c ?k; (case a => k_is); (case l => k_is); (case c => k_is); (case k => k_is))
    (case line_of => refine' Fo.at_mk KX G ?a ?l ?c ?k; (case a => k_is); (case l => k_is); (case c => k_is); (case k => k_is))
    (case texts_of => refine' Fo.at_mk KX G ?a ?l ?c ?k; (case a => k_is); (case l => k_is); (case c => k_is); (case k => k_is))
    (case BLANK => refine' Fo.cn_tup1 KX G ?a ?l; (case a => k_is); (case l => k_is))
    (case STOPS => refine' Fo.cn_tt3 KX G ?a ?l ?m0 ?m1 ?m2; (case a => k_is); (case l => k_is); (case m0 => k_is); (case m1 => k_is); (case m2 => k_is))
    (case NO_STOP => refine' Fo.cn_int KX G ?a; (case a => k_is))
    (case STOP => refine' Fo.cn_int KX G ?a; (case a => k_is))
    (case STOP_AND_BLANK => refine' Fo.cn_int KX G ?a; (case a => k_is))
    (case sentences_of => refine' Fo.at_mk KX G ?a ?l ?c ?k; (case a => k_is); (case l => k_is); (case c => k_is); (case k => k_is))
    (case can_begin => refine' Fo.at_mk KX G ?a ?l ?c ?k; (case a => k_is); (case l => k_is); (case c => k_is); (case k => k_is))
    (case ending_behind => refine' Fo.at_mk KX G ?a ?l ?c ?k; (case a => k_is); (case l => k_is); (case c => k_is); (case k => k_is))
    (case depth_behind => refine' Fo.at_mk KX G ?a ?l ?c ?k; (case a => k_is); (case l => k_is); (case c => k_is); (case k => k_is))
    (case MOST_FILE_BYTES => refine' Fo.cn_int KX G ?a; (case a => k_is))
    (case MOST_TRANSLATION_BYTES => refine' Fo.cn_int KX G ?a; (case a => k_is))
    (case NOT_BYTES => refine' Fo.cn_int KX G ?a; (case a => k_is))
    (case NO_SENTENCE => refine' Fo.cn_int KX G ?a; (case a => k_is))
    (case NO_KEY => refine' Fo.cn_int KX G ?a; (case a => k_is))
    (case NO_TRANSLATION => refine' Fo.cn_int KX G ?a; (case a => k_is))
    (case FIRST_FAULT => refine' Fo.cn_int KX G ?a; (case a => k_is))
    (case are_bytes => refine' Fo.at_mk KX G ?a ?l ?c ?k; (case a => k_is); (case l => k_is); (case c => k_is); (case k => k_is))
    (case numbered_sentences => refine' Fo.at_mk KX G ?a ?l ?c ?k; (case a => k_is); (case l => k_is); (case c => k_is); (case k => k_is))
    (case is_translation => refine' Fo.at_mk KX G ?a ?l ?c ?k; (case a => k_is); (case l => k_is); (case c => k_is); (case k => k_is))
    (case counted => refine' Fo.at_mk KX G ?a ?l ?c ?k; (case a => k_is); (case l => k_is); (case c => k_is); (case k => k_is))
    (case FILE => refine' Fo.cn_int KX G ?a; (case a => k_is))
    (case NEWER => refine' Fo.cn_int KX G ?a; (case a => k_is))
    (case LIST => refine' Fo.cn_int KX G ?a; (case a => k_is))
    (case SENTENCE => refine' Fo.cn_int KX G ?a; (case a => k_is))
    (case DONE => refine' Fo.cn_int KX G ?a; (case a => k_is))
    (case UNDONE => refine' Fo.cn_int KX G ?a; (case a => k_is))
    (case BUILD => refine' Fo.cn_int KX G ?a; (case a => k_is))
    (case TODO => refine' Fo.cn_int KX G ?a; (case a => k_is))
    (case KEY => refine' Fo.cn_int KX G ?a; (case a => k_is))
    (case answers => refine' Fo.at_mk KX G ?a ?l ?c ?k; (case a => k_is); (case l => k_is); (case c => k_is); (case k => k_is))
    (case answer_call => refine' Fo.at_mk KX G ?a ?l ?c ?k; (case a => k_is); (case l => k_is); (case c => k_is); (case k => k_is))
    (case answer_sentence_call => refine' Fo.at_mk KX G ?a ?l ?c ?k; (case a => k_is); (case l => k_is); (case c => k_is); (case k => k_is))
    (case b_len => refine' PySem.W.mg_none_of KX G ?a; (case a => k_is))
    (case b_enumerate => refine' PySem.W.mg_none_of KX G ?a; (case a => k_is))
    (case b_tuple => refine' PySem.W.mg_none_of KX G ?a; (case a => k_is))
    (case b_sorted => refine' PySem.W.mg_none_of KX G ?a; (case a => k_is))
    (case b_all => refine' PySem.W.mg_none_of KX G ?a; (case a => k_is))
    (case b_list => refine' PySem.W.mg_none_of KX G ?a; (case a => k_is))
  case S =>
    intro K H xs a hO hwi hask hx
    cases hx with
    | cons h1 h2 =>
      cases h2
      cases h1 with
      | lst hs ha =>
        have e := L2.ints_dw a.1 _ ha
        subst e
        have q : ((Codec.inLen 0 16400 a.1 && a.1.all (Codec.inInt 0 4294967295)) && true) = true := hwi
        rw [Bool.and_true, Bool.and_eq_true] at q
        obtain ⟨m, em⟩ := Fo.nats_of a.1 fun x hx => (Codec.inInt_iff.mp (List.all_eq_true.mp q.2 x hx)).1
        obtain ⟨a1, a2⟩ := a
        cases em
        refine ⟨_, m, rfl, ?_, hask, fun H' p hp => .lst (L2.SqL.of hp) (L2.dw_ints _)⟩
        have e2 : (Fo.zi m).map L2.V.int = Fo.iv m := by
          rw [List.map_map]
          rfl
        rw [← e2]
        exact hs

