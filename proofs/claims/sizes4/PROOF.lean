import PyProof.Rows.All
import Wide.All
import OpenK.AllK
import Wide.FinOn
import PyProof.EqAt
import PyProof.EqKinds
import PyProof.TupleCall
import KE.BitLaws
import Open.SpecLaws
import KE.OsHead
import KE.OsGo
import KE.KSortTupG
import PySem.Challenge.RW_lutesigns_s02_sizes
set_option Elab.async false
set_option linter.all false
set_option genSizeOf false
set_option maxRecDepth 100000
namespace L2
open PySem PySem.Spec PyProof.Rows
noncomputable abbrev Key := Sum Int Str
noncomputable def keyIs : Key → Value → Bool
  | .inl k, v => Value.isInt k v
  | .inr x, v => Value.isStrOf x v
noncomputable def keyH (w : World) : Key → Int
  | .inl k => hashInt k
  | .inr x => hashStr w x
theorem keyIs_shape : ∀ {k : Key} {v : Value}, keyIs k v = true → (∃ i t, k = Sum.inl i ∧ v = Value.int i t) ∨ (∃ x t, k = Sum.inr x ∧ v = Value.str x t)
  | .inl i, v, h => by
    obtain ⟨t, e⟩ := Value.isInt_shape (k := i) (v := v) h
    exact .inl ⟨i, t, rfl, e⟩
  | .inr x, v, h => by
    obtain ⟨t, e⟩ := Value.isStrOf_shape (x := x) (v := v) h
    exact .inr ⟨x, t, rfl, e⟩
theorem keyIs_int (i : Int) (t : Tok) : keyIs (.inl i) (.int i t) = true := by simp [keyIs, Value.isInt]
theorem keyIs_str (x : Str) (t : Tok) : keyIs (.inr x) (.str x t) = true := by simp [keyIs, Value.isStrOf]
theorem key_ll (a b : Int) : decide ((Sum.inl a : Key) = Sum.inl b) = (a == b) := by
  by_cases e : a = b
  · subst e; simp
  · have h : ¬ (Sum.inl a : Key) = Sum.inl b := fun q => e (Sum.inl.inj q)
    rw [decide_eq_false h]
    exact (beq_eq_false_iff_ne.mpr e).symm
theorem key_rr (a b : Str) : decide ((Sum.inr a : Key) = Sum.inr b) = decide (a = b) := by
  by_cases e : a = b
  · subst e; simp
  · have h : ¬ (Sum.inr a : Key) = Sum.inr b := fun q => e (Sum.inr.inj q)
    rw [decide_eq_false h, decide_eq_false e]
theorem key_lr (a : Int) (b : Str) : decide ((Sum.inl a : Key) = Sum.inr b) = false := decide_eq_false (fun q => nomatch q)
theorem key_rl (a : Str) (b : Int) : decide ((Sum.inr a : Key) = Sum.inl b) = false := decide_eq_false (fun q => nomatch q)
noncomputable def mixKind (prog : Program) (w : World) : PySem.KeyKind prog w Key where
  is := keyIs
  hash := keyH w
  inj := fun v a b ha hb => by
    rcases keyIs_shape ha with ⟨i, t, rfl, rfl⟩ | ⟨x, t, rfl, rfl⟩
    · rcases keyIs_shape hb with ⟨j, u, rfl, e⟩ | ⟨y, u, rfl, e⟩
      · injection e with e1 _; rw [e1]
      · exact nomatch e
    · rcases keyIs_shape hb with ⟨j, u, rfl, e⟩ | ⟨y, u, rfl, e⟩
      · exact nomatch e
      · injection e with e1 _; rw [e1]
  byValue := fun k v h => by
    rcases keyIs_shape h with ⟨i, t, rfl, rfl⟩ | ⟨x, t, rfl, rfl⟩ <;> rfl
  pyHash := fun hv h => by
    rcases keyIs_shape hv with ⟨i, t, rfl, rfl⟩ | ⟨x, t, rfl, rfl⟩
    · exact wpAny_pyHash_int h
    · exact wpAny_pyHash_str h
  eqBool := fun hu hv h => by
    rcases keyIs_shape hu with ⟨i, t, rfl, rfl⟩ | ⟨x, t, rfl, rfl⟩
    · rcases keyIs_shape hv with ⟨j, u, rfl, rfl⟩ | ⟨y, u, rfl, rfl⟩
      · rw [key_ll] at h; exact wpAny_eqBool_int h
      · rw [key_lr] at h; exact SeqAt.EqAt.int_str i t y u _ _ _ _ h
    · rcases keyIs_shape hv with ⟨j, u, rfl, rfl⟩ | ⟨y, u, rfl, rfl⟩
      · rw [key_rl] at h; exact SeqAt.EqAt.str_int x t j u _ _ _ _ h
      · rw [key_rr] at h; exact wpAny_eqBool_str h
  «strs» := fun k x t v h => by
    rcases keyIs_shape h with ⟨i, u, rfl, e⟩ | ⟨y, u, rfl, e⟩
    · exact nomatch e
    · injection e with e1 _
      subst e1
      cases v <;> rfl
theorem mixKind_int (prog : Program) (w : World) (i : Int) (t : Tok) : (mixKind prog w).is (.inl i) (.int i t) = true := keyIs_int i t
theorem mixKind_str (prog : Program) (w : World) (x : Str) (t : Tok) : (mixKind prog w).is (.inr x) (.str x t) = true := keyIs_str x t
end L2
namespace L2
open PySem PySem.Spec PyProof.Rows
inductive V where
  | non | bl (b : Bool) | int (i : Int) | str (x : Str) | byt (b : Array UInt8) | flt (b : UInt64) | ref (a : Addr) | ty (n : String)
  deriving DecidableEq
noncomputable def RelV : V → Value → Prop
  | .non, u => u = Value.none
  | .bl b, u => u = Value.bool b
  | .int i, u => ∃ t, u = Value.int i t
  | .str x, u => ∃ t, u = Value.str x t
  | .byt b, u => ∃ t, u = Value.bytes b t
  | .flt b, u => ∃ t, u = Value.float b t
  | .ref a, u => u = Value.ref a
  | .ty n, u => u = Value.type n
noncomputable abbrev Vals : List V → List Value → Prop := Paired RelV
theorem Vals.length {xs : List V} {us : List Value} (r : Vals xs us) : xs.length = us.length := Paired.length r
theorem Vals.get : ∀ {xs : List V} {us : List Value} {i : Nat} {x : V}, Vals xs us → xs[i]? = some x → ∃ u, us[i]? = some u ∧ RelV x u
  | _, _, _, _, .nil, e => by simp at e
  | _, _, 0, _, .cons r _, e => by simp at e; subst e; exact ⟨_, rfl, r⟩
  | _, _, i + 1, x, .cons _ t, e => by
    obtain ⟨u, h1, h2⟩ := Vals.get (i := i) (x := x) t (by simpa using e)
    exact ⟨u, by simpa using h1, h2⟩
theorem Vals.append : ∀ {xs ys : List V} {us ws : List Value}, Vals xs us → Vals ys ws → Vals (xs ++ ys) (us ++ ws)
  | _, _, _, _, .nil, s => s
  | _, _, _, _, .cons r t, s => .cons r (Vals.append t s)
theorem Vals.take : ∀ {xs : List V} {us : List Value} (n : Nat), Vals xs us → Vals (xs.take n) (us.take n)
  | _, _, 0, _ => .nil
  | _, _, _ + 1, .nil => .nil
  | _, _, n + 1, .cons r t => .cons r (Vals.take n t)
theorem Vals.drop : ∀ {xs : List V} {us : List Value} (n : Nat), Vals xs us → Vals (xs.drop n) (us.drop n)
  | _, _, 0, r => r
  | _, _, _ + 1, .nil => .nil
  | _, _, n + 1, .cons _ t => Vals.drop n t
noncomputable def RelO : Option V → Option Value → Prop
  | some v, some u => RelV v u
  | none, none => True
  | _, _ => False
noncomputable def KV {κ : Type} : List (κ × V) → List (κ × Value) → Prop := Paired fun (p : κ × V) (q : κ × Value) => p.1 = q.1 ∧ RelV p.2 q.2
noncomputable def kV : Key → V
  | .inl i => .int i
  | .inr x => .str x
inductive HO where
    | lst (xs : List V)
    | tup (xs : List V)
    | dK (kvs : List (Key × V)) | dT (kvs : List (List Key × V))
    | set (S : Int → Bool) (n : Nat)
    | ins (C dx : Addr) (fs : List (Str × V))
    | own (x : Addr)
    | xd (fs : List (Str × V))
    | met (f x : Addr)
    | rng (lo hi : Int)
    | frz (o : Obj) (u : HO)
    | tbl (ps : Array Value)
    | ext (φ : Heap → Prop)
noncomputable abbrev Hp := Addr → Option HO
noncomputable def upd (H : Hp) (a : Addr) (o : HO) : Hp := fun b => if b = a then some o else H b
theorem upd_same {H : Hp} {a : Addr} {o : HO} : upd H a o a = some o := by unfold upd; rw [if_pos rfl]
theorem upd_ne {H : Hp} {a b : Addr} {o : HO} (h : b ≠ a) : upd H a o b = H b := by unfold upd; rw [if_neg h]
theorem upd_upd {H : Hp} {a : Addr} {o u : HO} : upd (upd H a o) a u = upd H a u := by
  funext b; unfold upd; split <;> rfl
theorem ne_of {H : Hp} {a b : Addr} {o u : HO} (h : H a = some o) (h' : H b = some u) (d : o ≠ u) : a ≠ b := by
  intro e; subst e; rw [h] at h'; exact d (Option.some.inj h')
theorem ne_of_none {H : Hp} {a b : Addr} {o : HO} (h : H a = some o) (h' : H b = none) : a ≠ b := by
  intro e; subst e; rw [h] at h'; cases h'
section
variable (P : Program) (w : World)
noncomputable def ObjOk (H : Hp) (h : Heap) (a : Addr) : HO → Prop
  | .lst xs => xs.length ≤ sizeLine ∧ ∃ (its : List Value) (n : Nat), Vals xs its ∧ h.get? a = some { cls := .type "list", data := .seq its.toArray n }
  | .tup xs => xs.length ≤ sizeLine ∧ ∃ its : List Value, Vals xs its ∧ IsTup h a its.toArray
  | .dK kvs => kvs.length ≤ sizeLine ∧ (a == sysModules) = false ∧ ∃ vs, KV kvs vs ∧ h.DictOf (mixKind P w) a vs
  | .dT kvs => kvs.length ≤ sizeLine ∧ (a == sysModules) = false ∧ ∃ xs : List (List Key × Addr × Value),
      Paired (fun (p : List Key × V) (q : List Key × Addr × Value) => p.1 = q.1 ∧ H q.2.1 = some (.tup (p.1.map kV)) ∧ RelV p.2 q.2.2) kvs xs ∧
      ∃ o es ep, h.get? a = some o ∧ o.ExactDict ∧ o.data = .dict es ep ∧ es.toList = xs.map (entryOfKey (tupleKind (mixKind P w))) ∧ (xs.map (·.1)).Nodup
  | .set S n => h.SetOf (intKind P w) a S n
  | .ins C dx fs => H dx = some (.own a) ∧ fs.length ≤ 1000 ∧ dx ≠ a ∧ h.get? a = some (PySem.W.instObj C dx) ∧
      ∃ mA, h.Ns1 dx mA ∧ (∀ f, RelO (fs.lookup f) (mA f)) ∧ PySem.Within mA (fs.map (·.1))
  | .own _ => ∃ o, h.get? a = some o
  | .xd fs => ∃ mA, h.Ns1 a mA ∧ ∀ f, RelO (fs.lookup f) (mA f)
  | .rng lo hi => ∃ t u v, h.get? a = some { cls := .type "range", data := .fields #[.int lo t, .int hi u, .int 1 v] }
  | .frz o u => h.get? a = some o ∧ ObjOk H h a u
  | .tbl ps => h.get? a = some { cls := .none, data := .fields ps }
  | .met f x => h.get? a = some (PySem.W.methodObj (.ref f) (.ref x))
  | .ext φ => φ h ∧ (∃ o, h.get? a = some o) ∧ ∀ h1 h2 : Heap, φ h1 → (∀ o, h1.get? a = some o → h2.get? a = some o) → φ h2
noncomputable def HOk (H : Hp) (h : Heap) : Prop := ∀ a o, H a = some o → ObjOk P w H h a o
end
section
variable {P : Program} {w : World} {H H' : Hp} {h h' : Heap} {a : Addr} {o : HO}
theorem ObjOk.lt (x : ObjOk P w H h a o) : a < h.objs.size := by
  cases o with
  | lst xs => obtain ⟨_, _, _, _, e⟩ := x; exact Heap.lt_size e
  | tup xs => obtain ⟨_, _, _, p⟩ := x; exact p.lt
  | dK kvs => obtain ⟨_, _, _, _, o, _, _, e, _⟩ := x; exact Heap.lt_size e
  | dT kvs => obtain ⟨_, _, _, _, o, _, _, e, _⟩ := x; exact Heap.lt_size e
  | set S n => obtain ⟨o, _, _, _, e, _⟩ := x; exact Heap.lt_size e
  | ins C dx fs => obtain ⟨_, _, _, e, _⟩ := x; exact Heap.lt_size e
  | own y => obtain ⟨_, e⟩ := x; exact Heap.lt_size e
  | xd fs => obtain ⟨_, ⟨_, _, _, e, _⟩, _⟩ := x; exact Heap.lt_size e
  | rng lo hi => obtain ⟨_, _, _, e⟩ := x; exact Heap.lt_size e
  | frz ob u => obtain ⟨e, _⟩ := x; exact Heap.lt_size e
  | tbl ps => exact Heap.lt_size (show h.get? a = some _ from x)
  | met f y => exact Heap.lt_size (show h.get? a = some _ from x)
  | ext φ => obtain ⟨_, ⟨_, e⟩, _⟩ := x; exact Heap.lt_size e
theorem Paired.mapP {α β : Type} {F G : α → β → Prop} : ∀ {l₁ : List α} {l₂ : List β}, Paired F l₁ l₂ → (∀ a b, F a b → G a b) → Paired G l₁ l₂
  | _, _, .nil, _ => .nil
  | _, _, .cons r t, f => .cons (f _ _ r) (Paired.mapP t f)
theorem ObjOk.stay (x : ObjOk P w H h a o) (k : ∀ b u, (b = a ∨ H b = some (.own a)) → h.get? b = some u → h'.get? b = some u)
    (ho : ∀ b, H b = some (.own a) → H' b = some (.own a)) (ht : ∀ b xs, H b = some (.tup xs) → H' b = some (.tup xs)) : ObjOk P w H' h' a o := by
  induction o with
  | lst xs => obtain ⟨z, its, n, r, e⟩ := x; exact ⟨z, its, n, r, k _ _ (.inl rfl) e⟩
  | tup xs => obtain ⟨z, its, r, ob, e, c⟩ := x; exact ⟨z, its, r, ob, k _ _ (.inl rfl) e, c⟩
  | dK kvs => obtain ⟨z, y, vs, r, ob, es, ep, e, c⟩ := x; exact ⟨z, y, vs, r, ob, es, ep, k _ _ (.inl rfl) e, c⟩
  | dT kvs =>
    obtain ⟨z, y, xs, r, ob, es, ep, e, c⟩ := x
    exact ⟨z, y, xs, Paired.mapP r fun p q z => ⟨z.1, ht _ _ z.2.1, z.2.2⟩, ob, es, ep, k _ _ (.inl rfl) e, c⟩
  | set S n => obtain ⟨ob, es, ep, t, e, c⟩ := x; exact ⟨ob, es, ep, t, k _ _ (.inl rfl) e, c⟩
  | ins C dx fs =>
    obtain ⟨d, z, ne, e, mA, ⟨od, es, ep, e2, c⟩, r⟩ := x
    exact ⟨ho _ d, z, ne, k _ _ (.inl rfl) e, mA, ⟨od, es, ep, k _ _ (.inr d) e2, c⟩, r⟩
  | own y => obtain ⟨ob, e⟩ := x; exact ⟨ob, k _ _ (.inl rfl) e⟩
  | xd fs => obtain ⟨mA, ⟨od, es, ep, e, c⟩, r⟩ := x; exact ⟨mA, ⟨od, es, ep, k _ _ (.inl rfl) e, c⟩, r⟩
  | rng lo hi => obtain ⟨t, u, v, e⟩ := x; exact ⟨t, u, v, k _ _ (.inl rfl) e⟩
  | frz ob u ih => obtain ⟨e, q⟩ := x; exact ⟨k _ _ (.inl rfl) e, ih q⟩
  | tbl ps =>
    have e : h.get? a = some { cls := .none, data := .fields ps } := x
    show h'.get? a = some { cls := .none, data := .fields ps }
    exact k a _ (.inl rfl) e
  | met f y =>
    have e : h.get? a = some (PySem.W.methodObj (.ref f) (.ref y)) := x
    show h'.get? a = some (PySem.W.methodObj (.ref f) (.ref y))
    exact k a _ (.inl rfl) e
  | ext φ => obtain ⟨p, ⟨o, e⟩, st⟩ := x; exact ⟨st _ _ p fun o q => k _ _ (.inl rfl) q, ⟨o, k _ _ (.inl rfl) e⟩, st⟩
theorem HOk.lt (x : HOk P w H h) (e : H a = some o) : a < h.objs.size := (x a o e).lt
theorem HOk.fresh (x : HOk P w H h) (e : h.objs.size ≤ a) : H a = none := by
  cases q : H a with
  | none => rfl
  | some u => exact absurd (Nat.lt_of_lt_of_le (x.lt q) e) (Nat.lt_irrefl _)
theorem HOk.kept (x : HOk P w H h) (k : ∀ b u, h.get? b = some u → h'.get? b = some u) : HOk P w H h' := fun a o e =>
  (x a o e).stay (fun b u _ q => k b u q) (fun _ q => q) fun _ _ q => q
theorem HOk.laid (x : HOk P w H h) (k : ∀ b u, h.get? b = some u → h'.get? b = some u) (hp : h.objs.size ≤ a) (new : ObjOk P w (upd H a o) h' a o) : HOk P w (upd H a o) h' := fun b u e => by
  have hn := x.fresh hp
  by_cases hb : b = a
  · subst hb; rw [upd_same] at e; cases e; exact new
  · rw [upd_ne hb] at e
    exact (x b u e).stay (fun c v _ q => k c v q) (fun c q => by rw [upd_ne (ne_of_none q hn)]; exact q) fun c xs q => by rw [upd_ne (ne_of_none q hn)]; exact q
end
noncomputable def Rd (H : Hp) (a : Addr) (u : HO) : Prop := H a = some u ∨ ∃ o, H a = some (.frz o u)
theorem Rd.ok {P : Program} {w : World} {H : Hp} {h : Heap} {a : Addr} {u : HO} (r : Rd H a u) (x : HOk P w H h) : ObjOk P w H h a u := by
  rcases r with r | ⟨o, r⟩
  · exact x a u r
  · obtain ⟨_, q⟩ := x a _ r
    exact q
noncomputable def Mut : Option HO → Prop
  | some (.lst _) => True
  | some (.dK _) => True
  | some (.dT _) => True
  | some (.set _ _) => True
  | some (.ins _ _ _) => True
  | some (.ext _) => True
  | _ => False
section
variable {P : Program} {w : World} {H : Hp} {h h' : Heap} {x e : Addr} {o' : HO}
theorem HOk.write (ok : HOk P w H h) (mu : Mut (H x)) (he : e = x ∨ H e = some (.own x)) (k : ∀ b u, b ≠ e → h.get? b = some u → h'.get? b = some u) (heo : ∃ u, h'.get? e = some u)
    (new : ObjOk P w (upd H x o') h' x o') : HOk P w (upd H x o') h' := fun b u q => by
  have nown : ∀ c y, H c = some (.own y) → c ≠ x := fun c y r z => by subst z; rw [r] at mu; exact mu
  have ntup : ∀ c xs, H c = some (.tup xs) → c ≠ x := fun c xs r z => by subst z; rw [r] at mu; exact mu
  by_cases hb : b = x
  · subst hb; rw [upd_same] at q; cases q; exact new
  · rw [upd_ne hb] at q
    by_cases hbe : b = e
    · have q' : H b = some (.own x) := by
        rcases he with z | z
        · exact absurd (hbe.trans z) hb
        · rw [hbe]; exact z
      rw [q] at q'; cases q'
      obtain ⟨v, hv⟩ := heo
      exact ⟨v, by rw [hbe]; exact hv⟩
    · refine (ok b u q).stay (fun c v hc r => k c v ?_ r) (fun c r => by rw [upd_ne (nown c b r)]; exact r) fun c xs r => by rw [upd_ne (ntup c xs r)]; exact r
      rcases hc with rfl | hc
      · exact hbe
      · rintro rfl
        rcases he with z | z
        · exact nown c b hc z
        · rw [hc] at z; cases z; exact hb rfl
end
structure Un (fs ex : List Addr) (H H' : Hp) (h h' : Heap) : Prop where
  keep : ∀ b o, h.get? b = some o → H b = none → b ∉ fs → b ∉ ex → h'.get? b = some o
  slot : ∀ b o, h.get? b = some o → H b = none → b ∈ fs → b ∉ ex → ∃ sl, h'.get? b = some { o with slots := sl }
  free : ∀ b o, h.get? b = some o → H b = none → b ∉ ex → H' b = none
  there : ∀ b o, h.get? b = some o → b ∉ ex → ∃ o', h'.get? b = some o'
  tups : ∀ b xs, H b = some (.tup xs) → H' b = some (.tup xs)
  frzs : ∀ b o u, H b = some (.frz o u) → H' b = some (.frz o u)
  tbls : ∀ b ps, H b = some (.tbl ps) → ∃ more, H' b = some (.tbl (ps ++ more))
section
variable {fs fs' ex ex' : List Addr} {H H1 H2 : Hp} {h h1 h2 h' : Heap} {a x e : Addr} {o : HO}
theorem Un.any (u : Un fs ex H H1 h h1) {b : Addr} {ob : Obj} (q : h.get? b = some ob) (n : H b = none) (hx : b ∉ ex) : ∃ sl, h1.get? b = some { ob with slots := sl } := by
  by_cases hb : b ∈ fs
  · exact u.slot b ob q n hb hx
  · exact ⟨ob.slots, u.keep b ob q n hb hx⟩
theorem Un.kept (k : ∀ b u, h.get? b = some u → h'.get? b = some u) : Un fs ex H H h h' :=
  ⟨fun b ob q _ _ _ => k b ob q, fun b ob q _ _ _ => ⟨ob.slots, k b ob q⟩, fun _ _ _ n _ => n, fun b ob q _ => ⟨ob, k b ob q⟩, fun _ _ q => q, fun _ _ _ q => q, fun _ ps q => ⟨#[], by rw [q]; simp⟩⟩
theorem Un.refl : Un fs ex H H h h := Un.kept fun _ _ q => q
theorem Un.laid (k : ∀ b u, h.get? b = some u → h'.get? b = some u) (hp : h.objs.size ≤ a) (hn : H a = none) : Un fs ex H (upd H a o) h h' where
  keep := fun b u q _ _ _ => k b u q
  slot := fun b u q _ _ _ => ⟨u.slots, k b u q⟩
  free := fun b u q n _ => by rw [upd_ne (Nat.ne_of_lt (Nat.lt_of_lt_of_le (Heap.lt_size q) hp))]; exact n
  there := fun b u q _ => ⟨u, k b u q⟩
  tups := fun b xs q => by rw [upd_ne (ne_of_none q hn)]; exact q
  frzs := fun b u xs q => by rw [upd_ne (ne_of_none q hn)]; exact q
  tbls := fun b ps q => ⟨#[], by rw [upd_ne (ne_of_none q hn), q]; simp⟩
theorem Un.write (mu : Mut (H x)) (he : e = x ∨ H e = some (.own x)) (k : ∀ b u, b ≠ e → h.get? b = some u → h'.get? b = some u) (heo : ∃ u, h'.get? e = some u) : Un fs ex H (upd H x o) h h' := by
  have hx : ∀ b, H b = none → b ≠ x := fun b n z => by subst z; rw [n] at mu; exact mu
  have hb : ∀ b, H b = none → b ≠ e := fun b n z => by
    subst z
    rcases he with r | r
    · exact hx b n r
    · rw [n] at r; cases r
  have hm : ∀ b u, H b = some u → ¬ Mut (some u) → b ≠ x := fun b u q nm z => by subst z; rw [q] at mu; exact nm mu
  refine ⟨fun b u q n _ _ => k b u (hb b n) q, fun b u q n _ _ => ⟨u.slots, k b u (hb b n) q⟩, fun b u q n _ => by rw [upd_ne (hx b n)]; exact n, fun b u q _ => ?_,
    fun b xs q => by rw [upd_ne (hm b _ q fun z => z)]; exact q, fun b u xs q => by rw [upd_ne (hm b _ q fun z => z)]; exact q, fun b ps q => ⟨#[], by rw [upd_ne (hm b _ q fun z => z), q]; simp⟩⟩
  by_cases hbe : b = e
  · subst hbe; exact heo
  · exact ⟨u, k b u hbe q⟩
end
noncomputable def trk (h : Heap) (H : Hp) : List Addr := (List.range h.objs.size).filter fun a => (H a).isSome
noncomputable def hidT (h : Heap) (H : Hp) : Heap := PySem.W.hideAll h (trk h H)
theorem hidT_size (h : Heap) (H : Hp) : (hidT h H).objs.size = h.objs.size := PySem.W.hideAll_size _ _
theorem hidT_get {h : Heap} {H : Hp} {b : Addr} {o : Obj} (e : h.get? b = some o) (n : H b = none) : (hidT h H).get? b = some o :=
  PySem.W.hideAll_get _ e fun hm => by
    have q : (H b).isSome = true := (List.mem_filter.mp hm).2
    rw [n] at q; simp at q
theorem of_hidT {h : Heap} {H : Hp} {b : Addr} {o : Obj} (e : (hidT h H).get? b = some o) : h.get? b = some o ∧ H b = none := by
  have e' : h.get? b = some o := PySem.W.of_hideAll (trk h H) e
  refine ⟨e', ?_⟩
  cases q : H b with
  | none => rfl
  | some x =>
    have hm : b ∈ trk h H := List.mem_filter.mpr ⟨List.mem_range.mpr (Heap.lt_size e'), by simp [q]⟩
    have z : (hidT h H).get? b = none := PySem.W.hideAll_none (trk h H) hm
    rw [z] at e; cases e
end L2
namespace L2
open PySem PySem.Spec PyProof.Rows
structure Mod (K : PySem.W.Frag) (mg : Str → Option Value) (base : Heap) : Prop where
  kin : K.In base
  glob : base.Ns mainGlobals mg
  blt : ∃ mb, base.Ns builtinsNs mb ∧ ∀ x : Str, x ≠ "__name__" → mb x = bootBuiltins x
  nolimit : base.NoLimit
structure Cx where
  prog : Program
  w : World
  K : PySem.W.Frag
  mg : Str → Option Value
  base : Heap
  A : Around
  N : List Str
  s_0 : Shared
  H_0 : Hp
  env : Env
  outer : List Env
  stack : List Env
  ex : List Addr
  fn : Str → Bool
  calm : Bool
  pn : List (Addr × Obj)
  xe : Value → Shared → Prop
noncomputable def frs (l : List Env) : List Addr := l.filterMap (·.frame)
noncomputable abbrev Cx.fs (X : Cx) : List Addr := frs X.outer
noncomputable def Vis (sc : Scope) (x : Str) : Prop := sc.names.lookup x = some .local ∨ sc.names.lookup x = some .cell ∨ sc.names.lookup x = some .free
noncomputable def Loc (sc : Scope) (x : Str) : Prop := sc.names.lookup x = some .local ∨ sc.names.lookup x = some .cell
noncomputable def Look (env : Env) (h : Heap) (m : Str → Option Value) (x : Str) (u : Value) : Prop :=
  (env.kindOf x = some .local ∧ m x = some u) ∨ ((env.kindOf x = some .cell ∨ env.kindOf x = some .free) ∧ ∃ c, env.cells.lookup x = some c ∧ h.IsCell c (some u))
structure Cx.Ok (X : Cx) : Prop where
  mod : Mod X.K X.mg X.base
  kind : X.env.scope.kind = .function
  glob : X.env.globals = mainGlobals
  blt : X.env.builtins = builtinsNs
  above : X.s_0.heap.objs.size ≤ X.env.locals
  inj : ∀ x y c, X.env.cells.lookup x = some c → X.env.cells.lookup y = some c → x = y
  has : ∀ x, (X.env.kindOf x = some .cell ∨ X.env.kindOf x = some .free) → ∃ c, X.env.cells.lookup x = some c
  cab : ∀ x c, X.fn x = true → X.env.cells.lookup x = some c → X.s_0.heap.objs.size ≤ c
  hd : X.calm = true → X.A.handled = none
  frames : X.A.frames = some X.stack
  stk : X.stack = X.outer ∨ (X.stack = X.env :: X.outer ∧ X.env.frame = some X.env.locals)
  exf : ∀ b ∈ X.ex, b ≠ X.env.locals ∧ ∀ x c, X.env.cells.lookup x = some c → c ≠ b
  bs : ∀ b o, X.base.get? b = some o → X.s_0.heap.get? b = some o ∧ X.H_0 b = none
  bsz : X.base.objs.size ≤ X.s_0.heap.objs.size
  noex : ∀ b o, X.base.get? b = some o → b ∉ X.ex
  exfs : ∀ b ∈ X.ex, b ∉ X.fs
  funs : X.s_0.heap.FunFrames X.base X.outer
  frf : ∀ b ∈ X.fs, X.H_0 b = none
structure Inv (X : Cx) (pins : List (Addr × Obj)) (σ : List (Option V)) (H : Hp) (s : Shared) : Prop where
  ok : X.Ok
  os : s.os = X.s_0.os
  bare : AllBare s.gens
  base : Un X.fs X.ex X.H_0 H X.s_0.heap s.heap
  loc : ∃ m, s.heap.Ns X.env.locals m ∧ ∀ (i : Nat) (x : Str) (v : V), X.N[i]? = some x → σ[i]? = some (some v) → Vis X.env.scope x → ∃ u, RelV v u ∧ Look X.env s.heap m x u
  cell : ∀ x c, X.env.cells.lookup x = some c → ∃ v, s.heap.IsCell c v
  free : H X.env.locals = none
  freeC : ∀ x c, X.env.cells.lookup x = some c → H c = none
  pin : ∀ p ∈ X.pn ++ pins, s.heap.get? p.1 = some p.2 ∧ H p.1 = none ∧ p.1 ≠ X.env.locals ∧ p.1 ∉ X.fs ∧ ∀ v, p.2.data ≠ .cell v
  hok : HOk X.prog X.w H s.heap
  len : σ.length = X.N.length
section
variable {X : Cx} {pins : List (Addr × Obj)} {σ : List (Option V)} {H H' : Hp} {s : Shared} {h' : Heap}
theorem Cx.Ok.nofr (ok : X.Ok) {b : Addr} {o : Obj} (e : X.base.get? b = some o) : b ∉ X.fs := fun hb => by
  have := (ok.funs.mem hb).1
  rw [e] at this; cases this
theorem Inv.bs (I : Inv X pins σ H s) : ∀ b o, X.base.get? b = some o → s.heap.get? b = some o ∧ H b = none := fun b o e =>
  ⟨I.base.keep b o (I.ok.bs b o e).1 (I.ok.bs b o e).2 (I.ok.nofr e) (I.ok.noex b o e), I.base.free b o (I.ok.bs b o e).1 (I.ok.bs b o e).2 (I.ok.noex b o e)⟩
theorem Inv.bk (I : Inv X pins σ H s) : ∀ b o, X.base.get? b = some o → s.heap.get? b = some o := fun b o e => (I.bs b o e).1
theorem Inv.mod (I : Inv X pins σ H s) : Mod X.K X.mg X.base := I.ok.mod
theorem Inv.kIn (I : Inv X pins σ H s) : X.K.In s.heap := I.ok.mod.kin.keeps I.bk
theorem Inv.lt (I : Inv X pins σ H s) : X.env.locals < s.heap.objs.size := let ⟨_, hn, _⟩ := I.loc; hn.lt
theorem Inv.sz (I : Inv X pins σ H s) : X.s_0.heap.objs.size ≤ s.heap.objs.size := Nat.le_trans I.ok.above (Nat.le_of_lt I.lt)
theorem Inv.nofs (I : Inv X pins σ H s) {a : Addr} (h : s.heap.objs.size ≤ a) : a ∉ X.fs := fun hb => by
  obtain ⟨_, o, ho, _⟩ := I.ok.funs.mem hb
  exact absurd (Nat.lt_of_lt_of_le (Heap.lt_size ho) (Nat.le_trans I.sz h)) (Nat.lt_irrefl _)
theorem Inv.cne (I : Inv X pins σ H s) : ∀ x c, X.env.cells.lookup x = some c → c ≠ X.env.locals := fun x c e z => by
  obtain ⟨v, o, ho, hd⟩ := I.cell x c e
  obtain ⟨m, ⟨o', es, ep, ho', hd', _⟩, _⟩ := I.loc
  rw [z, ho'] at ho; cases ho; rw [hd'] at hd; cases hd
theorem Inv.funs (I : Inv X pins σ H s) : s.heap.FunFrames X.base X.outer := by
  have all : ∀ (l : List Env), (∀ b ∈ frs l, b ∈ X.fs) → X.s_0.heap.FunFrames X.base l → s.heap.FunFrames X.base l := by
    intro l
    induction l with
    | nil => intro _ _; trivial
    | cons env r ih =>
      intro hs hl
      obtain ⟨hk, ⟨L, o, hf, hn, ho, hd⟩, hr⟩ := hl
      have hL : L ∈ X.fs := hs L (by unfold frs; rw [List.filterMap_cons, hf]; exact List.mem_cons_self)
      obtain ⟨sl, e⟩ := I.base.slot L o ho (I.ok.frf L hL) hL fun z => I.ok.exfs L z hL
      exact ⟨hk, ⟨L, _, hf, hn, e, hd⟩, ih (fun b hb => hs b (by unfold frs; rw [List.filterMap_cons, hf]; exact List.mem_cons_of_mem _ hb)) hr⟩
  exact all X.outer (fun _ hb => hb) I.ok.funs
theorem Inv.stack (I : Inv X pins σ H s) : s.heap.FunFrames X.base X.stack := by
  rcases I.ok.stk with e | ⟨e, hf⟩
  · rw [e]; exact I.funs
  · rw [e]
    obtain ⟨m, hn, _⟩ := I.loc
    refine .cons (by rw [I.ok.kind]; decide) hf hn ?_ I.funs
    exact Heap.get?_none_of_le (Nat.le_trans I.ok.bsz I.ok.above)
theorem Inv.stkSub (I : Inv X pins σ H s) : ∀ b ∈ frs X.stack, b ∈ X.env.locals :: X.fs := fun b hb => by
  rcases I.ok.stk with e | ⟨e, hf⟩
  · rw [e] at hb; exact List.mem_cons_of_mem _ hb
  · rw [e] at hb
    unfold frs at hb
    rw [List.filterMap_cons, hf] at hb
    exact hb
theorem Inv.stkFree (I : Inv X pins σ H s) : ∀ b ∈ frs X.stack, H b = none := fun b hb => by
  rcases List.mem_cons.mp (I.stkSub b hb) with e | hb
  · rw [e]; exact I.free
  · obtain ⟨_, o, ho, _⟩ := I.ok.funs.mem hb
    exact I.base.free b o ho (I.ok.frf b hb) fun z => I.ok.exfs b z hb
theorem Inv.step {g' : Array GenState} {t' : Nat} {d' : Drawn} {ch : List Addr} (I : Inv X pins σ H s)
    (hch : ∀ b ∈ ch, (b ∈ X.ex ∨ X.s_0.heap.objs.size ≤ b) ∧ b ≠ X.env.locals ∧ (∀ x c, X.env.cells.lookup x = some c → c ≠ b) ∧ ∀ p ∈ X.pn ++ pins, p.1 ≠ b)
    (keep : ∀ b o, b ≠ X.env.locals → b ∉ X.fs → b ∉ ch → s.heap.get? b = some o → H b = none → h'.get? b = some o)
    (slot : ∀ b o, b ≠ X.env.locals → b ∈ X.fs → b ∉ ch → s.heap.get? b = some o → H b = none → ∃ sl, h'.get? b = some { o with slots := sl }) (free : ∀ b o, b ∉ ch → s.heap.get? b = some o → H b = none → H' b = none)
    (there : ∀ b o, b ∉ ch → s.heap.get? b = some o → ∃ o', h'.get? b = some o')
    (tups : ∀ b xs, H b = some (.tup xs) → H' b = some (.tup xs)) (frzs : ∀ b o u, H b = some (.frz o u) → H' b = some (.frz o u)) (tbls : ∀ b ps, H b = some (.tbl ps) → ∃ more, H' b = some (.tbl (ps ++ more)))
    (ns : ∀ m, s.heap.Ns X.env.locals m → h'.Ns X.env.locals m) (hok : HOk X.prog X.w H' h') (hg : AllBare g') :
    Inv X pins σ H' { s with heap := h', gens := g', drawn := d', toks := t' } := by
  have neL : ∀ b o, X.s_0.heap.get? b = some o → b ≠ X.env.locals := fun b o e => Nat.ne_of_lt (Nat.lt_of_lt_of_le (Heap.lt_size e) I.ok.above)
  have neC : ∀ b o, X.s_0.heap.get? b = some o → b ∉ X.ex → b ∉ ch := fun b o e hx hb => by
    rcases (hch b hb).1 with z | z
    · exact hx z
    · exact absurd (Nat.lt_of_lt_of_le (Heap.lt_size e) z) (Nat.lt_irrefl _)
  have cellK : ∀ x c, X.env.cells.lookup x = some c → ∀ v, s.heap.IsCell c v → h'.IsCell c v := fun x c e v ⟨o, ho, hd⟩ => by
    have nch : c ∉ ch := fun z => (hch c z).2.2.1 x c e rfl
    by_cases hc : c ∈ X.fs
    · obtain ⟨sl, q⟩ := slot c o (I.cne x c e) hc nch ho (I.freeC x c e)
      exact ⟨_, q, hd⟩
    · exact ⟨o, keep c o (I.cne x c e) hc nch ho (I.freeC x c e), hd⟩
  refine ⟨I.ok, I.os, hg, ⟨fun b o e n hb hx => ?_, fun b o e n hb hx => ?_, fun b o e n hx => ?_, fun b o e hx => ?_, fun b xs e => tups b xs (I.base.tups b xs e), fun b o xs e => frzs b o xs (I.base.frzs b o xs e), fun b ps e => ?_⟩, ?_, fun x c e => ?_, ?_, fun x c e => ?_, fun p hp => ?_, hok, I.len⟩
  · exact keep b o (neL b o e) hb (neC b o e hx) (I.base.keep b o e n hb hx) (I.base.free b o e n hx)
  · obtain ⟨sl, e1⟩ := I.base.slot b o e n hb hx
    obtain ⟨sl', e2⟩ := slot b _ (neL b o e) hb (neC b o e hx) e1 (I.base.free b o e n hx)
    exact ⟨sl', e2⟩
  · obtain ⟨o', e1⟩ := I.base.there b o e hx
    exact free b o' (neC b o e hx) e1 (I.base.free b o e n hx)
  · obtain ⟨o', e1⟩ := I.base.there b o e hx
    exact there b o' (neC b o e hx) e1
  · obtain ⟨m1, e1⟩ := I.base.tbls b ps e
    obtain ⟨m2, e2⟩ := tbls b _ e1
    exact ⟨m1 ++ m2, by rw [e2, Array.append_assoc]⟩
  · obtain ⟨m, hn, hl⟩ := I.loc
    refine ⟨m, ns m hn, fun i x v e1 e2 e3 => ?_⟩
    obtain ⟨u, r, l⟩ := hl i x v e1 e2 e3
    refine ⟨u, r, ?_⟩
    rcases l with l | ⟨k, c, e, z⟩
    · exact .inl l
    · exact .inr ⟨k, c, e, cellK x c e _ z⟩
  · obtain ⟨v, z⟩ := I.cell x c e
    exact ⟨v, cellK x c e v z⟩
  · obtain ⟨m, ⟨o, _, _, ho, _⟩, _⟩ := I.loc
    exact free _ o (fun z => (hch _ z).2.1 rfl) ho I.free
  · obtain ⟨v, o, ho, hd⟩ := I.cell x c e
    exact free c o (fun z => (hch c z).2.2.1 x c e rfl) ho (I.freeC x c e)
  · obtain ⟨e, n, ne, nf, d⟩ := I.pin p hp
    have nch : p.1 ∉ ch := fun z => (hch p.1 z).2.2.2 p hp rfl
    exact ⟨keep p.1 p.2 ne nf nch e n, free p.1 p.2 nch e n, ne, nf, d⟩
theorem Inv.un {t' : Nat} (I : Inv X pins σ H s) (u : Un X.fs [] H H' s.heap h') (hok : HOk X.prog X.w H' h') : Inv X pins σ H' { s with heap := h', toks := t' } := by
  obtain ⟨m, ⟨o, es, ep, ho, r⟩, _⟩ := id I.loc
  obtain ⟨sl, hL⟩ := u.any ho I.free (by simp)
  exact I.step (g' := s.gens) (d' := s.drawn) (ch := []) (fun _ z => nomatch z) (fun b o _ hb _ e n => u.keep b o e n hb (by simp)) (fun b o _ hb _ e n => u.slot b o e n hb (by simp)) (fun b o _ e n => u.free b o e n (by simp)) (fun b o _ e => u.there b o e (by simp)) u.tups u.frzs u.tbls (fun m' hm => by
    obtain ⟨o', es', ep', ho', r'⟩ := hm
    rw [ho] at ho'; cases ho'
    exact ⟨_, es', ep', hL, r'⟩) hok I.bare
theorem Inv.call {g' : Array GenState} {t' : Nat} {d' : Drawn} {ch : List Addr} (I : Inv X pins σ H s) (u : Un (frs X.stack) ch H H' s.heap h') (hok : HOk X.prog X.w H' h') (hg : AllBare g')
    (hch : ∀ b ∈ ch, (b ∈ X.ex ∨ X.s_0.heap.objs.size ≤ b) ∧ b ≠ X.env.locals ∧ (∀ x c, X.env.cells.lookup x = some c → c ≠ b) ∧ ∀ p ∈ X.pn ++ pins, p.1 ≠ b) :
    Inv X pins σ H' { s with heap := h', gens := g', drawn := d', toks := t' } := by
  obtain ⟨m, ⟨o, es, ep, ho, r⟩, _⟩ := id I.loc
  obtain ⟨sl, hL⟩ := u.any ho I.free fun z => (hch _ z).2.1 rfl
  exact I.step (ch := ch) hch (fun b o hL hb hc e n => u.keep b o e n (fun z => (List.mem_cons.mp (I.stkSub b z)).elim hL hb) hc) (fun b o _ _ hc e n => u.any e n hc) (fun b o hc e n => u.free b o e n hc) (fun b o hc e => u.there b o e hc) u.tups u.frzs u.tbls (fun m' hm => by
    obtain ⟨o', es', ep', ho', r'⟩ := hm
    rw [ho] at ho'; cases ho'
    exact ⟨_, es', ep', hL, r'⟩) hok hg
theorem Inv.turned {t' : Nat} {it : Addr} (I : Inv X pins σ H s) (k : ∀ b o, b ≠ it → s.heap.get? b = some o → h'.get? b = some o) (hn : H it = none) (hL : it ≠ X.env.locals)
    (h1 : it ∈ X.ex ∨ X.s_0.heap.objs.size ≤ it) (h2 : ∀ x c, X.env.cells.lookup x = some c → c ≠ it) (h3 : ∀ p ∈ X.pn ++ pins, p.1 ≠ it) : Inv X pins σ H { s with heap := h', toks := t' } := by
  have nit : ∀ b u, H b = some u → b ≠ it := fun b u e z => by rw [z, hn] at e; cases e
  refine I.step (g' := s.gens) (d' := s.drawn) (ch := [it]) (fun b hb => ?_) (fun b o _ _ hc e _ => k b o (fun z => hc (by simp [z])) e) (fun b o _ _ hc e _ => ⟨o.slots, k b o (fun z => hc (by simp [z])) e⟩) (fun _ _ _ _ n => n)
    (fun b o hc e => ⟨o, k b o (fun z => hc (by simp [z])) e⟩) (fun _ _ e => e) (fun _ _ _ e => e) (fun b ps e => ⟨#[], by rw [e]; simp⟩) (fun m hm => ?_) (fun b u e => ?_) I.bare
  · have e : b = it := by simpa using hb
    subst e
    exact ⟨h1, hL, h2, h3⟩
  · obtain ⟨o, es, ep, ho, r⟩ := hm
    exact ⟨o, es, ep, k _ o (Ne.symm hL) ho, r⟩
  · refine (I.hok b u e).stay (fun c v hc q => k c v ?_ q) (fun _ q => q) fun _ _ q => q
    rcases hc with z | z
    · rw [z]; exact nit b u e
    · exact nit c _ z
theorem Inv.tok (I : Inv X pins σ H s) (t : Nat) : Inv X pins σ H { s with toks := t } := I.un (h' := s.heap) (t' := t) Un.refl I.hok
theorem Inv.kept {t' : Nat} (I : Inv X pins σ H s) (k : ∀ b u, s.heap.get? b = some u → h'.get? b = some u) : Inv X pins σ H { s with heap := h', toks := t' } := I.un (Un.kept k) (I.hok.kept k)
theorem Inv.laid {a : Addr} {o : HO} {t' : Nat} (I : Inv X pins σ H s) (k : ∀ b u, s.heap.get? b = some u → h'.get? b = some u) (hp : s.heap.objs.size ≤ a) (new : ObjOk X.prog X.w (upd H a o) h' a o) :
    Inv X pins σ (upd H a o) { s with heap := h', toks := t' } := I.un (Un.laid k hp (I.hok.fresh hp)) (I.hok.laid k hp new)
theorem Inv.write {x e : Addr} {o : HO} {t' : Nat} (I : Inv X pins σ H s) (mu : Mut (H x)) (he : e = x ∨ H e = some (.own x)) (k : ∀ b u, b ≠ e → s.heap.get? b = some u → h'.get? b = some u) (heo : ∃ u, h'.get? e = some u)
    (new : ObjOk X.prog X.w (upd H x o) h' x o) : Inv X pins σ (upd H x o) { s with heap := h', toks := t' } := I.un (Un.write mu he k heo) (I.hok.write mu he k heo new)
theorem Inv.weak {σ' : List (Option V)} (I : Inv X pins σ H s) (hl : σ'.length = σ.length) (w : ∀ (i : Nat) v, σ'[i]? = some (some v) → σ[i]? = some (some v)) : Inv X pins σ' H s :=
  ⟨I.ok, I.os, I.bare, I.base, let ⟨m, hn, hl'⟩ := I.loc; ⟨m, hn, fun i x v e1 e2 e3 => hl' i x v e1 (w i v e2) e3⟩, I.cell, I.free, I.freeC, I.pin, I.hok, hl.trans I.len⟩
theorem Inv.pins_of {pins' : List (Addr × Obj)} (I : Inv X pins σ H s) (h : ∀ p ∈ pins', s.heap.get? p.1 = some p.2 ∧ H p.1 = none ∧ p.1 ≠ X.env.locals ∧ p.1 ∉ X.fs ∧ ∀ v, p.2.data ≠ .cell v) : Inv X pins' σ H s :=
  ⟨I.ok, I.os, I.bare, I.base, I.loc, I.cell, I.free, I.freeC, fun p hp => (List.mem_append.mp hp).elim (fun z => I.pin p (List.mem_append_left _ z)) (h p), I.hok, I.len⟩
theorem nodup_ix {N : List Str} (hN : N.Nodup) {i j : Nat} {x : Str} (a : N[i]? = some x) (b : N[j]? = some x) : i = j := by
  obtain ⟨h1, e1⟩ := List.getElem?_eq_some_iff.mp a
  obtain ⟨h2, e2⟩ := List.getElem?_eq_some_iff.mp b
  exact (List.getElem_inj hN).mp (e1.trans e2.symm)
theorem store_ok2 {M : Model} {A : Around} {E : Value → Shared → Prop} {i : Nat} {x : Str} {v : V} {u : Value} {Q : Unit → Shared → Prop} (I : Inv X pins σ H s) (hN : X.N.Nodup) (hi : X.N[i]? = some x) (hx : Loc X.env.scope x) (r : RelV v u)
    (h : ∀ s', Inv X pins (σ.set i (some v)) H s' → (∃ a, Heap.SameBut a s.heap s'.heap ∧ (a = X.env.locals ∨ X.env.cells.lookup x = some a)) → Q () s') (hf : X.fn x = true ∨ X.env.scope.names.lookup x = some .local := by first | exact .inl rfl | exact .inr rfl | assumption) : wpAny M A (storeName X.env x u) Q E s := by
  obtain ⟨m, hn, hl⟩ := id I.loc
  have hcls : (X.env.scope.kind == .class || (X.env.scope.kind == .module && X.env.locals != X.env.globals)) = false := by rw [I.ok.kind]; rfl
  have hiσ : i < σ.length := by rw [I.len]; exact (List.getElem?_eq_some_iff.mp hi).1
  have cne := I.cne
  have tracked : ∀ {a : Addr} {h' : Heap}, (∃ o, s.heap.get? a = some o ∧ H a = none) → Heap.SameBut a s.heap h' → HOk X.prog X.w H h' := fun {a h'} ha hs b ob e => by
    obtain ⟨_, _, hfree⟩ := ha
    refine (I.hok b ob e).stay (fun c w' hc q => (hs.2 c ?_).trans q) (fun _ q => q) fun _ _ q => q
    rintro rfl
    rcases hc with rfl | hc
    · rw [hfree] at e; cases e
    · rw [hfree] at hc; cases hc
  rcases hx with hk | hk
  · refine wpAny_storeName_local hk hn (fun h' hn' hs => ?_) hcls
    obtain ⟨oL, _, _, hoL, _⟩ := id hn
    refine h _ ⟨I.ok, I.os, I.bare, ⟨fun b o e n hb hx => ?_, fun b o e n hb hx => ?_, I.base.free, fun b o e hx => ?_, I.base.tups, I.base.frzs, I.base.tbls⟩, ⟨_, hn', fun j y v' e1 e2 e3 => ?_⟩, fun y c e => ?_, I.free, I.freeC, fun p hp => ?_, tracked ⟨oL, hoL, I.free⟩ hs, by simpa using I.len⟩ ⟨_, hs, .inl rfl⟩
    · exact (hs.2 b (Nat.ne_of_lt (Nat.lt_of_lt_of_le (Heap.lt_size e) I.ok.above))).trans (I.base.keep b o e n hb hx)
    · obtain ⟨sl, e1⟩ := I.base.slot b o e n hb hx
      exact ⟨sl, (hs.2 b (Nat.ne_of_lt (Nat.lt_of_lt_of_le (Heap.lt_size e) I.ok.above))).trans e1⟩
    · obtain ⟨o', e1⟩ := I.base.there b o e hx
      exact ⟨o', (hs.2 b (Nat.ne_of_lt (Nat.lt_of_lt_of_le (Heap.lt_size e) I.ok.above))).trans e1⟩
    · by_cases hj : j = i
      · subst hj
        rw [hi] at e1; cases e1
        rw [List.getElem?_set_self hiσ] at e2
        cases e2
        exact ⟨u, r, .inl ⟨hk, by simp⟩⟩
      · rw [List.getElem?_set_ne (Ne.symm hj)] at e2
        obtain ⟨u', r', q⟩ := hl j y v' e1 e2 e3
        refine ⟨u', r', ?_⟩
        rcases q with ⟨k, e⟩ | ⟨k, c, e, z⟩
        · refine .inl ⟨k, ?_⟩
          have : y ≠ x := fun e => hj (nodup_ix hN e1 (e ▸ hi))
          simp [this, e]
        · exact .inr ⟨k, c, e, z.sameBut hs (cne y c e)⟩
    · obtain ⟨w', z⟩ := I.cell y c e
      exact ⟨w', z.sameBut hs (cne y c e)⟩
    · obtain ⟨e, n, ne, nf, d⟩ := I.pin p hp
      exact ⟨(hs.2 p.1 ne).trans e, n, ne, nf, d⟩
  · have hfn : X.fn x = true := by
      rcases hf with z | z
      · exact z
      · rw [z] at hk; cases hk
    obtain ⟨c, hc⟩ := I.ok.has x (.inl hk)
    obtain ⟨w', z⟩ := I.cell x c hc
    refine wpAny_storeName_cell I.ok.kind hk hc z (fun h' hc' hs => ?_)
    obtain ⟨oc, hoc, hocd⟩ := id z
    refine h { s with heap := h' } ⟨I.ok, I.os, I.bare, ⟨fun b o e n hb hx => ?_, fun b o e n hb hx => ?_, I.base.free, fun b o e hx => ?_, I.base.tups, I.base.frzs, I.base.tbls⟩, ⟨m, hn.sameBut hs (Ne.symm (cne x c hc)), fun j y v' e1 e2 e3 => ?_⟩, fun y c' e => ?_, I.free, I.freeC, fun p hp => ?_, tracked ⟨oc, hoc, I.freeC x c hc⟩ hs, by simpa using I.len⟩ ⟨c, hs, .inr hc⟩
    · exact (hs.2 b (Nat.ne_of_lt (Nat.lt_of_lt_of_le (Heap.lt_size e) (I.ok.cab x c hfn hc)))).trans (I.base.keep b o e n hb hx)
    · obtain ⟨sl, e1⟩ := I.base.slot b o e n hb hx
      exact ⟨sl, (hs.2 b (Nat.ne_of_lt (Nat.lt_of_lt_of_le (Heap.lt_size e) (I.ok.cab x c hfn hc)))).trans e1⟩
    · obtain ⟨o', e1⟩ := I.base.there b o e hx
      exact ⟨o', (hs.2 b (Nat.ne_of_lt (Nat.lt_of_lt_of_le (Heap.lt_size e) (I.ok.cab x c hfn hc)))).trans e1⟩
    · by_cases hj : j = i
      · subst hj
        rw [hi] at e1; cases e1
        rw [List.getElem?_set_self hiσ] at e2
        cases e2
        exact ⟨u, r, .inr ⟨.inl hk, c, hc, hc'⟩⟩
      · rw [List.getElem?_set_ne (Ne.symm hj)] at e2
        obtain ⟨u', r', q⟩ := hl j y v' e1 e2 e3
        refine ⟨u', r', ?_⟩
        rcases q with q | ⟨k, c', e, z'⟩
        · exact .inl q
        · refine .inr ⟨k, c', e, z'.sameBut hs ?_⟩
          rintro rfl
          exact hj (nodup_ix hN e1 (I.ok.inj _ _ _ e hc ▸ hi))
    · by_cases hcc : c' = c
      · subst hcc; exact ⟨_, hc'⟩
      · obtain ⟨w2, z2⟩ := I.cell y c' e
        exact ⟨w2, z2.sameBut hs hcc⟩
    · obtain ⟨e, n, ne, nf, d⟩ := I.pin p hp
      refine ⟨(hs.2 p.1 ?_).trans e, n, ne, nf, d⟩
      intro q
      rw [q, hoc] at e
      have q' : oc = p.2 := Option.some.inj e
      exact d w' (by rw [← q']; exact hocd)
theorem store_ok {M : Model} {A : Around} {E : Value → Shared → Prop} {i : Nat} {x : Str} {v : V} {u : Value} {Q : Unit → Shared → Prop} (I : Inv X pins σ H s) (hN : X.N.Nodup) (hi : X.N[i]? = some x) (hx : Loc X.env.scope x) (r : RelV v u)
    (h : ∀ s', Inv X pins (σ.set i (some v)) H s' → Q () s') (hf : X.fn x = true ∨ X.env.scope.names.lookup x = some .local := by first | exact .inl rfl | exact .inr rfl | assumption) : wpAny M A (storeName X.env x u) Q E s :=
  store_ok2 I hN hi hx r (fun s' I' _ => h s' I') hf
theorem Inv.call' {s' : Shared} {ch : List Addr} (I : Inv X pins σ H s) (ho : s'.os = s.os) (u : Un (frs X.stack) ch H H' s.heap s'.heap) (hok : HOk X.prog X.w H' s'.heap) (hg : AllBare s'.gens)
    (hch : ∀ b ∈ ch, (b ∈ X.ex ∨ X.s_0.heap.objs.size ≤ b) ∧ b ≠ X.env.locals ∧ (∀ x c, X.env.cells.lookup x = some c → c ≠ b) ∧ ∀ p ∈ X.pn ++ pins, p.1 ≠ b) : Inv X pins σ H' s' := by
  obtain ⟨h', g', d', t', o'⟩ := s'
  have e : o' = s.os := ho
  subst e
  exact I.call (g' := g') (t' := t') (d' := d') u hok hg hch
end
noncomputable abbrev XK := Value → Option Addr → Hp → Prop
noncomputable abbrev St := List (Option V)
noncomputable abbrev VK := V → Hp → Prop
noncomputable abbrev TE := St → Hp → VK → Prop
noncomputable abbrev TT := St → Hp → (Bool → Hp → Prop) → Prop
noncomputable abbrev TA := St → Hp → (List V → Hp → Prop) → Prop
structure Ends where
  nx : St → Hp → Prop
  rt : VK
  bk : St → Hp → Prop := fun _ _ => False
  ct : St → Hp → Prop := fun _ _ => False
noncomputable abbrev TS := Ends → St → Hp → Prop
noncomputable def EP (X : Cx) (pins : List (Addr × Obj)) (σ : St) (Q : VK) (u : Value) (s' : Shared) : Prop := ∃ v H', Inv X pins σ H' s' ∧ RelV v u ∧ Q v H'
noncomputable def TP (X : Cx) (pins : List (Addr × Obj)) (σ : St) (Q : Bool → Hp → Prop) (b : Bool) (s' : Shared) : Prop := ∃ H', Inv X pins σ H' s' ∧ Q b H'
noncomputable def AP (X : Cx) (pins : List (Addr × Obj)) (σ : St) (Q : List V → Hp → Prop) (us : List Value) (s' : Shared) : Prop := ∃ vs H', Inv X pins σ H' s' ∧ Vals vs us ∧ Q vs H'
noncomputable def SP (X : Cx) (pins : List (Addr × Obj)) (D : Ends) (f : Flow) (s' : Shared) : Prop :=
  match f with
  | .next => ∃ σ' H', Inv X pins σ' H' s' ∧ D.nx σ' H'
  | .brk => ∃ σ' H', Inv X pins σ' H' s' ∧ D.bk σ' H'
  | .cont => ∃ σ' H', Inv X pins σ' H' s' ∧ D.ct σ' H'
  | .ret u => ∃ v σ' H', Inv X pins σ' H' s' ∧ RelV v u ∧ D.rt v H'
noncomputable def PE (X : Cx) (e : Expr) (t : TE) : Prop :=
  ∀ (pins : List (Addr × Obj)) (s : Shared) (σ : St) (H : Hp) (Q : VK), Inv X pins σ H s → t σ H Q → wpAny (model X.prog X.w) X.A (eval e X.env) (EP X pins σ Q) X.xe s
noncomputable def PT (X : Cx) (e : Expr) (t : TT) : Prop :=
  ∀ (pins : List (Addr × Obj)) (s : Shared) (σ : St) (H : Hp) (Q : Bool → Hp → Prop), Inv X pins σ H s → t σ H Q → wpAny (model X.prog X.w) X.A (isTrue e X.env (eval e X.env)) (TP X pins σ Q) X.xe s
noncomputable def PW (X : Cx) (e : Expr) (t : TT) : Prop :=
  ∀ (whole : Sem Value) (pins : List (Addr × Obj)) (s : Shared) (σ : St) (H : Hp) (Q : Bool → Hp → Prop), Inv X pins σ H s → t σ H Q → wpAny (model X.prog X.w) X.A (isTrue e X.env whole) (TP X pins σ Q) X.xe s
theorem PW.pt {X : Cx} {e : Expr} {t : TT} (h : PW X e t) : PT X e t := h _
noncomputable def PA (X : Cx) (es : List Expr) (t : TA) : Prop :=
  ∀ (pos : Pos) (pins : List (Addr × Obj)) (s : Shared) (σ : St) (H : Hp) (Q : List V → Hp → Prop), Inv X pins σ H s → t σ H Q → wpAny (model X.prog X.w) X.A (spliced (backTo pos (starEach es X.env))) (AP X pins σ Q) X.xe s
noncomputable def PS (X : Cx) (st : Stmt) (t : TS) : Prop :=
  ∀ (pins : List (Addr × Obj)) (s : Shared) (σ : St) (H : Hp) (D : Ends), Inv X pins σ H s → t D σ H → wpAny (model X.prog X.w) X.A (exec st X.env) (SP X pins D) X.xe s
noncomputable def PSs (X : Cx) (st : List Stmt) (t : TS) : Prop :=
  ∀ (pins : List (Addr × Obj)) (s : Shared) (σ : St) (H : Hp) (D : Ends), Inv X pins σ H s → t D σ H → wpAny (model X.prog X.w) X.A (execs st X.env) (SP X pins D) X.xe s
theorem thn {α : Type} {t : Sem α} {Q Q' : α → Shared → Prop} {M : Model} {A : Around} {E : Value → Shared → Prop} {s : Shared} (h : wpAny M A t Q E s) (hQ : ∀ a s, Q a s → Q' a s) : wpAny M A t Q' E s := wpAny_mono h hQ fun _ _ x => x
end L2
namespace L2
open PySem PySem.Spec PyProof.Rows
section
variable {X : Cx}
noncomputable def tVar (i : Nat) : TE := fun σ H Q => ∃ v, σ[i]? = some (some v) ∧ Q v H
noncomputable def tC (v : V) : TE := fun _ H Q => Q v H
theorem pe_var {i : Nat} {x : Str} {pos : Pos} (hN : X.N[i]? = some x) (hv : Vis X.env.scope x) (hd : (x == ("__debug__" : Str)) = false := by decide) (hcd : (x == ("__classdict__" : Str)) = false := by decide) : PE X (.Name x pos) (tVar i) := by
  intro pins s σ H Q I h
  obtain ⟨v, e, h⟩ := h
  obtain ⟨m, hn, hl⟩ := I.loc
  obtain ⟨u, r, l⟩ := hl i x v hN e hv
  have fin : EP X pins σ Q u s := ⟨v, H, I, r, h⟩
  rcases l with ⟨hk, hm⟩ | ⟨hk, c, hc, hcell⟩
  · exact wpAny_Name (wpAny_loadName_local I.ok.kind hk hn hm fin) hd
  · rcases hk with hk | hk
    · exact wpAny_Name (wpAny_loadName_cell I.ok.kind hk hc hcell fin) hd
    · exact wpAny_Name (wpAny_loadName_free I.ok.kind hk hc hcell fin hcd) hd
theorem pe_int {i j pos} : PE X (.Constant (.int i) j pos) (tC (.int i)) := fun _ _ _ H _ I h => wpAny_Constant_int ⟨.int i, H, I.tok _, ⟨_, rfl⟩, h⟩
theorem pe_bl {b j pos} : PE X (.Constant (.bool b) j pos) (tC (.bl b)) := fun _ _ _ H _ I h => Constant_bool ⟨.bl b, H, I, rfl, h⟩
theorem pe_non {j pos} : PE X (.Constant .none j pos) (tC .non) := fun _ _ _ H _ I h => Constant_none ⟨.non, H, I, rfl, h⟩
noncomputable def Gl (X : Cx) (x : Str) : Prop := X.env.kindOf x = some .globalImplicit
theorem ld_glob {E : Value → Shared → Prop} {pins : List (Addr × Obj)} {s : Shared} {σ : St} {H : Hp} {x : Str} {u : Value} {pos : Pos} {Q : Value → Shared → Prop} (I : Inv X pins σ H s) (hg : Gl X x) (hm : X.mg x = some u) (h : Q u s)
    (hd : (x == ("__debug__" : Str)) = false := by decide) : wpAny (model X.prog X.w) X.A (eval (.Name x pos) X.env) Q E s :=
  Calls.Name_function_global I.ok.kind hg (Calls.loadGlobal_global (by rw [I.ok.glob]; exact I.mod.glob.keeps I.bk) hm h) hd
theorem ld_blt {E : Value → Shared → Prop} {pins : List (Addr × Obj)} {s : Shared} {σ : St} {H : Hp} {x : Str} {u : Value} {pos : Pos} {Q : Value → Shared → Prop} (I : Inv X pins σ H s) (hg : Gl X x) (hm : X.mg x = none) (hv : bootBuiltins x = some u) (h : Q u s)
    (hn : x ≠ "__name__" := by decide) (hd : (x == ("__debug__" : Str)) = false := by decide) : wpAny (model X.prog X.w) X.A (eval (.Name x pos) X.env) Q E s := by
  obtain ⟨mb, h1, h2⟩ := I.mod.blt
  exact Calls.Name_function_global I.ok.kind hg (Calls.loadGlobal_builtin (by rw [I.ok.glob]; exact I.mod.glob.keeps I.bk) hm (by rw [I.ok.blt]; exact h1.keeps I.bk) ((h2 x hn).trans hv) h) hd
theorem pe_glob {x : Str} {v : V} {u : Value} {pos : Pos} (hg : Gl X x) (hm : X.mg x = some u) (r : RelV v u) (hd : (x == ("__debug__" : Str)) = false := by decide) : PE X (.Name x pos) (tC v) :=
  fun _ _ _ H _ I h => ld_glob I hg hm ⟨v, H, I, r, h⟩ hd
variable {a b : Expr} {ta tb : TE} {pos : Pos}
noncomputable def PC (X : Cx) (op : CmpOp) (a b : Expr) (t : TE) : Prop :=
  ∀ (pins : List (Addr × Obj)) (s : Shared) (σ : St) (H : Hp) (Q : VK), Inv X pins σ H s → t σ H Q →
    wpAny (model X.prog X.w) X.A (eval a X.env) (fun v s₁ => wpAny (model X.prog X.w) X.A (eval b X.env) (fun u s₂ => wpAny (model X.prog X.w) X.A (compareOp op v u) (EP X pins σ Q) X.xe s₂) X.xe s₁) X.xe s
theorem nobehind (b : Expr) {op : CmpOp} (h : op ≠ .In) (h2 : op ≠ .NotIn) : behindInMarks op b = false := by
  have e1 : (op == CmpOp.In) = false := by cases op <;> first | rfl | exact absurd rfl h
  have e2 : (op == CmpOp.NotIn) = false := by cases op <;> first | rfl | exact absurd rfl h2
  cases b <;> simp [behindInMarks, e1, e2]
noncomputable def tNotN (ta : TE) : TE := fun σ H Q => ta σ H fun x H1 => Q (.bl (!decide (x = .non))) H1
theorem RelV.none_iff {x : V} {v : Value} (r : RelV x v) : (v == Value.none) = decide (x = .non) := by
  cases x with
  | non => cases r; rfl
  | bl _ => cases r; rfl
  | int _ => obtain ⟨t, rfl⟩ := r; rfl
  | str _ => obtain ⟨t, rfl⟩ := r; rfl
  | byt _ => obtain ⟨t, rfl⟩ := r; rfl
  | flt _ => obtain ⟨t, rfl⟩ := r; rfl
  | ref _ => cases r; rfl
  | ty _ => cases r; rfl
theorem pc_notN {j pos'} (ha : PE X a ta) : PC X .IsNot a (.Constant .none j pos') (tNotN ta) := by
  intro pins s σ H Q I h
  refine thn (ha pins s σ H _ I h) fun v s1 ⟨x, H1, I1, r1, q1⟩ => ?_
  exact Constant_none (isnot_none_gen ⟨.bl _, H1, I1, by rw [r1.none_iff]; rfl, q1⟩)
noncomputable def tB (t : TE) : TT := fun σ H Q => t σ H fun x H1 => ∃ c, x = .bl c ∧ Q c H1
theorem pt_cmp {op : CmpOp} {t : TE} (h : PC X op a b t) (h1 : behindInMarks op b = false := by first | exact nobehind _ (by decide) (by decide) | rfl) : PT X (.Compare a [op] [b] pos) (tB t) := by
  intro pins s σ H Q I hw
  refine wpAny_isTrue_Compare1 (thn (h pins s σ H _ I hw) fun v s1 h1 => thn h1 fun u s2 h2 => thn h2 fun c s3 ⟨x, H1, I1, r1, q1⟩ => ?_) h1
  obtain ⟨d, rfl, q⟩ := q1
  cases r1
  exact wpAny_truthy_bool ⟨H1, I1, q⟩
theorem pt_val {e : Expr} {t : TE} (h : PE X e t) (he : ∀ whole, isTrue e X.env whole = (do let v ← whole; standAt e.pos; holding [v] (truthy v)) := by intro _; rfl) : PT X e (tB t) := by
  intro pins s σ H Q I hw
  refine isTrue_plain (thn (h pins s σ H _ I hw) fun v s1 ⟨x, H1, I1, r1, q1⟩ => ?_) (he _)
  obtain ⟨d, rfl, q⟩ := q1
  cases r1
  exact wpAny_truthy_bool ⟨H1, I1, q⟩
variable {tA tB' : TT} {rest : List Expr}
noncomputable def tAnd (t u : TT) : TT := fun σ H Q => t σ H fun c H1 => if c = true then u σ H1 Q else Q false H1
noncomputable def tNot (t : TT) : TT := fun σ H Q => t σ H fun c H1 => Q (!c) H1
theorem pw_and1 (ha : PT X a tA) : PW X (.BoolOp .And [a] pos) tA := by
  intro wh pins s σ H Q I h
  refine isTrue_and (thn (ha pins s σ H Q I h) fun c s1 e => ?_)
  cases c with
  | true => exact isTrue_and_nil e
  | false => exact e
theorem pw_and (ha : PT X a tA) (hb : PW X (.BoolOp .And (b :: rest) pos) tB') : PW X (.BoolOp .And (a :: b :: rest) pos) (tAnd tA tB') := by
  intro wh pins s σ H Q I h
  refine isTrue_and (thn (ha pins s σ H _ I h) fun c s1 ⟨H1, I1, q1⟩ => ?_)
  cases c with
  | true => exact hb wh pins s1 σ H1 Q I1 q1
  | false => exact ⟨H1, I1, q1⟩
theorem pt_not (ha : PT X a tA) : PT X (.UnaryOp .Not a pos) (tNot tA) := by
  intro pins s σ H Q I h
  exact isTrue_not (ha pins s σ H (fun c H1 => Q (!c) H1) I h)
end
end L2
namespace L2
open PySem PySem.Spec PyProof.Rows
noncomputable def SqL (K : PySem.W.Frag) (H : Hp) (a : Addr) (xs : List V) : Prop :=
  Rd H a (.lst xs) ∨
    ∃ (o : Obj) (its : Array Value) (n : Nat), K.lookup a = some o ∧ o.cls = .type "list" ∧ o.dict = none ∧ o.data = .seq its n ∧ its.size ≤ sizeLine ∧ Vals xs its.toList
noncomputable def SqT (K : PySem.W.Frag) (H : Hp) (a : Addr) (xs : List V) : Prop :=
  Rd H a (.tup xs) ∨
    ∃ (o : Obj) (its : Array Value) (n : Nat), K.lookup a = some o ∧ o.cls = .type "tuple" ∧ o.data = .seq its n ∧ its.size ≤ sizeLine ∧ Vals xs its.toList
noncomputable def absV : Value → Option V
  | .none => some .non
  | .bool b => some (.bl b)
  | .int i _ => some (.int i)
  | .str x _ => some (.str x)
  | .bytes b _ => some (.byt b)
  | .float b _ => some (.flt b)
  | .ref a => some (.ref a)
  | .type n => some (.ty n)
  | _ => none
theorem RelV.abs {x : V} {u : Value} (r : RelV x u) : absV u = some x := by
  cases x with
  | non => cases r; rfl
  | bl _ => cases r; rfl
  | int _ => obtain ⟨t, rfl⟩ := r; rfl
  | str _ => obtain ⟨t, rfl⟩ := r; rfl
  | byt _ => obtain ⟨t, rfl⟩ := r; rfl
  | flt _ => obtain ⟨t, rfl⟩ := r; rfl
  | ref _ => cases r; rfl
  | ty _ => cases r; rfl
theorem RelV.inj {x y : V} {u : Value} (r : RelV x u) (q : RelV y u) : x = y := Option.some.inj (r.abs.symm.trans q.abs)
theorem Vals.inj : ∀ {xs ys : List V} {us : List Value}, Vals xs us → Vals ys us → xs = ys
  | _, _, _, .nil, .nil => rfl
  | _, _, _, .cons r t, .cons r' t' => by rw [r.inj r', Vals.inj t t']
section
variable {X : Cx} {pins : List (Addr × Obj)} {σ : St} {H : Hp} {s : Shared} {a : Addr} {xs ys : List V}
theorem SqL.of {K : PySem.W.Frag} (h : H a = some (.lst xs)) : SqL K H a xs := .inl (.inl h)
theorem SqT.of {K : PySem.W.Frag} (h : H a = some (.tup xs)) : SqT K H a xs := .inl (.inl h)
theorem Inv.list (I : Inv X pins σ H s) (h : SqL X.K H a xs) : ∃ its : List Value, Vals xs its ∧ PlainL s.heap a its.toArray ∧ xs.length ≤ sizeLine := by
  rcases h with h | ⟨o, its, n, hk, hc, hd, hs, hz, r⟩
  · obtain ⟨z, its, n, r, e⟩ := h.ok I.hok
    exact ⟨its, r, ⟨_, n, e, rfl, rfl, rfl⟩, z⟩
  · refine ⟨its.toList, r, ⟨o, n, I.kIn a o hk, hc, hd, by simpa using hs⟩, ?_⟩
    have e := r.length
    simp only [Array.length_toList] at e
    omega
theorem Inv.tuple (I : Inv X pins σ H s) (h : SqT X.K H a xs) : ∃ its : List Value, Vals xs its ∧ IsTup s.heap a its.toArray ∧ xs.length ≤ sizeLine := by
  rcases h with h | ⟨o, its, n, hk, hc, hs, hz, r⟩
  · obtain ⟨z, its, r, p⟩ := h.ok I.hok
    exact ⟨its, r, p, z⟩
  · refine ⟨its.toList, r, ⟨o, I.kIn a o hk, hc, n, by simpa using hs⟩, ?_⟩
    have e := r.length
    simp only [Array.length_toList] at e
    omega
theorem Inv.list_inj (I : Inv X pins σ H s) (h : SqL X.K H a xs) (h' : SqL X.K H a ys) : xs = ys := by
  obtain ⟨its, r, ⟨o, n, e, _, _, d⟩, _⟩ := I.list h
  obtain ⟨its', r', ⟨o', n', e', _, _, d'⟩, _⟩ := I.list h'
  rw [e] at e'; cases e'
  rw [d] at d'
  injection d' with d1 _
  have : its = its' := by simpa using congrArg Array.toList d1
  subst this
  exact r.inj r'
theorem Inv.tuple_inj (I : Inv X pins σ H s) (h : SqT X.K H a xs) (h' : SqT X.K H a ys) : xs = ys := by
  obtain ⟨its, r, ⟨o, e, _, n, d⟩, _⟩ := I.tuple h
  obtain ⟨its', r', ⟨o', e', _, n', d'⟩, _⟩ := I.tuple h'
  rw [e] at e'; cases e'
  rw [d] at d'
  injection d' with d1 _
  have : its = its' := by simpa using congrArg Array.toList d1
  subst this
  exact r.inj r'
end
section
variable {X : Cx} {pins : List (Addr × Obj)} {σ : St} {H : Hp} {s : Shared} {E : Value → Shared → Prop}
end
section
variable {X : Cx} {st : Stmt} {rest : List Stmt} {t u : TS} {e : Expr} {te : TE} {pos : Pos}
noncomputable def tNext : TS := fun D σ H => D.nx σ H
noncomputable def tSeq (t u : TS) : TS := fun D σ H => t { D with nx := u D } σ H
theorem pss_nil : PSs X [] tNext := fun _ _ σ H _ I h => wpAny_execs_nil ⟨σ, H, I, h⟩
theorem pss_cons (h1 : PS X st t) (h2 : PSs X rest u) : PSs X (st :: rest) (tSeq t u) := by
  intro pins s σ H D I h
  refine wpAny_execs_cons (thn (h1 pins s σ H { D with nx := u D } I h) fun f s1 q => ?_)
  cases f with
  | next =>
    obtain ⟨σ', H', I', q⟩ := q
    exact h2 pins s1 σ' H' D I' q
  | ret v => exact q
  | brk => exact q
  | cont => exact q
theorem pss_one (h1 : PS X st t) : PSs X [st] t := by
  intro pins s σ H D I h
  refine wpAny_execs_cons (thn (h1 pins s σ H D I h) fun f s1 q => ?_)
  cases f with
  | next => exact wpAny_execs_nil q
  | ret v => exact q
  | brk => exact q
  | cont => exact q
theorem Inv.quiet {pins : List (Addr × Obj)} {σ : St} {H : Hp} {s : Shared} (I : Inv X pins σ H s) : interactive X.env = false := by simp [interactive, I.ok.kind]
noncomputable def tDrop (te : TE) : TS := fun D σ H => te σ H fun _ H1 => D.nx σ H1
theorem ps_expr (he : PE X e te) (hs : swapsWith e none pos.line X.env = pure false := by rfl) : PS X (.Expr e pos) (tDrop te) := by
  intro pins s σ H D I h
  exact wpAny_Expr_any (thn (he pins s σ H _ I h) fun v s1 ⟨x, H1, I1, r1, q1⟩ => ⟨σ, H1, I1, q1⟩) I.quiet hs
noncomputable def tRet (te : TE) : TS := fun D σ H => te σ H D.rt
theorem ps_ret (he : PE X e te) : PS X (.Return (some e) pos) (tRet te) := by
  intro pins s σ H D I h
  exact wpAny_Return_some (thn (he pins s σ H _ I h) fun v s1 ⟨x, H1, I1, r1, q1⟩ => ⟨x, σ, H1, I1, r1, q1⟩)
noncomputable def tIfS (c : TT) (t u : TS) : TS := fun D σ H => c σ H fun b H1 => if b = true then t D σ H1 else u D σ H1
theorem ps_if {c : Expr} {a b : List Stmt} {tc : TT} (hc : PT X c tc) (ha : PSs X a t) (hb : PSs X b u) : PS X (.If c a b pos) (tIfS tc t u) := by
  intro pins s σ H D I h
  refine wpAny_If (thn (hc pins s σ H _ I h) fun d s1 ⟨H1, I1, q1⟩ => ?_)
  cases d with
  | true => exact ha pins s1 σ H1 D I1 q1
  | false => exact hb pins s1 σ H1 D I1 q1
end
noncomputable abbrev TG := V → St → Hp → (St → Hp → Prop) → Prop
noncomputable abbrev TGs := List V → St → Hp → (St → Hp → Prop) → Prop
noncomputable def PG (X : Cx) (target : Expr) (t : TG) : Prop :=
  ∀ (pins : List (Addr × Obj)) (s : Shared) (σ : St) (H : Hp) (v : V) (u : Value) (Q : St → Hp → Prop), Inv X pins σ H s → RelV v u → t v σ H Q →
    wpAny (model X.prog X.w) X.A (assign target X.env u) (fun _ s' => ∃ σ' H', Inv X pins σ' H' s' ∧ Q σ' H') X.xe s
noncomputable def PGs (X : Cx) (ts : List Expr) (t : TGs) : Prop :=
  ∀ (pins : List (Addr × Obj)) (s : Shared) (σ : St) (H : Hp) (vs : List V) (us : List Value) (Q : St → Hp → Prop), Inv X pins σ H s → Vals vs us → t vs σ H Q →
    wpAny (model X.prog X.w) X.A (assignInOrder ((assignEach ts X.env).map (·.2)) us) (fun _ s' => ∃ σ' H', Inv X pins σ' H' s' ∧ Q σ' H') X.xe s
section
variable {X : Cx} {pos : Pos}
noncomputable def gName (i : Nat) : TG := fun v σ H Q => Q (σ.set i (some v)) H
theorem pg_name {i : Nat} {x : Str} (hN : X.N.Nodup) (hi : X.N[i]? = some x) (hx : Loc X.env.scope x) (hf : X.fn x = true ∨ X.env.scope.names.lookup x = some .local := by first | exact .inl rfl | exact .inr rfl | assumption) : PG X (.Name x pos) (gName i) := by
  intro pins s σ H v u Q I r h
  exact wpAny_assign_Name (store_ok I hN hi hx r (fun s' I' => ⟨_, H, I', h⟩) hf)
noncomputable def gNil : TGs := fun vs σ H Q => vs = [] ∧ Q σ H
noncomputable def gCons (t : TG) (u : TGs) : TGs := fun vs σ H Q => ∃ v r, vs = v :: r ∧ t v σ H fun σ' H' => u r σ' H' Q
theorem pgs_nil : PGs X [] gNil := by
  intro pins s σ H vs us Q I r h
  obtain ⟨e, h⟩ := h
  subst e
  cases r
  exact assignInOrder_nil ⟨σ, H, I, h⟩
theorem pgs_cons {e : Expr} {es : List Expr} {t : TG} {u : TGs} (h1 : PG X e t) (h2 : PGs X es u)
    (hs : (assignEach (e :: es) X.env).map (·.2) = assign e X.env :: (assignEach es X.env).map (·.2) := by rfl) : PGs X (e :: es) (gCons t u) := by
  intro pins s σ H vs us Q I r h
  obtain ⟨v, vr, e1, h⟩ := h
  subst e1
  cases r with
  | cons r rr =>
    rw [hs]
    refine assignInOrder_cons (thn (h1 pins s σ H _ _ _ I r h) fun _ s1 ⟨σ1, H1, I1, q1⟩ => ?_)
    exact h2 pins s1 σ1 H1 _ _ Q I1 rr q1
noncomputable def gTup (K : PySem.W.Frag) (n : Nat) (t : TGs) : TG := fun v σ H Q => ∃ a xs, v = .ref a ∧ SqT K H a xs ∧ xs.length = n ∧ t xs σ H Q
theorem pg_tup {es : List Expr} {k : Nat} {t : TGs} {n : Nat} (hc : X.calm = true) (h : PGs X es t)
    (hn : (assignEach es X.env).length = n := by rfl) (hst : (assignEach es X.env).findIdx? (·.1) = none := by rfl) : PG X (.Tuple es k pos) (gTup X.K n t) := by
  intro pins s σ H v u Q I r hw
  obtain ⟨a, xs, e1, hq, hl, hw⟩ := hw
  subst e1
  cases r
  obtain ⟨its, rv, ht, hz⟩ := I.tuple hq
  refine assign_Tuple_tuple (I.ok.hd hc) ht (by simp [hn, ← hl, rv.length]) hst fun h' hx => ?_
  have I1 : Inv X pins σ H { s with heap := h' } := I.kept (t' := s.toks) fun b o e => hx b o (Nat.ne_of_lt (Heap.lt_size e)) e
  exact h pins _ σ H xs _ Q I1 (by simpa using rv) hw
noncomputable def tAsg (te : TE) (g : TG) : TS := fun D σ H => te σ H fun x H1 => g x σ H1 D.nx
theorem ps_set {i : Nat} {x : Str} {e : Expr} {te : TE} {pos' : Pos} (hN : X.N.Nodup) (hi : X.N[i]? = some x) (hx : Loc X.env.scope x) (he : PE X e te) (hs : swapsWith e (some (.Name x pos')) pos.line X.env = pure false := by rfl) (hf : X.fn x = true ∨ X.env.scope.names.lookup x = some .local := by first | exact .inl rfl | exact .inr rfl | assumption) :
    PS X (.Assign [.Name x pos'] e pos) (tAsg te (gName i)) := by
  intro pins s σ H D I h
  refine wpAny_Assign_Name (thn (he pins s σ H _ I h) fun v s1 ⟨y, H1, I1, r1, q1⟩ => ?_) hs
  exact store_ok I1 hN hi hx r1 (fun s2 I2 => ⟨_, H1, I2, q1⟩) hf
end
section
variable {X : Cx} {pos : Pos}
noncomputable def tWhile (c : TT) (tb : TS) : TS := fun D σ H => ∃ W : Nat → St → Hp → Prop, (∃ m, W m σ H) ∧ ∀ m σ H, W m σ H →
  c σ H fun b H1 => if b = true then ∃ N : St → Hp → Prop, (∀ σ' H', N σ' H' → ∃ m', m' < m ∧ W m' σ' H') ∧ tb { D with nx := N, ct := N, bk := D.nx } σ H1 else D.nx σ H1
theorem ps_while {c : Expr} {body : List Stmt} {tc : TT} {tb : TS} (hp : PassesOwn (model X.prog X.w) X.A X.env X.xe) (hc : PT X c tc) (hb : PSs X body tb) : PS X (.While c body [] pos) (tWhile tc tb) := by
  intro pins s σ H D I h
  obtain ⟨W, ⟨m0, w0⟩, turn⟩ := h
  refine wpAny_While (codeAny_whileLoop (fun n s' => ∃ σ' H', Inv X pins σ' H' s' ∧ W n σ' H') ?_ m0 ⟨σ, H, I, w0⟩)
  rintro n s1 ⟨σ1, H1, I1, w1⟩
  refine wpAny_passesOwn hp (thn (hc pins s1 σ1 H1 _ I1 (turn n σ1 H1 w1)) fun b s2 ⟨H2, I2, q2⟩ => ?_)
  cases b with
  | true =>
    obtain ⟨N, hN, q2⟩ := q2
    rw [if_pos rfl]
    refine wpAny_passesOwn hp (thn (hb pins s2 σ1 H2 _ I2 q2) fun f s3 q3 => ?_)
    cases f with
    | next =>
      obtain ⟨σ3, H3, I3, n3⟩ := q3
      obtain ⟨m', hm, w3⟩ := hN σ3 H3 n3
      exact ⟨m', hm, σ3, H3, I3, w3⟩
    | cont =>
      obtain ⟨σ3, H3, I3, n3⟩ := q3
      obtain ⟨m', hm, w3⟩ := hN σ3 H3 n3
      exact ⟨m', hm, σ3, H3, I3, w3⟩
    | brk => exact q3
    | ret v => exact q3
  | false =>
    rw [if_neg Bool.false_ne_true]
    exact wpAny_execs_nil ⟨σ1, H2, I2, q2⟩
end
structure It where
  go : Nat → Hp → Prop
  yld : Nat → Hp → V → Hp → Prop
  stop : Nat → Hp → Prop
noncomputable def FpOk (X : Cx) (pins : List (Addr × Obj)) (H : Hp) (b : Addr) : Prop :=
  H b = none ∧ b ≠ X.env.locals ∧ b ∉ X.fs ∧ (b ∈ X.ex ∨ X.s_0.heap.objs.size ≤ b) ∧ (∀ x c, X.env.cells.lookup x = some c → c ≠ b) ∧ ∀ p ∈ X.pn ++ pins, p.1 ≠ b
theorem Inv.fpOk {X : Cx} {pins : List (Addr × Obj)} {σ : St} {H H' : Hp} {s : Shared} {b : Addr} (I : Inv X pins σ H s) (hb : s.heap.objs.size ≤ b) (hn : H' b = none) : FpOk X pins H' b := by
  refine ⟨hn, Nat.ne_of_gt (Nat.lt_of_lt_of_le I.lt hb), I.nofs hb, .inr (Nat.le_trans I.sz hb), fun x c e z => ?_, fun p hp z => ?_⟩
  · obtain ⟨v, q⟩ := I.cell x c e
    exact absurd (Nat.lt_of_lt_of_le q.lt (by rw [z]; exact hb)) (Nat.lt_irrefl _)
  · exact absurd (Nat.lt_of_lt_of_le (Heap.lt_size (I.pin p hp).1) (by rw [z]; exact hb)) (Nat.lt_irrefl _)
structure Turn (P : Program) (w : World) (K : PySem.W.Frag) (tg : Expr) (J : It) (fp : List Addr) (it : Addr) (tn : Nat → Heap → Prop) : Prop where
  mem : it ∈ fp
  obj : ∀ i h, tn i h → ∀ b ∈ fp, ∃ o, h.get? b = some o ∧ ∀ v, o.data ≠ .cell v
  keep : ∀ i h h', tn i h → (∀ b ∈ fp, ∀ o, h.get? b = some o → h'.get? b = some o) → tn i h'
  item : ∀ (X : Cx), X.prog = P → X.w = w → X.K = K → X.calm = true → ∀ (i : Nat) (pins : List (Addr × Obj)) (s : Shared) (σ : St) (H : Hp) (E : Value → Shared → Prop), Inv X pins σ H s → (∀ b ∈ fp, FpOk X pins H b) → tn i s.heap → J.go i H →
    wpAny (model P w) X.A (pyNext (.ref it)) (fun r s1 => ∃ u, r = some u ∧
      wpAny (model P w) X.A (letOwnedTupleGo tg (.ref it) u) (fun _ s2 => ∃ x H', Inv X pins σ H' s2 ∧ RelV x u ∧ J.yld i H x H' ∧ tn (i + 1) s2.heap ∧ ∀ b ∈ fp, H' b = none) E s1) E s
  done : ∀ (X : Cx), X.prog = P → X.w = w → X.K = K → X.calm = true → ∀ (i : Nat) (pins : List (Addr × Obj)) (s : Shared) (σ : St) (H : Hp) (E : Value → Shared → Prop), Inv X pins σ H s → (∀ b ∈ fp, FpOk X pins H b) → tn i s.heap → J.stop i H →
    wpAny (model P w) X.A (pyNext (.ref it)) (fun r s1 => r = none ∧ Inv X pins σ H s1) E s
  self : ∀ (A : Around) (i : Nat) (s : Shared) (Q : Value → Shared → Prop) (E : Value → Shared → Prop), tn i s.heap → Q (.ref it) s → wpAny (model P w) A (pyIter (.ref it)) Q E s
noncomputable abbrev TI := St → Hp → (It → Hp → Prop) → Prop
noncomputable def PIE (X : Cx) (pins : List (Addr × Obj)) (σ : St) (tg : Expr) (R : It → Hp → Prop) (itv : Value) (s2 : Shared) : Prop :=
  ∃ (it : Addr) (fp : List Addr) (tn : Nat → Heap → Prop) (J : It) (H' : Hp), itv = .ref it ∧ Inv X pins σ H' s2 ∧ Turn X.prog X.w X.K tg J fp it tn ∧ tn 0 s2.heap ∧ (∀ b ∈ fp, FpOk X pins H' b) ∧ R J H'
noncomputable def PI (X : Cx) (tg iter : Expr) (wi : TI) : Prop :=
  ∀ (pins : List (Addr × Obj)) (s : Shared) (σ : St) (H : Hp) (R : It → Hp → Prop), Inv X pins σ H s → wi σ H R →
    wpAny (model X.prog X.w) X.A (eval iter X.env) (fun v s1 => wpAny (model X.prog X.w) X.A (pyIter v) (PIE X pins σ tg R) X.xe s1) X.xe s
theorem go_of {M : Model} {A : Around} {E : Value → Shared → Prop} {s : Shared} {tg : Expr} {it : Addr} {u : Value} {o : Obj} {n : String} {vs : Array Value} {Q : Unit → Shared → Prop} (ho : s.heap.get? it = some o) (hc : o.cls = .type n) (hd : o.data = .fields vs)
    (hn : ["enumerate", "zip", "dict_itemiterator", "dict_reverseitemiterator", "odict_iterator", "itertools.zip_longest", "itertools.pairwise"].contains n = false) (hQ : Q () s) : wpAny M A (letOwnedTupleGo tg (.ref it) u) Q E s := by
  unfold letOwnedTupleGo
  cases tg <;> first
    | exact wpAny_pure hQ
    | (cases u <;> first
        | exact wpAny_pure hQ
        | (refine wpAny_bind (wpAny_load ho ?_)
           rw [hc, hd]
           show wpAny M A (if (["enumerate", "zip", "dict_itemiterator", "dict_reverseitemiterator", "odict_iterator", "itertools.zip_longest", "itertools.pairwise"].contains n && vs[0]? == some (rawInt _)) = true then _ else _) Q E s
           rw [if_neg (by intro h; rw [hn, Bool.false_and] at h; cases h)]
           exact wpAny_pure hQ))
noncomputable def Itl (K : PySem.W.Frag) (a : Addr) : It :=
  ⟨fun i H => ∃ xs x, SqL K H a xs ∧ xs[i]? = some x, fun i H x H' => H' = H ∧ ∀ xs, SqL K H a xs → xs[i]? = some x, fun i H => ∃ xs, SqL K H a xs ∧ xs.length ≤ i⟩
noncomputable def Itt (K : PySem.W.Frag) (a : Addr) : It :=
  ⟨fun i H => ∃ xs x, SqT K H a xs ∧ xs[i]? = some x, fun i H x H' => H' = H ∧ ∀ xs, SqT K H a xs → xs[i]? = some x, fun i H => ∃ xs, SqT K H a xs ∧ xs.length ≤ i⟩
noncomputable def Itr (lo : Int) (n : Nat) : It := ⟨fun i _ => i < n, fun i H x H' => H' = H ∧ x = .int (lo + i), fun i _ => n ≤ i⟩
theorem turn_list {P : Program} {w : World} {K : PySem.W.Frag} {tg : Expr} (a it : Addr) : Turn P w K tg (Itl K a) [it] it (fun i h => h.IsListIter it a i) where
  mem := by simp
  obj := fun i h st b hb => by
    have e : b = it := by simpa using hb
    subst e
    obtain ⟨o, e, c, d⟩ := st
    exact ⟨o, e, fun v z => by rw [d] at z; cases z⟩
  keep := fun i h h' st k => st.at fun o e => k it (by simp) o e
  item := by
    intro X hP hw hK hc i pins s σ H E I hf st hg
    subst hP hw hK
    obtain ⟨xs, x, hq, hx⟩ := hg
    obtain ⟨its, rv, p, hz⟩ := I.list hq
    obtain ⟨u, hu, ru⟩ := rv.get hx
    obtain ⟨f0, f1, f2, f3, f4, f5⟩ := hf it (by simp)
    refine wpAny_pyNext_list_item st p.isList (x := u) (by simpa using hu) fun h' st' sb => ?_
    have I1 : Inv X pins σ H { s with heap := h' } := I.turned (t' := s.toks) (fun b o hb e => (sb.2 b hb).trans e) f0 f1 f3 f4 f5
    obtain ⟨o, e, c, d⟩ := id st'
    exact ⟨u, rfl, go_of (s := { s with heap := h' }) e c d (by decide) ⟨x, H, I1, ru, ⟨rfl, fun ys hy => by rw [I.list_inj hy hq]; exact hx⟩, st', fun b hb => (hf b hb).1⟩⟩
  done := by
    intro X hP hw hK hc i pins s σ H E I hf st hg
    subst hP hw hK
    obtain ⟨xs, hq, hx⟩ := hg
    obtain ⟨its, rv, p, hz⟩ := I.list hq
    obtain ⟨f0, f1, f2, f3, f4, f5⟩ := hf it (by simp)
    have hl := rv.length
    exact wpAny_pyNext_list_end (I.ok.hd hc) st p.isList (by simp; omega) fun h' eb => ⟨rfl, I.turned (t' := s.toks) (fun b o hb e => eb b o hb e) f0 f1 f3 f4 f5⟩
  self := fun _ _ _ _ _ st h => wpAny_pyIter_listiter st h
theorem turn_tuple {P : Program} {w : World} {K : PySem.W.Frag} {tg : Expr} (a it : Addr) : Turn P w K tg (Itt K a) [it] it (fun i h => h.IsTupleIter it a i) where
  mem := by simp
  obj := fun i h st b hb => by
    have e : b = it := by simpa using hb
    subst e
    obtain ⟨o, e, c, d⟩ := st
    exact ⟨o, e, fun v z => by rw [d] at z; cases z⟩
  keep := fun i h h' st k => st.at fun o e => k it (by simp) o e
  item := by
    intro X hP hw hK hc i pins s σ H E I hf st hg
    subst hP hw hK
    obtain ⟨xs, x, hq, hx⟩ := hg
    obtain ⟨its, rv, p, hz⟩ := I.tuple hq
    obtain ⟨u, hu, ru⟩ := rv.get hx
    obtain ⟨f0, f1, f2, f3, f4, f5⟩ := hf it (by simp)
    refine wpAny_pyNext_tuple_item st (show s.heap.IsTuple a its.toArray from p) (x := u) (by simpa using hu) fun h' st' sb => ?_
    have I1 : Inv X pins σ H { s with heap := h' } := I.turned (t' := s.toks) (fun b o hb e => (sb.2 b hb).trans e) f0 f1 f3 f4 f5
    obtain ⟨o, e, c, d⟩ := id st'
    exact ⟨u, rfl, go_of (s := { s with heap := h' }) e c d (by decide) ⟨x, H, I1, ru, ⟨rfl, fun ys hy => by rw [I.tuple_inj hy hq]; exact hx⟩, st', fun b hb => (hf b hb).1⟩⟩
  done := by
    intro X hP hw hK hc i pins s σ H E I hf st hg
    subst hP hw hK
    obtain ⟨xs, hq, hx⟩ := hg
    obtain ⟨its, rv, p, hz⟩ := I.tuple hq
    obtain ⟨f0, f1, f2, f3, f4, f5⟩ := hf it (by simp)
    have hl := rv.length
    exact wpAny_pyNext_tuple_end (I.ok.hd hc) st (show s.heap.IsTuple a its.toArray from p) (by simp; omega) fun h' eb => ⟨rfl, I.turned (t' := s.toks) (fun b o hb e => eb b o hb e) f0 f1 f3 f4 f5⟩
  self := fun _ _ _ _ _ st h => wpAny_pyIter_tupleiter st h
theorem turn_range {P : Program} {w : World} {K : PySem.W.Frag} {tg : Expr} (it : Addr) (lo : Int) (n : Nat) : Turn P w K tg (Itr lo n) [it] it (fun i h => IsRangeIter h it (lo + (i : Nat) * 1) ((n : Int) - (i : Nat)) 1) where
  mem := by simp
  obj := fun i h st b hb => by
    have e : b = it := by simpa using hb
    subst e
    exact ⟨_, st, fun v z => by
      have z' : Data.fields _ = Data.cell v := z
      cases z'⟩
  keep := fun i h h' st k => k it (by simp) _ st
  item := by
    intro X hP hw hK hc i pins s σ H E I hf st hg
    subst hP hw hK
    obtain ⟨f0, f1, f2, f3, f4, f5⟩ := hf it (by simp)
    have W := Walks.range (prog := X.prog) (w := X.w) (I.ok.hd hc) it lo 1 n
    refine W.item i s _ _ hg st fun v h' tk hv st' kk => ?_
    obtain ⟨t, rfl⟩ := hv
    have I1 : Inv X pins σ H { s with heap := h', toks := tk } := I.turned (fun b o hb e => kk b o (by simpa using hb) e) f0 f1 f3 f4 f5
    refine ⟨_, rfl, go_of (s := { s with heap := h', toks := tk }) (n := "range_iterator") st' rfl rfl (by decide) ⟨.int (lo + i), H, I1, ⟨t, ?_⟩, ⟨rfl, rfl⟩, st', fun b hb => (hf b hb).1⟩⟩
    rw [Int.mul_one]
  done := by
    intro X hP hw hK hc i pins s σ H E I hf st hg
    subst hP hw hK
    obtain ⟨f0, f1, f2, f3, f4, f5⟩ := hf it (by simp)
    exact wpAny_pyNext_range_end (I.ok.hd hc) st (by have : n ≤ i := hg; omega) fun h' eb => ⟨rfl, I.turned (t' := s.toks) (fun b o hb e => eb b o hb e) f0 f1 f3 f4 f5⟩
  self := fun _ _ _ _ _ st h => wpAny_pyIter_rangeiter st h
end L2
namespace L2
open PySem PySem.Spec PyProof.Rows
section
variable {X : Cx} {tg : Expr}
noncomputable def iList (K : PySem.W.Frag) (tl : TE) : TI := fun σ H R => tl σ H fun x H1 => ∃ a, x = .ref a ∧ (∃ xs, SqL K H1 a xs) ∧ R (Itl K a) H1
noncomputable def iTup (K : PySem.W.Frag) (tl : TE) : TI := fun σ H R => tl σ H fun x H1 => ∃ a, x = .ref a ∧ (∃ xs, SqT K H1 a xs) ∧ R (Itt K a) H1
theorem pi_list {l : Expr} {tl : TE} (hl : PE X l tl) : PI X tg l (iList X.K tl) := by
  intro pins s σ H R I h
  refine thn (hl pins s σ H _ I h) fun v s1 ⟨x, H1, I1, r1, q1⟩ => ?_
  obtain ⟨a, e, ⟨xs, hq⟩, q⟩ := q1
  subst e
  cases r1
  obtain ⟨its, rv, p, hz⟩ := I1.list hq
  refine wpAny_pyIter_list p.isList ?_
  refine ⟨s1.heap.objs.size, [s1.heap.objs.size], _, _, H1, rfl, I1.kept (t' := s1.toks) fun b o e => Heap.get?_push_of_some _ e, turn_list a _, ⟨_, Heap.get?_push_size _ rfl, rfl, rfl⟩, fun b hb => ?_, q⟩
  have e : b = s1.heap.objs.size := by simpa using hb
  subst e
  exact I1.fpOk (Nat.le_refl _) (I1.hok.fresh (Nat.le_refl _))
theorem pi_tup {l : Expr} {tl : TE} (hl : PE X l tl) : PI X tg l (iTup X.K tl) := by
  intro pins s σ H R I h
  refine thn (hl pins s σ H _ I h) fun v s1 ⟨x, H1, I1, r1, q1⟩ => ?_
  obtain ⟨a, e, ⟨xs, hq⟩, q⟩ := q1
  subst e
  cases r1
  obtain ⟨its, rv, p, hz⟩ := I1.tuple hq
  refine wpAny_pyIter_tuple (show s1.heap.IsTuple a its.toArray from p) ?_
  refine ⟨s1.heap.objs.size, [s1.heap.objs.size], _, _, H1, rfl, I1.kept (t' := s1.toks) fun b o e => Heap.get?_push_of_some _ e, turn_tuple a _, ⟨_, Heap.get?_push_size _ rfl, rfl, rfl⟩, fun b hb => ?_, q⟩
  have e : b = s1.heap.objs.size := by simpa using hb
  subst e
  exact I1.fpOk (Nat.le_refl _) (I1.hok.fresh (Nat.le_refl _))
theorem range_it {pins : List (Addr × Obj)} {σ : St} {H : Hp} {s : Shared} {R : It → Hp → Prop} {E : Value → Shared → Prop} {lo hi : Int} {t u v : Tok} {tk : Nat} (I : Inv X pins σ H s) (h1 : -(2 ^ 62) ≤ lo) (h2 : lo < 2 ^ 62) (h3 : -(2 ^ 62) ≤ hi) (h4 : hi < 2 ^ 62)
    (q : R (Itr lo (hi - lo).toNat) H) : wpAny (model X.prog X.w) X.A (pyIter (.ref s.heap.objs.size)) (PIE X pins σ tg R) E { s with heap := s.heap.push { cls := .type "range", data := .fields #[.int lo t, .int hi u, .int 1 v] }, toks := tk } := by
  refine wpAny_pyIter_range (IsRange.new ..) (small_one h1 h2 h3 h4) ?_
  have I1 : Inv X pins σ H { s with heap := s.heap.push { cls := .type "range", data := .fields #[.int lo t, .int hi u, .int 1 v] }, toks := tk } := I.kept fun b o e => Heap.get?_push_of_some _ e
  refine ⟨(s.heap.push { cls := .type "range", data := .fields #[.int lo t, .int hi u, .int 1 v] }).objs.size, [(s.heap.push { cls := .type "range", data := .fields #[.int lo t, .int hi u, .int 1 v] }).objs.size], _, _, H, rfl,
    I1.kept (t' := tk) fun b o e => Heap.get?_push_of_some _ e, turn_range _ lo (hi - lo).toNat, ?_, fun b hb => ?_, q⟩
  · have e1 : lo + ((0 : Nat) : Int) * 1 = lo := by simp
    have e2 : (((hi - lo).toNat : Nat) : Int) - ((0 : Nat) : Int) = Builtin.Range.rangeSize lo hi 1 := by rw [rangeSize_one]; split <;> omega
    show IsRangeIter _ _ (lo + ((0 : Nat) : Int) * 1) ((((hi - lo).toNat : Nat) : Int) - ((0 : Nat) : Int)) 1
    rw [e1, e2]
    exact Heap.get?_push_size _ rfl
  · have e : b = (s.heap.push { cls := .type "range", data := .fields #[.int lo t, .int hi u, .int 1 v] }).objs.size := by simpa using hb
    subst e
    exact I1.fpOk (Nat.le_refl _) (I1.hok.fresh (Nat.le_refl _))
noncomputable def iRng1 (ta : TA) : TI := fun σ H R => ta σ H fun vs H1 => ∃ j : Int, vs = [.int j] ∧ -(2 ^ 62) ≤ j ∧ j < 2 ^ 62 ∧ R (Itr 0 j.toNat) H1
noncomputable def iRng2 (ta : TA) : TI := fun σ H R => ta σ H fun vs H1 => ∃ i j : Int, vs = [.int i, .int j] ∧ (-(2 ^ 62) ≤ i ∧ i < 2 ^ 62 ∧ -(2 ^ 62) ≤ j ∧ j < 2 ^ 62) ∧ R (Itr i (j - i).toNat) H1
theorem pi_range1 {a : Expr} {ta : TA} {p pos : Pos} (hg : Gl X "range") (hm : X.mg "range" = none) (ha : PA X [a] ta) (hs : starEach [a] X.env = [(false, eval a X.env)] := by rfl) : PI X tg (.Call (.Name "range" p) [a] [] pos) (iRng1 ta) := by
  intro pins s σ H R I h
  refine Call_ (ld_blt I hg hm boot_range (PyProof.Rows.callWith_type1 (thn (ha pos pins s σ H _ I h) fun us s1 ⟨vs, H1, I1, r1, q1⟩ => ?_) hs rfl))
  obtain ⟨j, e, q1, q2, q⟩ := q1
  subst e
  cases r1 with
  | cons r rr =>
    cases rr
    obtain ⟨t, rfl⟩ := r
    exact call_range_1 (range_it I1 (by omega) (by omega) q1 q2 (by simpa using q))
theorem pi_range2 {a b : Expr} {ta : TA} {p pos : Pos} (hg : Gl X "range") (hm : X.mg "range" = none) (ha : PA X [a, b] ta) (hs : starEach [a, b] X.env = [(false, eval a X.env), (false, eval b X.env)] := by rfl) (hs2 : starEach [b] X.env = [(false, eval b X.env)] := by rfl) :
    PI X tg (.Call (.Name "range" p) [a, b] [] pos) (iRng2 ta) := by
  intro pins s σ H R I h
  refine Call_ (ld_blt I hg hm boot_range (PyProof.Rows.callWith_type1 (thn (ha pos pins s σ H _ I h) fun us s1 ⟨vs, H1, I1, r1, q1⟩ => ?_) (by rw [hs, hs2]) (by rw [hs2]; rfl)))
  obtain ⟨i, j, e, ⟨q1, q2, q3, q4⟩, q⟩ := q1
  subst e
  cases r1 with
  | cons r rr =>
    cases rr with
    | cons r' rr =>
      cases rr
      obtain ⟨t, rfl⟩ := r
      obtain ⟨t', rfl⟩ := r'
      exact call_range_2 (range_it I1 q1 q2 q3 q4 q)
noncomputable def tFor (wi : TI) (g : TG) (tb : TS) : TS := fun D σ H => wi σ H fun J H1 => ∃ W : Nat → Nat → St → Hp → Prop, (∃ m, W 0 m σ H1) ∧ ∀ i m σ H, W i m σ H →
  (J.stop i H ∧ D.nx σ H) ∨ (J.go i H ∧ ∃ N : St → Hp → Prop, (∀ σ' H', N σ' H' → ∃ m', m' < m ∧ W (i + 1) m' σ' H') ∧ ∀ x H', J.yld i H x H' → g x σ H' fun σ2 H2 => tb { D with nx := N, ct := N, bk := D.nx } σ2 H2)
noncomputable def pinsAt (fp : List Addr) (h : Heap) : List (Addr × Obj) := fp.filterMap fun b => (h.get? b).map fun o => (b, o)
theorem mem_pinsAt {fp : List Addr} {h : Heap} {b : Addr} {o : Obj} (hb : b ∈ fp) (e : h.get? b = some o) : (b, o) ∈ pinsAt fp h := List.mem_filterMap.mpr ⟨b, hb, by rw [e]; rfl⟩
theorem of_pinsAt {fp : List Addr} {h : Heap} {p : Addr × Obj} (hp : p ∈ pinsAt fp h) : p.1 ∈ fp ∧ h.get? p.1 = some p.2 := by
  obtain ⟨b, hb, e⟩ := List.mem_filterMap.mp hp
  cases q : h.get? b with
  | none => rw [q] at e; cases e
  | some o =>
    rw [q] at e
    have e' : (b, o) = p := Option.some.inj e
    subst e'
    exact ⟨hb, q⟩
theorem Inv.pinned {pins : List (Addr × Obj)} {σ : St} {H : Hp} {s : Shared} {fp : List Addr} (I : Inv X pins σ H s) (hf : ∀ b ∈ fp, FpOk X pins H b) (ho : ∀ b ∈ fp, ∃ o, s.heap.get? b = some o ∧ ∀ v, o.data ≠ .cell v) : Inv X (pins ++ pinsAt fp s.heap) σ H s :=
  I.pins_of fun p hp => (List.mem_append.mp hp).elim (fun z => I.pin p (List.mem_append_right _ z)) fun z => by
    obtain ⟨hb, e⟩ := of_pinsAt z
    obtain ⟨f0, f1, f2, _⟩ := hf p.1 hb
    obtain ⟨o, e', d⟩ := ho p.1 hb
    rw [e] at e'; cases e'
    exact ⟨e, f0, f1, f2, d⟩
theorem Inv.unpinned {pins pl : List (Addr × Obj)} {σ : St} {H : Hp} {s : Shared} (I : Inv X (pins ++ pl) σ H s) : Inv X pins σ H s := I.pins_of fun p hp => I.pin p (List.mem_append_right _ (List.mem_append_left _ hp))
theorem ps_for {iter : Expr} {body : List Stmt} {wi : TI} {g : TG} {tb : TS} {pos : Pos} (hp : PassesOwn (model X.prog X.w) X.A X.env X.xe) (hc : X.calm = true) (hi : PI X tg iter wi) (hg : PG X tg g) (hb : PSs X body tb)
    (hs : ∀ x, foldedSetIterable iter X.env x = pure x := by intro _; rfl) : PS X (.For tg iter body [] pos) (tFor wi g tb) := by
  intro pins s σ H D I h
  refine wpAny_For (thn (hi pins s σ H _ I h) fun v s1 h1 => thn h1 fun itv s2 h2 => ?_) hs
  obtain ⟨it, fp, tn, J, H2, e, I2, T, st2, f2, W, ⟨m0, w0⟩, turn⟩ := h2
  subst e
  have stat : ∀ {H' : Hp}, (∀ b ∈ fp, H' b = none) → ∀ b ∈ fp, FpOk X pins H' b := fun hn b hb => ⟨hn b hb, (f2 b hb).2⟩
  refine codeAny_forLoop_any (fun n s' => ∃ i σ' H', Inv X pins σ' H' s' ∧ tn i s'.heap ∧ (∀ b ∈ fp, H' b = none) ∧ W i n σ' H') ?_ m0 ⟨0, σ, H2, I2, st2, fun b hb => (f2 b hb).1, w0⟩
  rintro n s3 ⟨i, σ3, H3, I3, st3, fr3, w3⟩
  rcases turn i n σ3 H3 w3 with ⟨stop, qn⟩ | ⟨go, N, hN, step⟩
  · refine wpAny_passesOwn hp (thn (T.done X rfl rfl rfl hc i pins s3 σ3 H3 X.xe I3 (stat fr3) st3 stop) fun r s4 ⟨hr, I4⟩ => ?_)
    subst hr
    exact wpAny_execs_nil ⟨σ3, H3, I4, qn⟩
  · refine wpAny_passesOwn hp (thn (T.item X rfl rfl rfl hc i pins s3 σ3 H3 X.xe I3 (stat fr3) st3 go) fun r s4 ⟨u, hr, h4⟩ => ?_)
    subst hr
    refine wpAny_passesOwn hp (thn h4 fun _ s5 ⟨x, H5, I5, r5, y5, st5, fr5⟩ => ?_)
    have I5' := I5.pinned (stat fr5) (T.obj _ _ st5)
    refine wpAny_passesOwn hp (thn (hg _ s5 σ3 H5 x u _ I5' r5 (step x H5 y5)) fun _ s6 ⟨σ6, H6, I6, q6⟩ => ?_)
    refine wpAny_passesOwn hp (thn (hb _ s6 σ6 H6 _ I6 q6) fun f s7 q7 => ?_)
    have again : ∀ {σ7 : St} {H7 : Hp}, Inv X (pins ++ pinsAt fp s5.heap) σ7 H7 s7 → N σ7 H7 → ∃ m, m < n ∧ ∃ i σ' H', Inv X pins σ' H' s7 ∧ tn i s7.heap ∧ (∀ b ∈ fp, H' b = none) ∧ W i m σ' H' := fun {σ7 H7} I7 n7 => by
      obtain ⟨m', hm, w7⟩ := hN σ7 H7 n7
      refine ⟨m', hm, i + 1, σ7, H7, I7.unpinned, T.keep _ _ _ st5 fun b hb o e => (I7.pin (b, o) (List.mem_append_right _ (List.mem_append_right _ (mem_pinsAt hb e)))).1, fun b hb => ?_, w7⟩
      obtain ⟨o, e, d⟩ := T.obj _ _ st5 b hb
      exact (I7.pin (b, o) (List.mem_append_right _ (List.mem_append_right _ (mem_pinsAt hb e)))).2.1
    cases f with
    | next => obtain ⟨σ7, H7, I7, n7⟩ := q7; exact again I7 n7
    | cont => obtain ⟨σ7, H7, I7, n7⟩ := q7; exact again I7 n7
    | brk => obtain ⟨σ7, H7, I7, q7⟩ := q7; exact ⟨σ7, H7, I7.unpinned, q7⟩
    | ret v => obtain ⟨x7, σ7, H7, I7, r7, q7⟩ := q7; exact ⟨x7, σ7, H7, I7.unpinned, r7, q7⟩
end
theorem for_list {K : PySem.W.Frag} {a : Addr} {xs : List V} {g : TG} {tb : TS} {D : Ends} {σ : St} {H : Hp} (Pv : Nat → St → Hp → Prop) (h0 : Pv 0 σ H) (hl : ∀ i σ H, i ≤ xs.length → Pv i σ H → SqL K H a xs)
    (hs : ∀ i x σ H, xs[i]? = some x → Pv i σ H → g x σ H fun σ2 H2 => tb { D with nx := Pv (i + 1), ct := Pv (i + 1), bk := D.nx } σ2 H2) (hd : ∀ σ H, Pv xs.length σ H → D.nx σ H) :
    ∃ W : Nat → Nat → St → Hp → Prop, (∃ m, W 0 m σ H) ∧ ∀ i m σ H, W i m σ H →
      ((Itl K a).stop i H ∧ D.nx σ H) ∨ ((Itl K a).go i H ∧ ∃ N : St → Hp → Prop, (∀ σ' H', N σ' H' → ∃ m', m' < m ∧ W (i + 1) m' σ' H') ∧ ∀ x H', (Itl K a).yld i H x H' → g x σ H' fun σ2 H2 => tb { D with nx := N, ct := N, bk := D.nx } σ2 H2) := by
  refine ⟨fun i m σ H => m = xs.length - i ∧ i ≤ xs.length ∧ Pv i σ H, ⟨xs.length, by simp, Nat.zero_le _, h0⟩, ?_⟩
  rintro i m σ H ⟨rfl, hi, p⟩
  have q := hl i σ H hi p
  by_cases hlt : i < xs.length
  · refine .inr ⟨⟨xs, xs[i], q, by simp [hlt]⟩, Pv (i + 1), fun σ' H' p' => ⟨xs.length - (i + 1), by omega, rfl, hlt, p'⟩, fun x H' y => ?_⟩
    obtain ⟨e, y⟩ := y
    subst e
    exact hs i x σ _ (y xs q) p
  · have e : i = xs.length := by omega
    subst e
    exact .inl ⟨⟨xs, q, Nat.le_refl _⟩, hd σ H p⟩
theorem for_tup {K : PySem.W.Frag} {a : Addr} {xs : List V} {g : TG} {tb : TS} {D : Ends} {σ : St} {H : Hp} (Pv : Nat → St → Hp → Prop) (h0 : Pv 0 σ H) (hl : ∀ i σ H, i ≤ xs.length → Pv i σ H → SqT K H a xs)
    (hs : ∀ i x σ H, xs[i]? = some x → Pv i σ H → g x σ H fun σ2 H2 => tb { D with nx := Pv (i + 1), ct := Pv (i + 1), bk := D.nx } σ2 H2) (hd : ∀ σ H, Pv xs.length σ H → D.nx σ H) :
    ∃ W : Nat → Nat → St → Hp → Prop, (∃ m, W 0 m σ H) ∧ ∀ i m σ H, W i m σ H →
      ((Itt K a).stop i H ∧ D.nx σ H) ∨ ((Itt K a).go i H ∧ ∃ N : St → Hp → Prop, (∀ σ' H', N σ' H' → ∃ m', m' < m ∧ W (i + 1) m' σ' H') ∧ ∀ x H', (Itt K a).yld i H x H' → g x σ H' fun σ2 H2 => tb { D with nx := N, ct := N, bk := D.nx } σ2 H2) := by
  refine ⟨fun i m σ H => m = xs.length - i ∧ i ≤ xs.length ∧ Pv i σ H, ⟨xs.length, by simp, Nat.zero_le _, h0⟩, ?_⟩
  rintro i m σ H ⟨rfl, hi, p⟩
  have q := hl i σ H hi p
  by_cases hlt : i < xs.length
  · refine .inr ⟨⟨xs, xs[i], q, by simp [hlt]⟩, Pv (i + 1), fun σ' H' p' => ⟨xs.length - (i + 1), by omega, rfl, hlt, p'⟩, fun x H' y => ?_⟩
    obtain ⟨e, y⟩ := y
    subst e
    exact hs i x σ _ (y xs q) p
  · have e : i = xs.length := by omega
    subst e
    exact .inl ⟨⟨xs, q, Nat.le_refl _⟩, hd σ H p⟩
theorem for_range {lo : Int} {n : Nat} {g : TG} {tb : TS} {D : Ends} {σ : St} {H : Hp} (Pv : Nat → St → Hp → Prop) (h0 : Pv 0 σ H)
    (hs : ∀ i σ H, i < n → Pv i σ H → g (.int (lo + i)) σ H fun σ2 H2 => tb { D with nx := Pv (i + 1), ct := Pv (i + 1), bk := D.nx } σ2 H2) (hd : ∀ σ H, Pv n σ H → D.nx σ H) :
    ∃ W : Nat → Nat → St → Hp → Prop, (∃ m, W 0 m σ H) ∧ ∀ i m σ H, W i m σ H →
      ((Itr lo n).stop i H ∧ D.nx σ H) ∨ ((Itr lo n).go i H ∧ ∃ N : St → Hp → Prop, (∀ σ' H', N σ' H' → ∃ m', m' < m ∧ W (i + 1) m' σ' H') ∧ ∀ x H', (Itr lo n).yld i H x H' → g x σ H' fun σ2 H2 => tb { D with nx := N, ct := N, bk := D.nx } σ2 H2) := by
  refine ⟨fun i m σ H => m = n - i ∧ i ≤ n ∧ Pv i σ H, ⟨n, by simp, Nat.zero_le _, h0⟩, ?_⟩
  rintro i m σ H ⟨rfl, hi, p⟩
  by_cases hlt : i < n
  · refine .inr ⟨hlt, Pv (i + 1), fun σ' H' p' => ⟨n - (i + 1), by omega, rfl, hlt, p'⟩, fun x H' y => ?_⟩
    obtain ⟨e, y⟩ := y
    subst e y
    exact hs i σ _ hlt p
  · have e : i = n := by omega
    subst e
    exact .inl ⟨Nat.le_refl _, hd σ H p⟩
end L2
namespace L2
open PySem PySem.Spec PyProof.Rows
noncomputable abbrev R2 := V → V → Hp → VK → Prop
noncomputable def OpR (X : Cx) (f : Value → Value → Sem Value) (r : R2) : Prop :=
  ∀ (pins : List (Addr × Obj)) (s : Shared) (σ : St) (H : Hp) (x y : V) (v u : Value) (Q : VK), Inv X pins σ H s → RelV x v → RelV y u → r x y H Q →
    wpAny (model X.prog X.w) X.A (f v u) (EP X pins σ Q) X.xe s
noncomputable def UnR (X : Cx) (f : Value → Sem Value) (r : V → Hp → VK → Prop) : Prop :=
  ∀ (pins : List (Addr × Obj)) (s : Shared) (σ : St) (H : Hp) (x : V) (v : Value) (Q : VK), Inv X pins σ H s → RelV x v → r x H Q →
    wpAny (model X.prog X.w) X.A (f v) (EP X pins σ Q) X.xe s
noncomputable def CallR (X : Cx) (f : Value) (r : List V → Hp → VK → Prop) : Prop :=
  ∀ (pins : List (Addr × Obj)) (s : Shared) (σ : St) (H : Hp) (xs : List V) (us : List Value) (Q : VK), Inv X pins σ H s → Vals xs us → r xs H Q →
    wpAny (model X.prog X.w) X.A (call f us) (EP X pins σ Q) X.xe s
noncomputable def tOp (r : R2) (ta tb : TE) : TE := fun σ H Q => ta σ H fun x H1 => tb σ H1 fun y H2 => r x y H2 Q
noncomputable def tUn (r : V → Hp → VK → Prop) (ta : TE) : TE := fun σ H Q => ta σ H fun x H1 => r x H1 Q
noncomputable def rI (C : Int → Int → Prop) (g : Int → Int → V) : R2 := fun x y H Q => ∃ i j, x = .int i ∧ y = .int j ∧ C i j ∧ Q (g i j) H
noncomputable def rI0 (g : Int → Int → V) : R2 := fun x y H Q => ∃ i j, x = .int i ∧ y = .int j ∧ Q (g i j) H
noncomputable def rU (g : Int → V) : V → Hp → VK → Prop := fun x H Q => ∃ i, x = .int i ∧ Q (g i) H
section
variable {X : Cx} {a b c : Expr} {ta tb tc : TE} {pos : Pos}
theorem binT (ha : PE X a ta) (hb : PE X b tb) {pins : List (Addr × Obj)} {s : Shared} {σ : St} {H : Hp} {R : V → V → Hp → Prop} (I : Inv X pins σ H s)
    (h : ta σ H fun x H1 => tb σ H1 fun y H2 => R x y H2) {Q : Value → Shared → Prop} {f : Value → Value → Sem Value}
    (hf : ∀ v u s2 x y H2, Inv X pins σ H2 s2 → RelV x v → RelV y u → R x y H2 → wpAny (model X.prog X.w) X.A (f v u) Q X.xe s2) :
    wpAny (model X.prog X.w) X.A (eval a X.env) (fun v s₁ => wpAny (model X.prog X.w) X.A (eval b X.env) (fun u s₂ => wpAny (model X.prog X.w) X.A (f v u) Q X.xe s₂) X.xe s₁) X.xe s := by
  refine thn (ha pins s σ H _ I h) fun v s1 ⟨x, H1, I1, r1, q1⟩ => ?_
  refine thn (hb pins s1 σ H1 _ I1 q1) fun u s2 ⟨y, H2, I2, r2, q2⟩ => ?_
  exact hf v u s2 x y H2 I2 r1 r2 q2
theorem pe_op {op : Operator} {r : R2} (ho : OpR X (binaryOp op) r) (ha : PE X a ta) (hb : PE X b tb) : PE X (.BinOp a op b pos) (tOp r ta tb) := by
  intro pins s σ H Q I h
  exact wpAny_BinOp (binT ha hb I h fun v u s2 x y H2 I2 rx ry q => ho pins s2 σ H2 x y v u Q I2 rx ry q)
theorem pe_un {op : UnaryOp} {r : V → Hp → VK → Prop} (ho : UnR X (unaryOp op) r) (ha : PE X a ta) : PE X (.UnaryOp op a pos) (tUn r ta) := by
  intro pins s σ H Q I h
  exact UnaryOp_ (thn (ha pins s σ H _ I h) fun v s1 ⟨x, H1, I1, r1, q1⟩ => ho pins s1 σ H1 x v Q I1 r1 q1)
theorem opI {f : Value → Value → Sem Value} {C : Int → Int → Prop} {g : Int → Int → Int}
    (rule : ∀ (i j : Int) (t u : Tok) (s : Shared) (Q : Value → Shared → Prop) (E : Value → Shared → Prop), C i j → Q (.int (g i j) s.toks) { s with toks := s.toks + 1 } → wpAny (model X.prog X.w) X.A (f (.int i t) (.int j u)) Q E s) :
    OpR X f (rI C fun i j => .int (g i j)) := by
  intro pins s σ H x y v u Q I rx ry h
  obtain ⟨i, j, rfl, rfl, hc, q⟩ := h
  obtain ⟨t, rfl⟩ := rx
  obtain ⟨t', rfl⟩ := ry
  exact rule i j t t' s _ _ hc ⟨.int (g i j), H, I.tok _, ⟨_, rfl⟩, q⟩
theorem opI0 {f : Value → Value → Sem Value} {g : Int → Int → Int}
    (rule : ∀ (i j : Int) (t u : Tok) (s : Shared) (Q : Value → Shared → Prop) (E : Value → Shared → Prop), Q (.int (g i j) s.toks) { s with toks := s.toks + 1 } → wpAny (model X.prog X.w) X.A (f (.int i t) (.int j u)) Q E s) :
    OpR X f (rI0 fun i j => .int (g i j)) := by
  intro pins s σ H x y v u Q I rx ry h
  obtain ⟨i, j, rfl, rfl, q⟩ := h
  obtain ⟨t, rfl⟩ := rx
  obtain ⟨t', rfl⟩ := ry
  exact rule i j t t' s _ _ ⟨.int (g i j), H, I.tok _, ⟨_, rfl⟩, q⟩
theorem opB0 {f : Value → Value → Sem Value} {g : Int → Int → Bool}
    (rule : ∀ (i j : Int) (t u : Tok) (s : Shared) (Q : Value → Shared → Prop) (E : Value → Shared → Prop), Q (.bool (g i j)) s → wpAny (model X.prog X.w) X.A (f (.int i t) (.int j u)) Q E s) :
    OpR X f (rI0 fun i j => .bl (g i j)) := by
  intro pins s σ H x y v u Q I rx ry h
  obtain ⟨i, j, rfl, rfl, q⟩ := h
  obtain ⟨t, rfl⟩ := rx
  obtain ⟨t', rfl⟩ := ry
  exact rule i j t t' s _ _ ⟨.bl (g i j), H, I, rfl, q⟩
noncomputable def CDiv (i j : Int) : Prop := 0 < j ∧ j < 1073741824
noncomputable def CMul (i j : Int) : Prop := (-(2 ^ 64) < i ∧ i < 2 ^ 64) ∨ (-(2 ^ 64) < j ∧ j < 2 ^ 64)
theorem CMul.ok {i j : Int} (h : CMul i j) : IntMulOk i j := by
  rcases h with ⟨h1, h2⟩ | ⟨h1, h2⟩
  · exact .of_left (intBits_le_64 h1 h2)
  · exact .of_right (intBits_le_64 h1 h2)
theorem op_add : OpR X (binaryOp .Add) (rI0 fun i j => .int (i + j)) := opI0 fun _ _ _ _ _ _ _ q => add_int q
theorem op_sub : OpR X (binaryOp .Sub) (rI0 fun i j => .int (i - j)) := opI0 fun _ _ _ _ _ _ _ q => sub_int q
theorem op_mul : OpR X (binaryOp .Mult) (rI CMul fun i j => .int (i * j)) := opI fun _ _ _ _ _ _ _ hc q => mul_int q hc.ok
theorem op_fdiv : OpR X (binaryOp .FloorDiv) (rI CDiv fun i j => .int (i / j)) := opI fun i j _ _ _ _ _ hc q => by
  have h1 : (0 : Int) < j := hc.1
  have h2 : j < 1073741824 := hc.2
  exact floordiv_int (by omega) (by rw [Int.fdiv_eq_ediv_of_nonneg i (by omega)]; exact q) (.inl (PyProof.noPylong_small (by omega)))
theorem op_mod : OpR X (binaryOp .Mod) (rI (fun _ j => 0 < j) fun i j => .int (i % j)) := opI fun i j _ _ _ _ _ hc q => by
  have h1 : (0 : Int) < j := hc
  exact mod_int' (by omega) (by rw [Int.fmod_eq_emod_of_nonneg i (by omega)]; exact q)
theorem unI {f : Value → Sem Value} {g : Int → Int}
    (rule : ∀ (i : Int) (t : Tok) (s : Shared) (Q : Value → Shared → Prop) (E : Value → Shared → Prop), Q (.int (g i) s.toks) { s with toks := s.toks + 1 } → wpAny (model X.prog X.w) X.A (f (.int i t)) Q E s) :
    UnR X f (rU fun i => .int (g i)) := by
  intro pins s σ H x v Q I rx h
  obtain ⟨i, rfl, q⟩ := h
  obtain ⟨t, rfl⟩ := rx
  exact rule i t s _ _ ⟨.int (g i), H, I.tok _, ⟨_, rfl⟩, q⟩
theorem un_neg : UnR X (unaryOp .USub) (rU fun i => .int (-i)) := unI fun _ _ _ _ _ q => neg_int q
end
noncomputable def scal : V → V → Bool
  | .non, .non => true | .non, .int _ => true | .int _, .non => true | .non, .bl _ => true | .bl _, .non => true | .non, .str _ => true | .str _, .non => true
  | .int _, .int _ => true | .bl _, .bl _ => true | .str _, .str _ => true | .byt _, .byt _ => true
  | .int _, .str _ => true | .str _, .int _ => true | .bl _, .str _ => true | .str _, .bl _ => true
  | _, _ => false
noncomputable def rEq : R2 := fun x y H Q => scal x y = true ∧ Q (.bl (decide (x = y))) H
noncomputable def rNe : R2 := fun x y H Q => scal x y = true ∧ Q (.bl (!decide (x = y))) H
theorem dec_int {i j : Int} : decide (V.int i = V.int j) = (i == j) := by
  rw [Bool.eq_iff_iff]
  simp
theorem dec_bl {i j : Bool} : decide (V.bl i = V.bl j) = (i == j) := by
  rw [Bool.eq_iff_iff]
  simp
theorem dec_str {i j : Str} : decide (V.str i = V.str j) = (i == j) := by
  rw [Bool.eq_iff_iff]
  simp
theorem dec_byt {i j : Array UInt8} : decide (V.byt i = V.byt j) = (i.toList == j.toList) := by
  rw [Bool.eq_iff_iff]
  cases i
  cases j
  simp
section
variable {X : Cx} {a b c : Expr} {ta tb tc : TE} {pos : Pos}
theorem fin_bl {pins : List (Addr × Obj)} {σ : St} {H : Hp} {s : Shared} {Q : VK} {k k' : Bool} (I : Inv X pins σ H s) (q : Q (.bl k) H) (e : k = k') : EP X pins σ Q (.bool k') s := by
  subst e
  exact ⟨.bl k, H, I, rfl, q⟩
theorem op_eq : OpR X (compareOp .Eq) rEq := by
  intro pins s σ H x y v u Q I rx ry h
  obtain ⟨hs, q⟩ := h
  cases x with
  | non =>
    cases rx
    cases y with
    | non => cases ry; exact PySem.EqNone.eq_none_none (fin_bl I q (by simp))
    | bl j => cases ry; exact PySem.EqNone.eq_none_bool (fin_bl I q (by simp))
    | int j => obtain ⟨t', rfl⟩ := ry; exact PySem.EqNone.eq_none_int (fin_bl I q (by simp))
    | str j => obtain ⟨t', rfl⟩ := ry; exact PySem.EqNone.eq_none_str (fin_bl I q (by simp))
    | _ => exact absurd (show false = true from hs) Bool.false_ne_true
  | bl i =>
    cases rx
    cases y with
    | non => cases ry; exact PySem.EqNone.eq_bool_none (fin_bl I q (by simp))
    | bl j => cases ry; exact eq_bool (fin_bl I q dec_bl)
    | str j => obtain ⟨t', rfl⟩ := ry; exact PySem.EqMixed.eq_bool_str (fin_bl I q (by simp))
    | _ => exact absurd (show false = true from hs) Bool.false_ne_true
  | int i =>
    obtain ⟨t, rfl⟩ := rx
    cases y with
    | non => cases ry; exact PySem.EqNone.eq_int_none (fin_bl I q (by simp))
    | int j => obtain ⟨t', rfl⟩ := ry; exact eq_int (fin_bl I q dec_int)
    | str j => obtain ⟨t', rfl⟩ := ry; exact PySem.EqMixed.eq_int_str (fin_bl I q (by simp))
    | _ => exact absurd (show false = true from hs) Bool.false_ne_true
  | str i =>
    obtain ⟨t, rfl⟩ := rx
    cases y with
    | non => cases ry; exact PySem.EqNone.eq_str_none (fin_bl I q (by simp))
    | bl j => cases ry; exact PySem.EqMixed.eq_str_bool (fin_bl I q (by simp))
    | int j => obtain ⟨t', rfl⟩ := ry; exact PySem.EqMixed.eq_str_int (fin_bl I q (by simp))
    | str j => obtain ⟨t', rfl⟩ := ry; exact eq_str (fin_bl I q dec_str)
    | _ => exact absurd (show false = true from hs) Bool.false_ne_true
  | byt i =>
    obtain ⟨t, rfl⟩ := rx
    cases y with
    | byt j => obtain ⟨t', rfl⟩ := ry; exact PySem.W.eq_bytes (fin_bl I q dec_byt)
    | _ => exact absurd (show false = true from hs) Bool.false_ne_true
  | _ => cases y <;> exact absurd (show false = true from hs) Bool.false_ne_true
theorem op_ne : OpR X (compareOp .NotEq) rNe := by
  intro pins s σ H x y v u Q I rx ry h
  obtain ⟨hs, q⟩ := h
  cases x with
  | non =>
    cases rx
    cases y with
    | non => cases ry; exact PySem.EqNone.ne_none_none (fin_bl I q (by simp))
    | bl j => cases ry; exact PySem.EqNone.ne_none_bool (fin_bl I q (by simp))
    | int j => obtain ⟨t', rfl⟩ := ry; exact PySem.EqNone.ne_none_int (fin_bl I q (by simp))
    | str j => obtain ⟨t', rfl⟩ := ry; exact PySem.EqNone.ne_none_str (fin_bl I q (by simp))
    | _ => exact absurd (show false = true from hs) Bool.false_ne_true
  | bl i =>
    cases rx
    cases y with
    | non => cases ry; exact PySem.EqNone.ne_bool_none (fin_bl I q (by simp))
    | bl j => cases ry; exact ne_bool (fin_bl I q (congrArg not dec_bl))
    | str j => obtain ⟨t', rfl⟩ := ry; exact PySem.EqMixed.ne_bool_str (fin_bl I q (by simp))
    | _ => exact absurd (show false = true from hs) Bool.false_ne_true
  | int i =>
    obtain ⟨t, rfl⟩ := rx
    cases y with
    | non => cases ry; exact PySem.EqNone.ne_int_none (fin_bl I q (by simp))
    | int j => obtain ⟨t', rfl⟩ := ry; exact ne_int (fin_bl I q (congrArg not dec_int))
    | str j => obtain ⟨t', rfl⟩ := ry; exact PySem.EqMixed.ne_int_str (fin_bl I q (by simp))
    | _ => exact absurd (show false = true from hs) Bool.false_ne_true
  | str i =>
    obtain ⟨t, rfl⟩ := rx
    cases y with
    | non => cases ry; exact PySem.EqNone.ne_str_none (fin_bl I q (by simp))
    | bl j => cases ry; exact PySem.EqMixed.ne_str_bool (fin_bl I q (by simp))
    | int j => obtain ⟨t', rfl⟩ := ry; exact PySem.EqMixed.ne_str_int (fin_bl I q (by simp))
    | str j => obtain ⟨t', rfl⟩ := ry; exact ne_str (fin_bl I q (congrArg not dec_str))
    | _ => exact absurd (show false = true from hs) Bool.false_ne_true
  | byt i =>
    obtain ⟨t, rfl⟩ := rx
    cases y with
    | byt j => obtain ⟨t', rfl⟩ := ry; exact PySem.W.ne_bytes (fin_bl I q (congrArg not dec_byt))
    | _ => exact absurd (show false = true from hs) Bool.false_ne_true
  | _ => cases y <;> exact absurd (show false = true from hs) Bool.false_ne_true
theorem op_lt : OpR X (compareOp .Lt) (rI0 fun i j => .bl (decide (i < j))) := opB0 fun _ _ _ _ _ _ _ q => lt_int q
theorem op_le : OpR X (compareOp .LtE) (rI0 fun i j => .bl (decide (i ≤ j))) := opB0 fun _ _ _ _ _ _ _ q => le_int q
theorem op_gt : OpR X (compareOp .Gt) (rI0 fun i j => .bl (decide (j < i))) := opB0 fun _ _ _ _ _ _ _ q => gt_int q
theorem nomark (b : Expr) {op : CmpOp} (h : op ≠ .In := by decide) (h2 : op ≠ .NotIn := by decide) : behindInMarks op b = false := by
  have e1 : (op == CmpOp.In) = false := by cases op <;> first | rfl | exact absurd rfl h
  have e2 : (op == CmpOp.NotIn) = false := by cases op <;> first | rfl | exact absurd rfl h2
  cases b <;> simp [behindInMarks, e1, e2]
theorem pe_cmpR {op : CmpOp} {r : R2} (ho : OpR X (compareOp op) r) (ha : PE X a ta) (hb : PE X b tb) (hm : behindInMarks op b = false) : PE X (.Compare a [op] [b] pos) (tOp r ta tb) := by
  intro pins s σ H Q I h
  exact wpAny_Compare1 (binT ha hb I h fun v u s2 x y H2 I2 rx ry q => ho pins s2 σ H2 x y v u Q I2 rx ry q) hm
noncomputable def tTest (t : TE) : TT := fun σ H Q => t σ H fun x H' => ∃ k, x = .bl k ∧ Q k H'
theorem pt_cmpR {op : CmpOp} {r : R2} (ho : OpR X (compareOp op) r) (ha : PE X a ta) (hb : PE X b tb) (hm : behindInMarks op b = false) : PT X (.Compare a [op] [b] pos) (tTest (tOp r ta tb)) := by
  intro pins s σ H Q I h
  refine wpAny_isTrue_Compare1 (thn (ha pins s σ H _ I h) fun v s1 ⟨x, H1, I1, r1, q1⟩ => thn (hb pins s1 σ H1 _ I1 q1) fun u s2 ⟨y, H2, I2, r2, q2⟩ =>
    thn (ho pins s2 σ H2 x y v u _ I2 r1 r2 q2) fun c s3 ⟨z, H3, I3, r3, k, e, q3⟩ => ?_) hm
  subst e
  cases r3
  exact wpAny_truthy_bool ⟨H3, I3, q3⟩
theorem line63 : (sizeLine : Nat) < 2 ^ 63 := by rw [sizeLine_eq]; decide
theorem vals1 {x : V} {us : List Value} (r : Vals [x] us) : ∃ u, us = [u] ∧ RelV x u := by
  cases r with
  | cons r1 r2 => cases r2; exact ⟨_, rfl, r1⟩
theorem call_str_int : CallR X (.type "str") (fun xs H Q => ∃ i, xs = [.int i] ∧ i.natAbs.log2 < 1920 ∧ Q (.str (toString i)) H) := by
  intro pins s σ H xs us Q I r h
  obtain ⟨i, rfl, hz, q⟩ := h
  obtain ⟨u, rfl, t, rfl⟩ := vals1 r
  exact PySem.P.str_of_int hz ⟨.str _, H, I.tok _, ⟨_, rfl⟩, q⟩
theorem call_ord : CallR X (.builtin "ord") (fun xs H Q => ∃ x, xs = [.str x] ∧ x.length = 1 ∧ Q (.int (x.cps.getD 0 0 : Nat)) H) := by
  intro pins s σ H xs us Q I r h
  obtain ⟨x, rfl, hz, q⟩ := h
  obtain ⟨u, rfl, t, rfl⟩ := vals1 r
  exact ord_of_one hz ⟨.int _, H, I.tok _, ⟨_, rfl⟩, q⟩
noncomputable def LenV (K : PySem.W.Frag) (x : V) (H : Hp) (n : Nat) : Prop :=
  match x with
  | .str y => y.length ≤ sizeLine ∧ n = y.length
  | .byt y => y.size ≤ sizeLine ∧ n = y.size
  | .ref p => (∃ xs, SqL K H p xs ∧ n = xs.length) ∨ ∃ xs, SqT K H p xs ∧ n = xs.length
  | _ => False
theorem call_len : CallR X (.builtin "len") (fun xs H Q => ∃ x n, xs = [x] ∧ LenV X.K x H n ∧ Q (.int n) H) := by
  intro pins s σ H xs us Q I r h
  obtain ⟨x, n, rfl, e, q⟩ := h
  obtain ⟨u, rfl, rx⟩ := vals1 r
  have hl := line63
  have hs : sizeLine = 16777216 := sizeLine_eq
  cases x with
  | str y =>
    obtain ⟨t, rfl⟩ := rx
    obtain ⟨hy, e'⟩ : y.length ≤ sizeLine ∧ n = y.length := e
    subst e'
    exact len_str (by omega) ⟨.int _, H, I.tok _, ⟨_, rfl⟩, q⟩
  | byt y =>
    obtain ⟨t, rfl⟩ := rx
    obtain ⟨hy, e'⟩ : y.size ≤ sizeLine ∧ n = y.size := e
    subst e'
    exact PySem.W.len_bytes (by omega) ⟨.int _, H, I.tok _, ⟨_, rfl⟩, q⟩
  | ref p =>
    cases rx
    have e' : (∃ xs, SqL X.K H p xs ∧ n = xs.length) ∨ ∃ xs, SqT X.K H p xs ∧ n = xs.length := e
    rcases e' with ⟨xs, hx, e'⟩ | ⟨xs, hx, e'⟩
    · subst e'
      obtain ⟨its, r', pl, hz⟩ := I.list hx
      have hlen := r'.length
      exact Calls.call_len_list pl.isList (by simp only [List.size_toArray]; omega) ⟨.int xs.length, H, I.tok _, ⟨_, by simp only [List.size_toArray]; rw [hlen]⟩, q⟩
    · subst e'
      obtain ⟨its, r', pl, hz⟩ := I.tuple hx
      have hlen := r'.length
      exact len_tuple pl (by simp only [List.size_toArray]; omega) ⟨.int xs.length, H, I.tok _, ⟨_, by simp only [List.size_toArray]; rw [hlen]⟩, q⟩
  | _ => exact (show False from e).elim
end
end L2
namespace L2
open PySem PySem.Spec PyProof.Rows
structure ObjM (h : Heap) (x dx C : Addr) (mA : Str → Option Value) : Prop where
  obj : h.get? x = some (PySem.W.instObj C dx)
  ns : h.Ns1 dx mA
  ne : dx ≠ x
theorem lookIn_ns {h : Heap} {dx : Addr} {mA : Str → Option Value} (n : h.Ns1 dx mA) : ∃ od, h.get? dx = some od ∧ ∀ name, PySem.W.lookIn name od = some (mA name) := by
  obtain ⟨o, es, ep, ho, hd, hk, _, hm⟩ := n
  refine ⟨o, ho, fun name => ?_⟩
  have e := hm name
  unfold nsFind findBy at e
  rw [← Array.find?_toList] at e
  unfold PySem.W.lookIn
  rw [hd]
  dsimp only
  split
  · rename_i y q
    rw [q] at e
    exact congrArg some e
  · rename_i q
    rw [q] at e
    have a : es.toList.any (·.refKey) = false := by
      rw [List.any_eq_false]
      intro y hy
      obtain ⟨z, t, hkey⟩ := hk y (Array.mem_toList_iff.mp hy)
      simp [DictEntry.refKey, hkey]
    have a' : ¬ es.toList.any (·.refKey) = true := by rw [a]; exact Bool.false_ne_true
    rw [if_neg a']
    exact congrArg some e
theorem ObjM.look {h : Heap} {x dx C : Addr} {mA : Str → Option Value} (I : ObjM h x dx C mA) : ∃ od, PySem.W.InstAt h x (PySem.W.instObj C dx) C (some od) ∧ ∀ name, PySem.W.lookIn name od = some (mA name) :=
  let ⟨od, ho, hl⟩ := lookIn_ns I.ns
  ⟨od, ⟨I.obj, rfl, rfl, ho⟩, hl⟩
section
variable {prog : Program} {w : World} {A : Around} {E : Value → Shared → Prop} {s : Shared} {K : PySem.W.Frag} {x dx C f : Addr} {mA : Str → Option Value} {name : Str} {v : Value}
theorem get_map {expr : Bool} {Q : Value → Shared → Prop} (X : K.In s.heap) (I : ObjM s.heap x dx C mA) (hg : PySem.W.plainGet K C name = true) (hh : PySem.W.hasDictIn K C = true)
    (ha : PySem.W.findIn K (.ref C) name = some none) (hv : mA name = some v) (hv' : PySem.W.handedIn v = true) (h : Q v { s with toks := s.toks + 1 }) :
    wpAny (model prog w) A (getAttr (.ref x) name expr) Q E s := by
  obtain ⟨od, J, hl⟩ := I.look
  exact PySem.W.get_value X J (PySem.W.plainGet_of hg).1 (PySem.W.findObj_own hh ha rfl (by rw [hl, hv])) hv' h
theorem get_meth {pl : Sem Bool} {Q : Value × List Value → Shared → Prop} (X : K.In s.heap) (I : ObjM s.heap x dx C mA) (hg : PySem.W.plainGet K C name = true)
    (hf : PySem.W.findIn K (.ref C) name = some (some (.ref f))) (ht : PySem.W.isFn K (.ref f) = true) (hv : mA name = none) (h : Q (.ref f, [.ref x]) s) :
    wpAny (model prog w) A (getMethod (.ref x) name pl) Q E s := by
  obtain ⟨od, J, hl⟩ := I.look
  exact PySem.W.method_fn X J (PySem.W.plainGet_of hg).1 (PySem.W.plainGet_of hg).2 hf (beq_iff_eq.mp ht) (by show (PySem.W.lookIn name od).map (·.isSome) = some false; rw [hl, hv]; rfl) h
theorem set_map {ns : List Str} {Q : Unit → Shared → Prop} (X : K.In s.heap) (I : ObjM s.heap x dx C mA)
    (hs : PySem.W.findIn K (.ref C) "__setattr__" = some (some (.builtin "object.__setattr__"))) (hp : PySem.W.plainOver K C = true) (ht : PySem.W.takerIn K C name = some none) (hh : PySem.W.hasDictIn K C = true)
    (hw : PySem.Within mA ns) (hsz : ns.length ≤ sizeLine)
    (h : ∀ h', ObjM h' x dx C (fun y => if y = name then some v else mA y) → Heap.SameBut dx s.heap h' → Q () { s with heap := h', toks := s.toks + 2 }) :
    wpAny (model prog w) A (setAttr (.ref x) name v) Q E s := by
  obtain ⟨od, J, hl⟩ := I.look
  refine PySem.W.set_plain X J hs (PySem.W.osa_open (s := { s with toks := s.toks + 1 }) (r := none) X J hp ht fun b => ?_)
  obtain ⟨cd, hc, hd'⟩ := PySem.W.any_some hh
  have hx : s.heap.get? x = some ⟨.ref C, some dx, .plain, #[]⟩ := I.obj
  refine wpAny_bind (wpAny_pure (wpAny_bind (wpAny_bind (wpAny_loadPart hx (wpAny_bind (PySem.W.Looks.here (s := { s with toks := s.toks + 1 }) (PySem.W.looks_clsIn X hc) ?_))))))
  rw [hd']
  refine wpAny_pure (a := some dx) (wpAny_bind (wpAny_pure (wpAny_bind ?_)))
  refine wpAny_nsSet1 (s := { s with toks := s.toks + 1 }) I.ns fun h' hn2 hs2 => ?_
  obtain ⟨oD, esD, epD, hoD, hdD, hcD⟩ := hn2.count (PySem.Within.cons name v hw)
  refine wpAny_bind (wpAny_lookBehind hoD (by rw [hdD]; exact pastItsLine_dict (Nat.le_trans hcD (by rw [List.length_cons]; omega))) ?_)
  exact wpAny_pure (h _ ⟨(hs2.2 _ (Ne.symm I.ne)).trans I.obj, hn2, I.ne⟩ hs2)
theorem make_map {R : Result → Shared → Prop} {vs : List Value} {kw : List (Str × Value)} (X : K.In s.heap) (hm : PySem.W.makesIn K C = true)
    (hi : PySem.W.findIn K (.ref C) "__init__" = some (some (.ref f))) (hf : PySem.W.typeIn K (.ref f) = some (.type "function"))
    (h : codeAny (model prog w) (A.under (.builtin "type.__call__" ⟨.ref C :: vs, kw⟩)) (.call (.ref f) ⟨.ref (s.heap.objs.size + 1) :: vs, kw⟩) (PySem.W.InitBack (s.heap.objs.size + 1) R)
      { s with heap := (s.heap.push PySem.W.emptyDict).push (PySem.W.instObj C s.heap.objs.size) }) :
    codeAny (model prog w) A (.call (.ref C) ⟨vs, kw⟩) R s := by
  obtain ⟨hh, g, d, t, os⟩ := s
  exact PySem.W.make_core (PySem.W.makes_of X hm) (PySem.W.looks_findIn X hi) (fun self => PySem.W.bind_fn X self hf) (.inl rfl) h
end
noncomputable def putF (f : Str) (v : V) : List (Str × V) → List (Str × V)
  | [] => [(f, v)]
  | (g, x) :: r => if g = f then (g, v) :: r else (g, x) :: putF f v r
theorem lookup_putF (f g : Str) (v : V) : ∀ fs : List (Str × V), (putF f v fs).lookup g = if g = f then some v else fs.lookup g
  | [] => by
    show List.lookup g [(f, v)] = _
    by_cases h : g = f
    · have hb : (g == f) = true := beq_iff_eq.mpr h
      simp only [List.lookup, hb, if_pos h]
    · have hb : (g == f) = false := beq_eq_false_iff_ne.mpr h
      simp only [List.lookup, hb, if_neg h]
  | (k, x) :: r => by
    have ih := lookup_putF f g v r
    rw [show putF f v ((k, x) :: r) = (if k = f then (k, v) :: r else (k, x) :: putF f v r) from rfl]
    by_cases hk : k = f
    · rw [if_pos hk]
      by_cases h : g = k
      · have hb : (g == k) = true := beq_iff_eq.mpr h
        simp only [List.lookup, hb, if_pos (h.trans hk)]
      · have hb : (g == k) = false := beq_eq_false_iff_ne.mpr h
        simp only [List.lookup, hb, if_neg (fun e : g = f => h (e.trans hk.symm))]
    · rw [if_neg hk]
      by_cases h : g = k
      · have hb : (g == k) = true := beq_iff_eq.mpr h
        simp only [List.lookup, hb, if_neg (fun e : g = f => hk (h.symm.trans e))]
      · have hb : (g == k) = false := beq_eq_false_iff_ne.mpr h
        simp only [List.lookup, hb]
        exact ih
theorem keys_putF (f : Str) (v : V) : ∀ fs : List (Str × V), f ∈ (putF f v fs).map (·.1) ∧ ∀ g, g ∈ fs.map (·.1) → g ∈ (putF f v fs).map (·.1)
  | [] => ⟨by simp [putF], fun g h => by simp at h⟩
  | (k, x) :: r => by
    obtain ⟨i1, i2⟩ := keys_putF f v r
    rw [show putF f v ((k, x) :: r) = (if k = f then (k, v) :: r else (k, x) :: putF f v r) from rfl]
    by_cases hk : k = f
    · rw [if_pos hk]
      subst hk
      exact ⟨by simp, fun g h => by simpa using h⟩
    · rw [if_neg hk]
      refine ⟨?_, fun g h => ?_⟩
      · rw [List.map_cons]
        exact List.mem_cons_of_mem _ i1
      · rw [List.map_cons] at h ⊢
        rcases List.mem_cons.mp h with e | e
        · exact List.mem_cons.mpr (.inl e)
        · exact List.mem_cons_of_mem _ (i2 g e)
theorem length_putF (f : Str) (v : V) : ∀ fs : List (Str × V), (putF f v fs).length ≤ fs.length + 1
  | [] => by simp [putF]
  | (k, x) :: r => by
    have ih := length_putF f v r
    rw [show putF f v ((k, x) :: r) = (if k = f then (k, v) :: r else (k, x) :: putF f v r) from rfl]
    by_cases hk : k = f
    · rw [if_pos hk, List.length_cons, List.length_cons]; omega
    · rw [if_neg hk, List.length_cons, List.length_cons]; omega
theorem RelO.some_of {v : V} {o : Option Value} (r : RelO (some v) o) : ∃ u, o = some u ∧ RelV v u := by
  cases o with
  | none => exact (show False from r).elim
  | some u => exact ⟨u, rfl, r⟩
theorem RelO.none_of {o : Option Value} (r : RelO none o) : o = none := by
  cases o with
  | none => rfl
  | some u => exact (show False from r).elim
theorem handed_of {v : V} {u : Value} (r : RelV v u) : PySem.W.handedIn u = true := by
  cases v with
  | non => cases (show u = Value.none from r); rfl
  | bl b => cases (show u = Value.bool b from r); rfl
  | int i => obtain ⟨t, e⟩ := (show ∃ t, u = Value.int i t from r); cases e; rfl
  | str x => obtain ⟨t, e⟩ := (show ∃ t, u = Value.str x t from r); cases e; rfl
  | byt b => obtain ⟨t, e⟩ := (show ∃ t, u = Value.bytes b t from r); cases e; rfl
  | flt b => obtain ⟨t, e⟩ := (show ∃ t, u = Value.float b t from r); cases e; rfl
  | ref a => cases (show u = Value.ref a from r); rfl
  | ty n => cases (show u = Value.type n from r); rfl
section
variable {P : Program} {w : World} {H H' : Hp} {h h' : Heap} {a C dx : Addr} {fs fs' : List (Str × V)}
theorem ins_get (hok : HOk P w H h) (e : H a = some (.ins C dx fs)) : ∃ mA, ObjM h a dx C mA ∧ (∀ f, RelO (fs.lookup f) (mA f)) ∧ PySem.Within mA (fs.map (·.1)) ∧ fs.length ≤ 1000 ∧ H dx = some (.own a) := by
  obtain ⟨d, z, ne, ob, mA, n, r, q⟩ := (show ObjOk P w H h a (.ins C dx fs) from hok a _ e)
  exact ⟨mA, ⟨ob, n, ne⟩, r, q, z, d⟩
end
structure Cls (K : PySem.W.Frag) (C : Addr) : Prop where
  pg : PySem.W.plainGet K C Str.empty = true
  hd : PySem.W.hasDictIn K C = true
  po : PySem.W.plainOver K C = true
  sa : PySem.W.findIn K (.ref C) "__setattr__" = some (some (.builtin "object.__setattr__"))
theorem Cls.get {K : PySem.W.Frag} {C : Addr} (c : Cls K C) (f : Str) : PySem.W.plainGet K C f = true := c.pg
noncomputable def NoAttr (K : PySem.W.Frag) (C : Addr) (f : Str) : Prop := PySem.W.findIn K (.ref C) f = some none
theorem NoAttr.taker {K : PySem.W.Frag} {C : Addr} {f : Str} (n : NoAttr K C f) : PySem.W.takerIn K C f = some none := by
  unfold PySem.W.takerIn
  rw [show PySem.W.findIn K (.ref C) f = some none from n]
  rfl
structure Con (K : PySem.W.Frag) (C : Addr) (f : Str) (v : V) (u : Value) : Prop where
  at_ : PySem.W.findIn K (.ref C) f = some (some u)
  rel : RelV v u
  get : PySem.W.specialIn K u "__get__" = some none
  cp : PySem.W.copiedNames.contains f = false
structure Meth (K : PySem.W.Frag) (C : Addr) (m : Str) (f : Addr) : Prop where
  at_ : PySem.W.findIn K (.ref C) m = some (some (.ref f))
  fn : PySem.W.isFn K (.ref f) = true
  kp : PySem.W.keepIn K (.ref f) = true
section
variable {X : Cx} {pins : List (Addr × Obj)} {σ : St} {H : Hp} {s : Shared} {a C dx : Addr} {fs : List (Str × V)} {f : Str} {v : V} {A : Around} {E : Value → Shared → Prop}
theorem getattr_ok {b : Bool} {Q : Value → Shared → Prop} (I : Inv X pins σ H s) (e : H a = some (.ins C dx fs)) (c : Cls X.K C) (n : NoAttr X.K C f) (l : fs.lookup f = some v)
    (h : ∀ u s', Inv X pins σ H s' → RelV v u → Q u s') : wpAny (model X.prog X.w) A (getAttr (.ref a) f b) Q E s := by
  obtain ⟨mA, O, r, _, _, _⟩ := ins_get I.hok e
  obtain ⟨u, hu, ru⟩ := RelO.some_of (v := v) (o := mA f) (by rw [← l]; exact r f)
  exact get_map I.kIn O (c.get f) c.hd n hu (handed_of ru) (h u _ (I.tok _) ru)
theorem getmeth_ok {m : Str} {g : Addr} {pl : Sem Bool} {Q : Value × List Value → Shared → Prop} (I : Inv X pins σ H s) (e : H a = some (.ins C dx fs)) (c : Cls X.K C) (k : Meth X.K C m g) (l : fs.lookup m = none)
    (h : Q (.ref g, [.ref a]) s) : wpAny (model X.prog X.w) A (getMethod (.ref a) m pl) Q E s := by
  obtain ⟨mA, O, r, _, _, _⟩ := ins_get I.hok e
  have hn : mA m = none := RelO.none_of (by rw [← l]; exact r m)
  exact get_meth I.kIn O (c.get m) k.at_ k.fn hn h
theorem setattr_ok {y : V} {u : Value} {Q : Unit → Shared → Prop} (I : Inv X pins σ H s) (e : H a = some (.ins C dx fs)) (c : Cls X.K C) (n : NoAttr X.K C f) (hl : fs.length < 1000) (ry : RelV y u)
    (h : ∀ s', Inv X pins σ (upd H a (.ins C dx (putF f y fs))) s' → Q () s') : wpAny (model X.prog X.w) A (setAttr (.ref a) f u) Q E s := by
  obtain ⟨mA, O, r, wi, _, ho⟩ := ins_get I.hok e
  have hz : (fs.map (·.1)).length ≤ sizeLine := by rw [List.length_map, sizeLine_eq]; omega
  refine set_map I.kIn O c.sa c.po n.taker c.hd wi hz fun h' O' sb => h _ ?_
  have hd : ∃ o, h'.get? dx = some o := let ⟨o, _, _, e', _⟩ := O'.ns; ⟨o, e'⟩
  refine I.write (x := a) (e := dx) (by rw [e]; exact True.intro) (.inr ho) (fun b q hb z => (sb.2 b hb).trans z) hd ?_
  refine ⟨by rw [upd_ne O.ne]; exact ho, ?_, O.ne, O'.obj, _, O'.ns, fun g => ?_, fun g hg => ?_⟩
  · have := length_putF f y fs; omega
  · show RelO ((putF f y fs).lookup g) (if g = f then some u else mA g)
    rw [lookup_putF]
    by_cases q : g = f
    · rw [if_pos q, if_pos q]; exact ry
    · rw [if_neg q, if_neg q]; exact r g
  · by_cases q : g = f
    · rw [q]; exact (keys_putF f y fs).1
    · refine (keys_putF f y fs).2 g (wi g fun z => hg ?_)
      show (if g = f then some u else mA g) = none
      rw [if_neg q]; exact z
theorem Inv.made (I : Inv X pins σ H s) : Inv X pins σ (upd (upd H s.heap.objs.size (.own (s.heap.objs.size + 1))) (s.heap.objs.size + 1) (.ins C s.heap.objs.size []))
    { s with heap := (s.heap.push PySem.W.emptyDict).push (PySem.W.instObj C s.heap.objs.size) } := by
  have e1 : (s.heap.push PySem.W.emptyDict).get? s.heap.objs.size = some PySem.W.emptyDict := Heap.get?_push_size s.heap rfl
  have e2 : ((s.heap.push PySem.W.emptyDict).push (PySem.W.instObj C s.heap.objs.size)).get? (s.heap.objs.size + 1) = some (PySem.W.instObj C s.heap.objs.size) := by
    have := Heap.get?_push_size (s.heap.push PySem.W.emptyDict) (o := PySem.W.instObj C s.heap.objs.size) rfl
    rwa [Heap.size_push] at this
  have e3 : (s.heap.push PySem.W.emptyDict).Ns s.heap.objs.size (fun _ => none) := ⟨PySem.W.emptyDict, #[], _, e1, rfl, (fun e he => absurd he (by simp)), fun _ => rfl⟩
  have I1 := I.laid (a := s.heap.objs.size) (o := .own (s.heap.objs.size + 1)) (h' := s.heap.push PySem.W.emptyDict) (t' := s.toks) (fun b u q => Heap.get?_push_of_some _ q) (Nat.le_refl _) ⟨_, e1⟩
  refine I1.laid (a := s.heap.objs.size + 1) (o := .ins C s.heap.objs.size []) (t' := s.toks) (fun b u q => Heap.get?_push_of_some _ q) (Nat.le_of_eq (Heap.size_push _ _)) ?_
  have ne : s.heap.objs.size ≠ s.heap.objs.size + 1 := Nat.ne_of_lt (Nat.lt_succ_self _)
  refine ⟨by rw [upd_ne ne, upd_same], Nat.zero_le _, ne, e2, fun _ => none, (Heap.Ns1.of_empty e3).at fun o q => Heap.get?_push_of_some _ q, fun _ => True.intro, fun y hy => absurd rfl hy⟩
theorem attr_of {prog : Program} {w : World} {env : Env} {e : Expr} {f : Str} {pos : Pos} {s : Shared} {Q : Value → Shared → Prop} (hb : attributeBase e f env (eval e env) = eval e env)
    (h : wpAny (model prog w) A (eval e env) (fun o s₁ => wpAny (model prog w) A (getAttr o f true) Q E s₁) E s) : wpAny (model prog w) A (eval (.Attribute e f pos) env) Q E s :=
  Attribute_any_ h (by rw [arm_eval_Attribute, hb])
end
noncomputable def tFld (K : PySem.W.Frag) (ta : TE) (f : Str) : TE := fun σ H Q => ta σ H fun x H1 => ∃ a C dx fs v, x = .ref a ∧ H1 a = some (.ins C dx fs) ∧ Cls K C ∧ NoAttr K C f ∧ fs.lookup f = some v ∧ Q v H1
noncomputable def sFld (K : PySem.W.Frag) (ta tv : TE) (f : Str) : TS := fun D σ H => tv σ H fun y H1 => ta σ H1 fun x H2 => ∃ a C dx fs, x = .ref a ∧ H2 a = some (.ins C dx fs) ∧ Cls K C ∧ NoAttr K C f ∧ fs.length < 1000 ∧
  D.nx σ (upd H2 a (.ins C dx (putF f y fs)))
noncomputable def InOp (X : Cx) (op : Operator) (rd : V → V → Hp → VK → Prop) : Prop :=
  ∀ (pins : List (Addr × Obj)) (s : Shared) (σ : St) (H : Hp) (x y : V) (u v : Value) (Q : VK), Inv X pins σ H s → RelV x u → RelV y v → rd x y H Q → wpAny (model X.prog X.w) X.A (inplaceOp op u v) (EP X pins σ Q) X.xe s
noncomputable def sFldAug (K : PySem.W.Frag) (ta tv : TE) (rd : V → V → Hp → VK → Prop) (f : Str) : TS := fun D σ H => ta σ H fun x H1 => ∃ a C dx fs v, x = .ref a ∧ H1 a = some (.ins C dx fs) ∧ Cls K C ∧ NoAttr K C f ∧ fs.lookup f = some v ∧
  tv σ H1 fun y H2 => rd v y H2 fun z H3 => ∃ dx' fs', H3 a = some (.ins C dx' fs') ∧ fs'.length < 1000 ∧ D.nx σ (upd H3 a (.ins C dx' (putF f z fs')))
section
variable {X : Cx} {o e value : Expr} {f : Str} {pos pos' tpos : Pos} {ta tv : TE}
theorem pe_fld (he : PE X e ta) (hb : attributeBase e f X.env (eval e X.env) = eval e X.env) : PE X (.Attribute e f pos) (tFld X.K ta f) := by
  intro pins s σ H Q I h
  refine attr_of hb (thn (he pins s σ H _ I h) fun u s1 ⟨x, H1, I1, rx, a, C, dx, fs, v, ex, ea, c, n, l, q⟩ => ?_)
  subst ex
  obtain rfl : u = Value.ref a := rx
  exact getattr_ok I1 ea c n l fun u' s2 I2 ru => ⟨v, H1, I2, ru, q⟩
theorem ps_fld (ha : PE X o ta) (hv : PE X value tv) (hs : swapsWith value (some (.Attribute o f pos')) pos.line X.env = pure false) : PS X (.Assign [.Attribute o f pos'] value pos) (sFld X.K ta tv f) := by
  intro pins s σ H D I h
  refine plainObj_wpAny_Assign_Attribute (thn (hv pins s σ H _ I h) fun u s1 ⟨y, H1, I1, ry, q⟩ => thn (ha pins s1 σ H1 _ I1 q) fun ov s2 ⟨x, H2, I2, rx, a, C, dx, fs, ex, ea, c, n, l, q2⟩ => ?_) hs
  subst ex
  obtain rfl : ov = Value.ref a := rx
  exact setattr_ok I2 ea c n l ry fun s3 I3 => ⟨σ, _, I3, q2⟩
theorem ps_fldaug {op : Operator} {rd : V → V → Hp → VK → Prop} (ha : PE X o ta) (hv : PE X value tv) (hop : InOp X op rd) : PS X (.AugAssign (.Attribute o f tpos) op value pos) (sFldAug X.K ta tv rd f) := by
  intro pins s σ H D I h
  refine wpAny_AugAssign_AttributeAny (thn (ha pins s σ H _ I h) fun ov s1 ⟨x, H1, I1, rx, a, C, dx, fs, v, ex, ea, c, n, l, q⟩ => ?_)
  subst ex
  obtain rfl : ov = Value.ref a := rx
  refine getattr_ok I1 ea c n l fun u s2 I2 ru => thn (hv pins s2 σ H1 _ I2 q) fun w3 s3 ⟨y, H2, I3, ry, q3⟩ => thn (hop pins s3 σ H2 v y u w3 _ I3 ru ry q3) fun w4 s4 ⟨z, H3, I4, rz, dx', fs', ea', l', q4⟩ => ?_
  exact setattr_ok I4 ea' c n l' rz fun s5 I5 => ⟨σ, _, I5, q4⟩
noncomputable def rAdd : V → V → Hp → VK → Prop := fun x y H Q => ∃ i j, x = .int i ∧ y = .int j ∧ Q (.int (i + j)) H
theorem in_add : InOp X .Add rAdd := by
  rintro pins s σ H x y u v Q I rx ry ⟨i, j, rfl, rfl, q⟩
  obtain ⟨t, rfl⟩ := (show ∃ t, u = Value.int i t from rx)
  obtain ⟨t', rfl⟩ := (show ∃ t', v = Value.int j t' from ry)
  exact PyProof.Rows.iadd_int ⟨.int (i + j), H, I.tok _, ⟨_, rfl⟩, q⟩
end
section
variable {X : Cx} {pins : List (Addr × Obj)} {σ : St} {H : Hp} {s : Shared} {A : Around} {E : Value → Shared → Prop} {Q : Value → Shared → Prop} {c : Value} {b : Bool}
inductive TyOf (K : PySem.W.Frag) (H : Hp) : V → Value → Prop where
  | non : TyOf K H .non (.type "NoneType")
  | bl (x : Bool) : TyOf K H (.bl x) (.type "bool")
  | int (i : Int) : TyOf K H (.int i) (.type "int")
  | str (x : Str) : TyOf K H (.str x) (.type "str")
  | flt (x : UInt64) : TyOf K H (.flt x) (.type "float")
  | lst {a : Addr} {xs : List V} (e : H a = some (.lst xs)) : TyOf K H (.ref a) (.type "list")
  | frz {a : Addr} {o : Obj} {xs : List V} (e : H a = some (.frz o (.lst xs))) : TyOf K H (.ref a) (.type "list")
  | tup {a : Addr} {xs : List V} (e : H a = some (.tup xs)) : TyOf K H (.ref a) (.type "tuple")
  | dK {a : Addr} {kvs : List (Key × V)} (e : H a = some (.dK kvs)) : TyOf K H (.ref a) (.type "dict")
  | dT {a : Addr} {kvs : List (List Key × V)} (e : H a = some (.dT kvs)) : TyOf K H (.ref a) (.type "dict")
  | ins {a C dx : Addr} {fs : List (Str × V)} (e : H a = some (.ins C dx fs)) (cl : Cls K C) (ha : PySem.W.findIn K (.ref C) "__class__" = some (some (.builtin "object.__class__")))
      (hn : PySem.W.specialIn K (.builtin "object.__class__") "__get__" = some (some (.builtin "getset_descriptor.__get__"))) (htk : PySem.W.takesIn K (.builtin "object.__class__") = some true)
      (hm : PySem.W.mroIn K C (.type "object") = some true) : TyOf K H (.ref a) (.ref C)
end
end L2
namespace L2
open PySem PySem.Spec PyProof.Rows
structure Room (k : Nat) (A : Around) : Prop where
  hd : A.handled = none
  dp : A.depth + 3 * k + 5 < recursionLimit
  un : A.units + 16 * k + 200 < cLine
theorem Room.mono {j k : Nat} {A : Around} (r : Room k A) (h : j ≤ k) : Room j A := ⟨r.hd, by have := r.dp; omega, by have := r.un; omega⟩
theorem Room.deeper {k : Nat} {A : Around} (r : Room (k + 1) A) (env : Env) : Room k (A.deeper env) :=
  ⟨r.hd, by have := r.dp; show A.depth + 1 + 3 * k + 5 < _; omega, by have := r.un; show A.units + 3 + 16 * k + 200 < _; omega⟩
theorem make_depth {A : Around} {C : Addr} {us : List Value} {kw : List (Str × Value)} : (A.under (.builtin "type.__call__" ⟨.ref C :: us, kw⟩)).depth = A.depth + 1 := by
  first | rfl | simp [Around.under, Code.weight, Code.isCreation, Code.isGuard, Code.isCaller, Code.frames, Code.isFrame, guardIds]
theorem make_units {A : Around} {C : Addr} {us : List Value} {kw : List (Str × Value)} : (A.under (.builtin "type.__call__" ⟨.ref C :: us, kw⟩)).units = A.units + 1 := by
  first | rfl | simp [Around.under, Code.cUnits, Code.frames, Code.isFrame]
theorem Room.make {k : Nat} {A : Around} (r : Room (k + 1) A) (C : Addr) (us : List Value) (kw : List (Str × Value)) : Room k (A.under (.builtin "type.__call__" ⟨.ref C :: us, kw⟩)) :=
  ⟨r.hd, by have := r.dp; rw [make_depth]; omega, by have := r.un; rw [make_units]; omega⟩
theorem Room.depth {k : Nat} {A : Around} (r : Room k A) : A.depth < recursionLimit := by have := r.dp; omega
theorem Room.units {k : Nat} {A : Around} (r : Room k A) : A.units + 64 < cLine := by have := r.un; omega
noncomputable def tNil : TA := fun _ H Q => Q [] H
noncomputable def tCons (ta : TE) (tr : TA) : TA := fun σ H Q => ta σ H fun x H1 => tr σ H1 fun xs H2 => Q (x :: xs) H2
section
variable {X : Cx} {e : Expr} {es : List Expr} {te : TE} {t : TA} {pos : Pos}
theorem pa_nil : PA X [] tNil := fun _ _ _ _ H Q I h => Calls.spliced_nil ⟨[], H, I, .nil, h⟩
theorem pa_cons (ha : PE X e te) (hr : PA X es t) (hs : starEach (e :: es) X.env = (false, eval e X.env) :: starEach es X.env := by rfl) : PA X (e :: es) (tCons te t) := by
  intro pos pins s σ H Q I h
  rw [hs]
  show wpAny _ _ (spliced ((false, eval e X.env) :: backTo pos (starEach es X.env))) _ _ s
  refine Calls.spliced_cons (thn (ha pins s σ H _ I h) fun u s1 ⟨x, H1, I1, r1, q1⟩ => ?_)
  exact thn (hr pos pins s1 σ H1 _ I1 q1) fun us s2 ⟨xs, H2, I2, r2, q2⟩ => ⟨x :: xs, H2, I2, .cons r1 r2, q2⟩
noncomputable def tTup (t : TA) : TE := fun σ H Q => t σ H fun xs H1 => xs.length ≤ sizeLine ∧ ∀ p, H1 p = none → Q (.ref p) (upd H1 p (.tup xs))
noncomputable def tLst (t : TA) : TE := fun σ H Q => t σ H fun xs H1 => xs.length ≤ sizeLine ∧ ∀ p, H1 p = none → Q (.ref p) (upd H1 p (.lst xs))
theorem pe_tup {x1} (h : PA X es t) : PE X (.Tuple es x1 pos) (tTup t) := by
  intro pins s σ H Q I hq
  refine wpAny_Tuple_spliced (thn (h pos pins s σ H _ I hq) fun us s1 ⟨xs, H1, I1, r, z, q⟩ => ⟨by rw [← r.length]; exact z, ?_⟩)
  have hf : H1 s1.heap.objs.size = none := I1.hok.fresh (Nat.le_refl _)
  refine ⟨.ref s1.heap.objs.size, upd H1 s1.heap.objs.size (.tup xs), I1.laid (t' := s1.toks) (fun b u e => Heap.get?_push_of_some _ e) (Nat.le_refl _) ?_, rfl, q _ hf⟩
  exact ⟨z, us, r, ⟨_, Heap.get?_push_size _ rfl, rfl, _, rfl⟩⟩
theorem pe_lst (h : PA X es t) : PE X (.List es pos) (tLst t) := by
  intro pins s σ H Q I hq
  refine wpAny_List_spliced (thn (h pos pins s σ H _ I hq) fun us s1 ⟨xs, H1, I1, r, z, q⟩ => ⟨by rw [← r.length]; exact z, ?_⟩)
  have hf : H1 s1.heap.objs.size = none := I1.hok.fresh (Nat.le_refl _)
  refine ⟨.ref s1.heap.objs.size, upd H1 s1.heap.objs.size (.lst xs), I1.laid (t' := s1.toks) (fun b u e => Heap.get?_push_of_some _ e) (Nat.le_refl _) ?_, rfl, q _ hf⟩
  exact ⟨z, us, 0, r, Heap.get?_push_size _ rfl⟩
end
noncomputable abbrev Sp := List V → Hp → VK → XK → Prop
noncomputable abbrev CXT := List Env → Hp → Shared → XK → Value → Shared → Prop
structure Env0 (P : Program) (w : World) (K : PySem.W.Frag) (mg : Str → Option Value) (base : Heap) (A : Around) (outer : List Env) (s : Shared) (H : Hp) : Prop where
  frames : A.frames = some outer
  mod : Mod K mg base
  bs : ∀ b o, base.get? b = some o → s.heap.get? b = some o ∧ H b = none
  bsz : base.objs.size ≤ s.heap.objs.size
  funs : s.heap.FunFrames base outer
  frf : ∀ b ∈ frs outer, H b = none
  hok : HOk P w H s.heap
  bare : AllBare s.gens
noncomputable def CE (outer : List Env) (P : Program) (w : World) (H : Hp) (s : Shared) (Q : VK) (u : Value) (s' : Shared) : Prop :=
  ∃ v H', s'.os = s.os ∧ AllBare s'.gens ∧ Un (frs outer) [] H H' s.heap s'.heap ∧ HOk P w H' s'.heap ∧ RelV v u ∧ Q v H'
noncomputable def CR (CX : CXT) (outer : List Env) (P : Program) (w : World) (H : Hp) (s : Shared) (Q : VK) (E : XK) (r : Result) (s' : Shared) : Prop :=
  match r with
  | .ok (.ret u) => CE outer P w H s Q u s'
  | .ok _ => False
  | .error e => CX outer H s E e s'
structure FnOk (P : Program) (w : World) (K : PySem.W.Frag) (mg : Str → Option Value) (base : Heap) (CX : CXT) (k : Nat) (f : Addr) (fd : FuncData) (ps : List Str) (sp : Sp) : Prop where
  len : ∀ vs H Q E, sp vs H Q E → vs.length = ps.length
  run : ∀ (A : Around) (outer : List Env) (s : Shared) (H : Hp) (args : Args) (us : List Value) (vs : List V) (Q : VK) (E : XK), Room k A → Env0 P w K mg base A outer s H → BindsTo s fd args (ps.zip us) → Vals vs us → sp vs H Q E →
    codeAny (model P w) A (.call (.ref f) args) (CR CX outer P w H s Q E) s
theorem Env0.make {P : Program} {w : World} {K : PySem.W.Frag} {mg : Str → Option Value} {base : Heap} {A : Around} {outer : List Env} {s : Shared} {H : Hp} (e : Env0 P w K mg base A outer s H) (C : Addr) (us : List Value) (kw : List (Str × Value)) :
    Env0 P w K mg base (A.under (.builtin "type.__call__" ⟨.ref C :: us, kw⟩)) outer s H := ⟨by first | exact e.frames | (simpa [Around.under, Code.envs, Code.isFrame, pushEnvs] using e.frames), e.mod, e.bs, e.bsz, e.funs, e.frf, e.hok, e.bare⟩
section
variable {X : Cx} {pins : List (Addr × Obj)} {σ : St} {H : Hp} {s s' : Shared}
theorem Inv.env0 (I : Inv X pins σ H s) : Env0 X.prog X.w X.K X.mg X.base X.A X.stack s H :=
  ⟨I.ok.frames, I.ok.mod, I.bs, Nat.le_trans I.ok.bsz I.sz, I.stack, I.stkFree, I.hok, I.bare⟩
theorem Inv.after {Q : VK} {u : Value} (I : Inv X pins σ H s) (h : CE X.stack X.prog X.w H s Q u s') : EP X pins σ Q u s' := by
  obtain ⟨v, H', os, bare, un, hok, r, q⟩ := h
  obtain ⟨hh, g, d, t, os'⟩ := s'
  obtain rfl : os' = s.os := os
  exact ⟨v, H', I.call (h' := hh) (g' := g) (d' := d) (t' := t) (ch := []) un hok bare (fun b z => absurd z (by simp)), r, q⟩
end
noncomputable def tCall (sp : Sp) (dvs : List V) (E : XK) (t : TA) : TE := fun σ H Q => t σ H fun vs H1 => sp (vs ++ dvs) H1 Q E
noncomputable def tMeth (C : Addr) (m : Str) (sp : Sp) (dvs : List V) (E : XK) (ta : TE) (t : TA) : TE := fun σ H Q => ta σ H fun x H1 => ∃ a dx fs, x = .ref a ∧ H1 a = some (.ins C dx fs) ∧ fs.lookup m = none ∧
  t σ H1 fun vs H2 => sp (x :: (vs ++ dvs)) H2 Q E
noncomputable def tMake (C : Addr) (sp : Sp) (dvs : List V) (E : XK) (t : TA) : TE := fun σ H Q => t σ H fun vs H1 => ∀ x dx, H1 x = none → H1 dx = none → dx ≠ x →
  sp (.ref x :: (vs ++ dvs)) (upd (upd H1 dx (.own x)) x (.ins C dx [])) (fun v H2 => v = .non ∧ Q (.ref x) H2) E
noncomputable def Binds (K : PySem.W.Frag) (fd : FuncData) (ps : List Str) (ds : List Value) : Prop :=
  ∀ (s : Shared) (us : List Value), K.In s.heap → (us ++ ds).length = ps.length → BindsTo s fd ⟨us, []⟩ (ps.zip (us ++ ds))
theorem Binds.all {K : PySem.W.Frag} {fd : FuncData} {ps : List Str} (h : ∀ us : List Value, us.length = ps.length → bindArgs fd ⟨us, []⟩ = pure (ps.zip us)) : Binds K fd ps [] := fun s us _ hl => by
  rw [List.append_nil] at hl ⊢
  exact .of_eq (h us hl)
noncomputable def Passes (CX : CXT) (X : Cx) (E : XK) : Prop := ∀ (pins : List (Addr × Obj)) (σ : St) (H : Hp) (s : Shared) (e : Value) (s' : Shared), Inv X pins σ H s → CX X.stack H s E e s' → X.xe e s'
section
variable {X : Cx} {CX : CXT} {k : Nat} {f C : Addr} {fd : FuncData} {ps : List Str} {sp : Sp} {dvs : List V} {ds : List Value} {E : XK} {x m : Str} {p pos apos : Pos} {e o : Expr} {es : List Expr} {ta : TE} {t : TA}
theorem run_fn {pins : List (Addr × Obj)} {σ : St} {H : Hp} {s : Shared} {Q : VK} {us : List Value} {vs : List V} (F : FnOk X.prog X.w X.K X.mg X.base CX k f fd ps sp) (hr : Room k X.A) (hb : Binds X.K fd ps ds) (hd : Vals dvs ds) (hx : Passes CX X E)
    (I : Inv X pins σ H s) (r : Vals vs us) (h : sp (vs ++ dvs) H Q E) : wpAny (model X.prog X.w) X.A (call (.ref f) us) (EP X pins σ Q) X.xe s := by
  have r2 : Vals (vs ++ dvs) (us ++ ds) := r.append hd
  have hl : (us ++ ds).length = ps.length := by rw [← r2.length]; exact F.len _ _ _ _ h
  refine wpAny_call (codeAny_mono (F.run X.A X.stack s H ⟨us, []⟩ (us ++ ds) (vs ++ dvs) Q E hr I.env0 (hb s us I.kIn hl) r2 h) fun r s' hq => ?_)
  cases r with
  | error e => exact hx pins σ H s e s' I hq
  | ok fl =>
    cases fl with
    | ret u => exact I.after hq
    | next => exact False.elim hq
    | brk => exact False.elim hq
    | cont => exact False.elim hq
theorem pe_call (F : FnOk X.prog X.w X.K X.mg X.base CX k f fd ps sp) (hr : Room k X.A) (hg : Gl X x) (hm : X.mg x = some (.ref f)) (hk : PySem.W.keepIn X.K (.ref f) = true) (hb : Binds X.K fd ps ds) (hd : Vals dvs ds) (hx : Passes CX X E)
    (ha : PA X (e :: es) t) (hdb : (x == ("__debug__" : Str)) = false := by decide) (he : starEach (e :: es) X.env = (false, eval e X.env) :: starEach es X.env := by rfl) (hpl : (backTo pos (starEach es X.env)).any (·.1) = false := by rfl) :
    PE X (.Call (.Name x p) (e :: es) [] pos) (tCall sp dvs E t) := by
  intro pins s σ H Q I h
  refine wpAny_Call_Name_kw (ld_glob I hg hm ?_ hdb)
  refine PySem.W.callWith_K (h₀ := X.base) I.ok.mod.kin hk (thn (ha pos pins s σ H _ I h) fun us s1 ⟨vs, H1, I1, r, q⟩ => ⟨I1.kIn, ?_⟩) he hpl
  exact run_fn F hr hb hd hx I1 r q
theorem pe_meth {pl : Sem Bool} (he : PE X o ta) (c : Cls X.K C) (hm : Meth X.K C m f) (F : FnOk X.prog X.w X.K X.mg X.base CX k f fd ps sp) (hr : Room k X.A) (hb : Binds X.K fd ps ds) (hd : Vals dvs ds) (hx : Passes CX X E) (ha : PA X (e :: es) t)
    (hst : starEach (e :: es) X.env = (false, eval e X.env) :: starEach es X.env := by rfl) (hpl : (backTo pos (starEach es X.env)).any (·.1) = false := by rfl)
    (ht : eval (.Call (.Attribute o m apos) (e :: es) [] pos) X.env = (do
      let ov ← eval o X.env
      standAt apos.atName
      let (f, first) ← holding [ov] (getMethod ov m pl)
      callWith pos f first (backTo pos (starEach (e :: es) X.env)) (backToKw pos (keywordEach [] X.env))) := by rfl) :
    PE X (.Call (.Attribute o m apos) (e :: es) [] pos) (tMeth C m sp dvs E ta t) := by
  intro pins s σ H Q I h
  refine PySem.W.methodCall_KW (pl := pl) (thn (he pins s σ H _ I h) fun u s1 ⟨x, H1, I1, rx, a, dx, fs, ex, ea, l, q⟩ => ?_) ht
  subst ex
  obtain rfl : u = Value.ref a := rx
  refine getmeth_ok I1 ea c hm l ?_
  refine PySem.W.callWith_K (first := [.ref a]) (h₀ := X.base) I.ok.mod.kin hm.kp (thn (ha pos pins s1 σ H1 _ I1 q) fun us s2 ⟨vs, H2, I2, r, q2⟩ => ⟨I2.kIn, ?_⟩) hst hpl
  exact run_fn (us := .ref a :: us) (vs := .ref a :: vs) F hr hb hd hx I2 (.cons rfl r) q2
theorem pe_meth0 {pl : Sem Bool} (he : PE X o ta) (c : Cls X.K C) (hm : Meth X.K C m f) (F : FnOk X.prog X.w X.K X.mg X.base CX k f fd ps sp) (hr : Room k X.A) (hb : Binds X.K fd ps ds) (hd : Vals dvs ds) (hx : Passes CX X E)
    (ht : eval (.Call (.Attribute o m apos) [] [] pos) X.env = (do
      let ov ← eval o X.env
      standAt apos.atName
      let (f, first) ← holding [ov] (getMethod ov m pl)
      callWith pos f first (backTo pos (starEach [] X.env)) (backToKw pos (keywordEach [] X.env))) := by rfl) :
    PE X (.Call (.Attribute o m apos) [] [] pos) (tMeth C m sp dvs E ta tNil) := by
  intro pins s σ H Q I h
  refine PySem.W.methodCall_KW (pl := pl) (thn (he pins s σ H _ I h) fun u s1 ⟨x, H1, I1, rx, a, dx, fs, ex, ea, l, q⟩ => ?_) ht
  subst ex
  obtain rfl : u = Value.ref a := rx
  refine getmeth_ok I1 ea c hm l ?_
  exact PySem.W.callWith_K0 (first := [.ref a]) I1.kIn hm.kp (run_fn (us := [.ref a]) (vs := [.ref a]) F hr hb hd hx I1 (.cons rfl .nil) q)
structure Mk (K : PySem.W.Frag) (C f : Addr) : Prop where
  makes : PySem.W.makesIn K C = true
  init : PySem.W.findIn K (.ref C) "__init__" = some (some (.ref f))
  fn : PySem.W.isFn K (.ref f) = true
  kp : PySem.W.keepIn K (.ref C) = true
theorem run_make {pins : List (Addr × Obj)} {σ : St} {H : Hp} {s : Shared} {Q : VK} {us : List Value} {vs : List V} (M : Mk X.K C f) (F : FnOk X.prog X.w X.K X.mg X.base CX k f fd ps sp) (hr : Room (k + 1) X.A) (hb : Binds X.K fd ps ds) (hd : Vals dvs ds)
    (hx : Passes CX X E) (I : Inv X pins σ H s) (r : Vals vs us)
    (h : ∀ x dx, H x = none → H dx = none → dx ≠ x → sp (.ref x :: (vs ++ dvs)) (upd (upd H dx (.own x)) x (.ins C dx [])) (fun v H2 => v = .non ∧ Q (.ref x) H2) E) :
    wpAny (model X.prog X.w) X.A (call (.ref C) us) (EP X pins σ Q) X.xe s := by
  have hq := h (s.heap.objs.size + 1) s.heap.objs.size (I.hok.fresh (Nat.le_succ _)) (I.hok.fresh (Nat.le_refl _)) (Nat.ne_of_lt (Nat.lt_succ_self _))
  have I2 := Inv.made (C := C) I
  have r2 : Vals (V.ref (s.heap.objs.size + 1) :: (vs ++ dvs)) (Value.ref (s.heap.objs.size + 1) :: (us ++ ds)) := .cons rfl (r.append hd)
  have hl : (Value.ref (s.heap.objs.size + 1) :: us ++ ds).length = ps.length := by
    have e := r2.length
    rw [F.len _ _ _ _ hq] at e
    exact e.symm
  refine wpAny_call (make_map (f := f) I.kIn M.makes M.init (beq_iff_eq.mp M.fn) (codeAny_mono (F.run _ X.stack _ _ ⟨Value.ref (s.heap.objs.size + 1) :: us, []⟩ (Value.ref (s.heap.objs.size + 1) :: (us ++ ds)) _ _ E (hr.make C us [])
    (I2.env0.make C us []) (hb _ (Value.ref (s.heap.objs.size + 1) :: us) I2.kIn hl) r2 hq) fun r s' hq' => ?_))
  cases r with
  | error e => exact hx pins σ _ _ e s' I2 hq'
  | ok fl =>
    cases fl with
    | ret u =>
      obtain ⟨v, H', I3, rv, ev, q3⟩ := I2.after hq'
      subst ev
      exact ⟨rv, ⟨V.ref (s.heap.objs.size + 1), H', I3, rfl, q3⟩⟩
    | next => exact False.elim hq'
    | brk => exact False.elim hq'
    | cont => exact False.elim hq'
theorem pe_make (M : Mk X.K C f) (F : FnOk X.prog X.w X.K X.mg X.base CX k f fd ps sp) (hr : Room (k + 1) X.A) (hg : Gl X x) (hm : X.mg x = some (.ref C)) (hb : Binds X.K fd ps ds) (hd : Vals dvs ds) (hx : Passes CX X E)
    (ha : PA X (e :: es) t) (hdb : (x == ("__debug__" : Str)) = false := by decide) (he : starEach (e :: es) X.env = (false, eval e X.env) :: starEach es X.env := by rfl) (hpl : (backTo pos (starEach es X.env)).any (·.1) = false := by rfl) :
    PE X (.Call (.Name x p) (e :: es) [] pos) (tMake C sp dvs E t) := by
  intro pins s σ H Q I h
  refine wpAny_Call_Name_kw (ld_glob I hg hm ?_ hdb)
  refine PySem.W.callWith_K (h₀ := X.base) I.ok.mod.kin M.kp (thn (ha pos pins s σ H _ I h) fun us s1 ⟨vs, H1, I1, r, q⟩ => ⟨I1.kIn, ?_⟩) he hpl
  exact run_make M F hr hb hd hx I1 r q
end
section
variable {X : Cx} {CX : CXT} {k : Nat} {f C : Addr} {fd : FuncData} {ps ks : List Str} {sp : Sp} {E : XK} {x m : Str} {p pos apos kpos : Pos} {e o : Expr} {es : List Expr} {kws : List Keyword} {te ta : TE} {t tk : TA} {nm : Option Str}
structure KBinds (K : PySem.W.Frag) (fd : FuncData) (ps ks : List Str) (g : List Value → List Value → List Value) (gV : List V → List V → List V) : Prop where
  to : ∀ (s : Shared) (us ws : List Value), K.In s.heap → (g us ws).length = ps.length → BindsTo s fd ⟨us, ks.zip ws⟩ (ps.zip (g us ws))
  rel : ∀ {vs : List V} {us : List Value} {zs : List V} {ws : List Value}, Vals vs us → Vals zs ws → Vals (gV vs zs) (g us ws)
variable {g : List Value → List Value → List Value} {gV : List V → List V → List V}
end
structure FnScope (N P : List Str) (sc : Scope) : Prop where
  kind : sc.kind = .function
  co : sc.isCoroutine = false
  gen : sc.isGenerator = false
  nd : N.Nodup
  pre : N.take P.length = P
  par : ∀ x ∈ P, sc.names.lookup x = some .local ∨ sc.names.lookup x = some .cell
  nofree : ∀ y ∈ sc.names, y.2 ≠ .free
theorem bindL_out {kindOf : Str → Option NameKind} {x : Str} : ∀ {binds : List (Str × Value)} {m : Str → Option Value}, (∀ v, (x, v) ∉ binds) → bindL kindOf binds m x = m x
  | [], _, _ => rfl
  | (n, v) :: r, m, h => by
    unfold bindL
    rw [bindL_out fun w hw => h w (List.mem_cons_of_mem _ hw)]
    split
    · have : x ≠ n := by rintro rfl; exact h v List.mem_cons_self
      simp [this]
    · rfl
theorem bindC_out {kindOf : Str → Option NameKind} {x : Str} : ∀ {binds : List (Str × Value)} {m : Str → Option Value}, (∀ v, (x, v) ∉ binds) → bindC kindOf binds m x = m x
  | [], _, _ => rfl
  | (n, v) :: r, m, h => by
    unfold bindC
    rw [bindC_out fun w hw => h w (List.mem_cons_of_mem _ hw)]
    split
    · rfl
    · have : x ≠ n := by rintro rfl; exact h v List.mem_cons_self
      simp [this]
theorem bindL_get {kindOf : Str → Option NameKind} {x : Str} {v : Value} : ∀ {P : List Str} {vs : List Value} {i : Nat} {m : Str → Option Value}, P.Nodup → P[i]? = some x → vs[i]? = some v → kindOf x = some .local →
    bindL kindOf (P.zip vs) m x = some v
  | [], _, _, _, _, h, _, _ => by simp at h
  | _ :: _, [], _, _, _, _, h, _ => by simp at h
  | p :: P, w :: vs, 0, m, nd, h1, h2, hk => by
    simp at h1 h2; subst h1; subst h2
    show bindL kindOf ((p, w) :: P.zip vs) m p = _
    unfold bindL
    rw [bindL_out fun v hv => (List.nodup_cons.mp nd).1 (List.of_mem_zip hv).1, if_pos hk]
    simp
  | p :: P, w :: vs, i + 1, m, nd, h1, h2, hk => by
    show bindL kindOf ((p, w) :: P.zip vs) m x = _
    unfold bindL
    exact bindL_get (i := i) (List.nodup_cons.mp nd).2 (by simpa using h1) (by simpa using h2) hk
theorem bindC_get {kindOf : Str → Option NameKind} {x : Str} {v : Value} : ∀ {P : List Str} {vs : List Value} {i : Nat} {m : Str → Option Value}, P.Nodup → P[i]? = some x → vs[i]? = some v → kindOf x ≠ some .local →
    bindC kindOf (P.zip vs) m x = some v
  | [], _, _, _, _, h, _, _ => by simp at h
  | _ :: _, [], _, _, _, _, h, _ => by simp at h
  | p :: P, w :: vs, 0, m, nd, h1, h2, hk => by
    simp at h1 h2; subst h1; subst h2
    show bindC kindOf ((p, w) :: P.zip vs) m p = _
    unfold bindC
    rw [bindC_out fun v hv => (List.nodup_cons.mp nd).1 (List.of_mem_zip hv).1, if_neg hk]
    simp
  | p :: P, w :: vs, i + 1, m, nd, h1, h2, hk => by
    show bindC kindOf ((p, w) :: P.zip vs) m x = _
    unfold bindC
    exact bindC_get (i := i) (List.nodup_cons.mp nd).2 (by simpa using h1) (by simpa using h2) hk
noncomputable def start (N : List Str) (vs : List V) : St := vs.map some ++ List.replicate (N.length - vs.length) none
noncomputable def cxOf (CX : CXT) (P : Program) (w : World) (K : PySem.W.Frag) (mg : Str → Option Value) (base : Heap) (N : List Str) (qual : Str) (scope : Scope) (f : Addr) (cd : Value) (A : Around) (outer : List Env) (s : Shared) (H : Hp) (E : XK) : Cx where
  prog := P
  w := w
  K := K
  mg := mg
  base := base
  A := A.deeper (envOfC qual scope s.heap.objs.size f cd)
  N := N
  s_0 := s
  H_0 := H
  env := envOfC qual scope s.heap.objs.size f cd
  outer := outer
  stack := envOfC qual scope s.heap.objs.size f cd :: outer
  ex := []
  calm := true
  fn := fun _ => true
  pn := []
  xe := fun e s' => wpAny (model P w) (A.deeper (envOfC qual scope s.heap.objs.size f cd)) (leaving (envOfC qual scope s.heap.objs.size f cd) e) (fun _ s'' => CX outer H s E e s'') (fun e' s'' => CX outer H s E e' s'') s'
theorem cell_has {sc : Scope} {n : Nat} {x : Str} (h : sc.names.lookup x = some .cell) : ∃ c, (cellsFrom n sc.names []).lookup x = some c := by
  have q := PySem.W.cellsFrom_some sc.names n [] (.inl h)
  exact Option.isSome_iff_exists.mp q
theorem inv_start {CX : CXT} {P : Program} {w : World} {K : PySem.W.Frag} {mg : Str → Option Value} {base : Heap} {N ps : List Str} {qual : Str} {scope : Scope} {f : Addr} {cd : Value} {A : Around} {outer : List Env} {s s1 : Shared} {H : Hp} {E : XK} {us : List Value} {vs : List V}
    (S : FnScope N ps scope) (hd : A.handled = none) (e0 : Env0 P w K mg base A outer s H) (hl : vs.length = ps.length) (r : Vals vs us)
    (x : InCallC s s.heap.objs.size (bindL (envOfC qual scope s.heap.objs.size f cd).kindOf (ps.zip us) fun _ => none) (cellsFrom (s.heap.objs.size + 1) scope.names []) (bindC (envOfC qual scope s.heap.objs.size f cd).kindOf (ps.zip us) fun _ => none) s1) :
    Inv (cxOf CX P w K mg base N qual scope f cd A outer s H E) [] (start N vs) H s1 := by
  have hpl : ps.length ≤ N.length := by have := congrArg List.length S.pre; rw [List.length_take] at this; omega
  obtain ⟨h1, tk, rfl, hk⟩ := x.done
  have noA : ∀ b : Addr, b ∉ (cxOf CX P w K mg base N qual scope f cd A outer s H E).ex := fun b z => absurd (show b ∈ ([] : List Addr) from z) (by simp)
  refine ⟨⟨e0.mod, S.kind, rfl, rfl, Nat.le_refl _, fun y z c h1 h2 => ?_, fun y hy => ?_, fun y c _ h => ?_, fun _ => hd, Around.frames_deeper e0.frames, .inr ⟨rfl, rfl⟩, fun b z => absurd z (noA b), e0.bs, e0.bsz, fun b _ _ => noA b, fun b z => absurd z (noA b), e0.funs, e0.frf⟩,
    rfl, e0.bare, Un.kept hk, ⟨_, x.toInCall.ns, fun i y v h1 h2 h3 => ?_⟩, fun y c h => ⟨_, x.cell y c h⟩, e0.hok.fresh (Nat.le_refl _), fun y c h => ?_, fun p hp => absurd (show p ∈ ([] : List (Addr × Obj)) from hp) (by simp), e0.hok.kept hk, ?_⟩
  · exact name_of_addr x.apart (PySem.mem_of_lookup h1) (PySem.mem_of_lookup h2)
  · have hy : scope.names.lookup y = some .cell ∨ scope.names.lookup y = some .free := hy
    rcases hy with hy | hy
    · exact cell_has hy
    · exact absurd rfl (S.nofree _ (PySem.mem_of_lookup hy))
  · exact Nat.le_of_lt (x.above y c (PySem.mem_of_lookup h))
  · have hi : i < vs.length := by
      unfold start at h2
      by_cases hi : i < vs.length
      · exact hi
      · rw [List.getElem?_append_right (by simpa using hi)] at h2
        rw [List.getElem?_replicate] at h2
        split at h2 <;> cases h2
    have ha : vs[i]? = some v := by
      unfold start at h2
      rw [List.getElem?_append_left (by simpa using hi), List.getElem?_map] at h2
      cases e : vs[i]? with
      | none => rw [e] at h2; cases h2
      | some a => rw [e] at h2; cases h2; rfl
    obtain ⟨u, hu, rv⟩ := r.get ha
    have hp : ps[i]? = some y := by
      rw [← S.pre, List.getElem?_take_of_lt (by omega)]; exact h1
    have ndP : ps.Nodup := by rw [← S.pre]; exact S.nd.sublist (List.take_sublist _ _)
    refine ⟨u, rv, ?_⟩
    rcases S.par y (List.mem_of_getElem? hp) with k | k
    · exact .inl ⟨k, bindL_get ndP hp hu k⟩
    · obtain ⟨c, e⟩ := cell_has (n := s.heap.objs.size + 1) k
      refine .inr ⟨.inl k, c, e, ?_⟩
      have q := x.cell y c e
      rw [bindC_get ndP hp hu (by show scope.names.lookup y ≠ _; rw [k]; decide)] at q
      exact q
  · exact e0.hok.fresh (Nat.le_of_lt (x.above y c (PySem.mem_of_lookup h)))
  · unfold start
    show _ = N.length
    rw [List.length_append, List.length_map, List.length_replicate]
    omega
theorem fn_of {CX : CXT} {P : Program} {w : World} {K : PySem.W.Frag} {mg : Str → Option Value} {base : Heap} {k : Nat} {f : Addr} {name qual : Str} {params : Arguments} {body : List Stmt} {scope : Scope} {dV kV doc pm cdv ct oc : Value} {an od : Option Addr}
    {osl : Array (Option Value)} {N ps : List Str} {sp : Sp} (lk : K.lookup f = some ⟨oc, od, .func (PySem.W.fnOf name qual params body scope dV kV doc pm an cdv ct), osl⟩) (hcd : PySem.W.codeIn K cdv qual = true) (S : FnScope N ps scope)
    (len : ∀ vs H Q E, sp vs H Q E → vs.length = ps.length)
    (hbody : ∀ (A : Around) (outer : List Env) (s : Shared) (H : Hp) (vs : List V) (Q : VK) (E : XK), Room k (A.deeper (envOfC qual scope s.heap.objs.size f cdv)) → sp vs H Q E →
      ∃ t, PSs (cxOf CX P w K mg base N qual scope f cdv A outer s H E) body t ∧ t { nx := fun _ H' => Q .non H', rt := Q } (start N vs) H) :
    FnOk P w K mg base CX (k + 1) f (PySem.W.fnOf name qual params body scope dV kV doc pm an cdv ct) ps sp := by
  refine ⟨len, fun A outer s H args us vs Q E hr e0 hb r hsp => ?_⟩
  have hl := len _ _ _ _ hsp
  have KX : K.In s.heap := e0.mod.kin.keeps fun b o e => (e0.bs b o e).1
  have lim : s.heap.NoLimit := e0.mod.nolimit.keeps fun b o e => (e0.bs b o e).1
  have hkind : ∀ y ∈ ps.zip us, scope.names.lookup y.1 = some .local ∨ (scope.names.lookup y.1 = some .cell ∧ ((cellsFrom (s.heap.objs.size + 1) scope.names []).lookup y.1).isSome = true) := fun ⟨n, v⟩ hy => by
    rcases S.par n (List.of_mem_zip hy).1 with q | q
    · exact .inl q
    · exact .inr ⟨q, PySem.W.cellsFrom_some _ _ _ (.inl q)⟩
  refine codeAny_call_function hr.depth (KX _ _ lk) rfl S.co S.gen rfl (PySem.W.codeRec_of KX hcd) (hb _ _ _ _ ?_)
  refine wpAny_newFunctionEnv_cells S.kind hkind fun env he s1 x => ?_
  subst he
  refine ⟨lim.keeps x.toInCall.keep, codeAny_func ?_⟩
  obtain ⟨t, ht, hq⟩ := hbody A outer s H vs Q E (hr.deeper _) hsp
  have I : Inv (cxOf CX P w K mg base N qual scope f cdv A outer s H E) [] (start N vs) H s1 := inv_start S hr.hd e0 hl r x
  refine wpAny_mono (ht [] s1 (start N vs) H _ I hq) (fun fl s' hs => ?_) fun e s' hs => hs
  have fin : ∀ {σ' : St} {H' : Hp} {v : V} {u : Value}, Inv (cxOf CX P w K mg base N qual scope f cdv A outer s H E) [] σ' H' s' → RelV v u → Q v H' → CE outer P w H s Q u s' :=
    fun {σ' H' v u} J rv q => ⟨v, H', J.os, J.bare, J.base, J.hok, rv, q⟩
  cases fl with
  | ret u =>
    obtain ⟨v, σ', H', J, rv, q⟩ := hs
    exact fin J rv q
  | next =>
    obtain ⟨σ', H', J, q⟩ := hs
    exact fin (v := V.non) (u := Value.none) J rfl q
  | brk =>
    obtain ⟨_, _, _, q⟩ := hs
    exact False.elim q
  | cont =>
    obtain ⟨_, _, _, q⟩ := hs
    exact False.elim q
end L2
namespace L2
open PySem PySem.Spec PyProof.Rows
section
variable {X : Cx} {x : Str} {p pos : Pos} {e : Expr} {es : List Expr} {t : TA} {id T : String} {r : List V → Hp → VK → Prop}
noncomputable def tCB (r : List V → Hp → VK → Prop) (t : TA) : TE := fun σ H Q => t σ H fun vs H1 => r vs H1 Q
theorem pe_callB (hc : CallR X (.builtin id) r) (hg : Gl X x) (hm : X.mg x = none) (hv : bootBuiltins x = some (.builtin id)) (ha : PA X (e :: es) t) (hn : x ≠ "__name__" := by decide) (hdb : (x == ("__debug__" : Str)) = false := by decide)
    (he : starEach (e :: es) X.env = (false, eval e X.env) :: starEach es X.env := by rfl) (hpl : (backTo pos (starEach es X.env)).any (·.1) = false := by rfl) : PE X (.Call (.Name x p) (e :: es) [] pos) (tCB r t) := by
  intro pins s σ H Q I h
  refine wpAny_Call_Name_kw (ld_blt I hg hm hv ?_ hn hdb)
  exact PyProof.Rows.callWith_builtin1 (thn (ha pos pins s σ H _ I h) fun us s1 ⟨vs, H1, I1, r1, q1⟩ => hc pins s1 σ H1 vs us Q I1 r1 q1) he hpl
theorem pe_callTy (hc : CallR X (.type T) r) (hg : Gl X x) (hm : X.mg x = none) (hv : bootBuiltins x = some (.type T)) (ha : PA X (e :: es) t) (hn : x ≠ "__name__" := by decide) (hdb : (x == ("__debug__" : Str)) = false := by decide)
    (he : starEach (e :: es) X.env = (false, eval e X.env) :: starEach es X.env := by rfl) (hpl : (backTo pos (starEach es X.env)).any (·.1) = false := by rfl) : PE X (.Call (.Name x p) (e :: es) [] pos) (tCB r t) := by
  intro pins s σ H Q I h
  refine wpAny_Call_Name_kw (ld_blt I hg hm hv ?_ hn hdb)
  exact PyProof.Rows.callWith_type1 (thn (ha pos pins s σ H _ I h) fun us s1 ⟨vs, H1, I1, r1, q1⟩ => hc pins s1 σ H1 vs us Q I1 r1 q1) he hpl
end
end L2
namespace HT
open PySem PyProof.Rows
section
open PySem.SeqAt
open PySem.AutoSeq1 (wpAny_loadPart')
open PySem.MeetsSeq PySem.MeetsSeq2 PySem.MeetsSeq3
end
section
variable {prog : Program} {w : World} {A : Around} {E : Value → Shared → Prop} {s : Shared}
theorem cat_tup {t b : Addr} {vs ws : List Value} {Q : Value → Shared → Prop} (ht : IsTup s.heap t vs.toArray) (hb : IsTup s.heap b ws.toArray) (hv : vs ≠ [])
    (h1 : ws = [] → Q (.ref t) s) (h2 : ws ≠ [] → Q (.ref s.heap.objs.size) { s with heap := s.heap.push { cls := .type "tuple", data := .seq (vs ++ ws).toArray } })
    (hsz : vs.length + ws.length ≤ sizeLine) : wpAny (model prog w) A (binaryOp .Add (.ref t) (.ref b)) Q E s := by
  obtain ⟨⟨cls, dd, data, sl⟩, ho, hc, n, hd⟩ := id ht
  obtain ⟨⟨cls2, dd2, data2, sl2⟩, ho2, hc2, n2, hd2⟩ := id hb
  simp only at hc hd hc2 hd2
  subst hc hd hc2 hd2
  have e : vs.toArray ++ ws.toArray = (vs ++ ws).toArray := by simp
  by_cases hw : ws = []
  · exact concat_meets ⟨_, ho, rfl⟩ ⟨_, ho2, rfl⟩ noFill_tuple_add seq_tuple_add PySem.F.slot_tuple_add PySem.F.entry_tuple_add (PySem.F.args_tuple_add_2 _ _)
      (tuple_addW1 t b vs.toArray ws.toArray n n2 dd dd2 sl sl2 (by simpa using hv) (by simp [hw])) ⟨ho, ho2, h1 hw⟩
  · refine concat_meets ⟨_, ho, rfl⟩ ⟨_, ho2, rfl⟩ noFill_tuple_add seq_tuple_add PySem.F.slot_tuple_add PySem.F.entry_tuple_add (PySem.F.args_tuple_add_2 _ _)
      (tuple_addW2 t b vs.toArray ws.toArray n n2 dd dd2 sl sl2 (by simpa using hv) (by simpa using hw) (by rw [List.size_toArray, List.size_toArray]; exact hsz)) ⟨ho, ho2, ?_⟩
    rw [e]
    exact h2 hw
noncomputable def sIx (n d : Nat) : Option Int → Nat
  | none => d
  | some v => if v < 0 then (v + (n : Int)).toNat else min v.toNat n
theorem sIx_none (n d : Nat) : sIx n d none = d := rfl
theorem sIx_nat (n d k : Nat) : sIx n d (some (k : Int)) = min k n := by
  show (if (k : Int) < 0 then ((k : Int) + (n : Int)).toNat else min (k : Int).toNat n) = min k n
  rw [if_neg (by omega), Int.toNat_natCast]
theorem sIx_le (n d : Nat) (hd : d ≤ n) (o : Option Int) : sIx n d o ≤ n := by
  cases o with
  | none => exact hd
  | some v =>
    show (if v < 0 then (v + (n : Int)).toNat else min v.toNat n) ≤ n
    by_cases hv : v < 0
    · rw [if_pos hv]; omega
    · rw [if_neg hv]; exact Nat.min_le_right _ _
theorem clip_eq (v : Int) (n d : Nat) : (if v < 0 then max (v + (n : Int)) 0 else min v (n : Int)) = ((sIx n d (some v) : Nat) : Int) := by
  show (if v < 0 then max (v + (n : Int)) 0 else min v (n : Int)) = (((if v < 0 then (v + (n : Int)).toNat else min v.toNat n) : Nat) : Int)
  by_cases hv : v < 0
  · simp only [if_pos hv]; omega
  · simp only [if_neg hv]; omega
theorem adjust_gen (lo hi : Option Int) (n : Nat) : Builtin.Slice.sliceAdjust lo hi 1 (n : Int) = (((sIx n 0 lo : Nat) : Int), ((sIx n n hi : Nat) : Int)) := by
  have h1 : ¬ ((1 : Int) < 0) := by omega
  unfold Builtin.Slice.sliceAdjust
  simp only [h1, if_false]
  refine Prod.ext ?_ ?_
  · cases lo with
    | none => rfl
    | some v => exact clip_eq v n 0
  · cases hi with
    | none => rfl
    | some v => exact clip_eq v n n
theorem places_gen (i j : Nat) : Builtin.Slice.slicePlaces (i : Int) (j : Int) 1 = j - i := by
  unfold Builtin.Slice.slicePlaces
  have h1 : (1 : Int) > 0 := by omega
  simp only [h1, if_true, Int.ediv_one]
  split <;> omega
theorem slicePart_ {v : Value} {o : Option Int} {Q : Option Int → Shared → Prop} (p : IsPart v o) (h : Q o s) : wpAny (model prog w) A (Builtin.Slice.slicePartIndex v) Q E s := by
  cases p with
  | none => exact slicePart_none h
  | int i t => exact slicePart_int h
theorem sliceApplied_gen {sl : Addr} {vl vu : Value} {lo hi : Option Int} {n : Nat} {Q : Int × Int × Nat → Shared → Prop} (hs : s.heap.IsSliceOf sl vl vu .none) (pl : IsPart vl lo) (pu : IsPart vu hi)
    (h : Q (((sIx n 0 lo : Nat) : Int), 1, sIx n n hi - sIx n 0 lo) s) : wpAny (model prog w) A (Builtin.Slice.sliceApplied (.ref sl) (pure (n : Int))) Q E s := by
  obtain ⟨os, hos, hcs, hds⟩ := id hs
  unfold Builtin.Slice.sliceApplied Builtin.Slice.sliceFields
  refine wpAny_bind (wpAny_bind (wpAny_field hos hds (x := vl) rfl (wpAny_bind (wpAny_field hos hds (x := vu) rfl (wpAny_bind (wpAny_field hos hds (x := .none) rfl (wpAny_pure ?_)))))))
  refine wpAny_bind (slicePart_none ?_)
  show wpAny _ _ (if ((1 : Int) == 0) = true then _ else _) _ _ s
  rw [if_neg (by decide)]
  refine wpAny_bind (slicePart_ pl (wpAny_bind (slicePart_ pu (wpAny_bind (wpAny_pure ?_)))))
  show wpAny _ _ (match Builtin.Slice.sliceAdjust lo hi 1 (n : Int) with | (lo, hi) => pure (lo, (1 : Int), Builtin.Slice.slicePlaces lo hi 1)) _ _ s
  rw [adjust_gen lo hi n]
  show wpAny _ _ (pure (((sIx n 0 lo : Nat) : Int), (1 : Int), Builtin.Slice.slicePlaces ((sIx n 0 lo : Nat) : Int) ((sIx n n hi : Nat) : Int) 1)) _ _ s
  rw [places_gen]
  exact wpAny_pure h
theorem pick_gen (xs : Array Value) (i k : Nat) : ((List.range k).filterMap fun (m : Nat) => xs[((i : Int) + (m : Int) * 1).toNat]?).toArray = ((xs.toList.drop i).take k).toArray := by
  have e : (fun (m : Nat) => xs[((i : Int) + (m : Int) * 1).toNat]?) = fun m => xs[i + m]? := by
    funext m
    have : ((i : Int) + (m : Int) * 1).toNat = i + m := by omega
    rw [this]
  rw [e]
  have := pick_run xs i k
  rw [List.filterMap_map] at this
  have e2 : ((fun x => xs[x]?) ∘ fun x => i + x) = fun m => xs[i + m]? := rfl
  rw [e2] at this
  rw [this]
theorem getItem_tuple_cut {t sl : Addr} {items : Array Value} {vl vu : Value} {lo hi : Option Int} {Q : Value → Shared → Prop} (ht : IsTup s.heap t items) (hs : s.heap.IsSliceOf sl vl vu .none) (pl : IsPart vl lo) (pu : IsPart vu hi)
    (hw : ¬ (sIx items.size 0 lo = 0 ∧ sIx items.size items.size hi = items.size))
    (h : Q (.ref s.heap.objs.size) { s with heap := s.heap.push { cls := .type "tuple", data := .seq ((items.toList.drop (sIx items.size 0 lo)).take (sIx items.size items.size hi - sIx items.size 0 lo)).toArray } })
    (hsz : items.size ≤ sizeLine) : wpAny (model prog w) A (getItem (.ref t) (.ref sl)) Q E s := by
  have htake : sizeOk (.seq ((items.toList.drop (sIx items.size 0 lo)).take (sIx items.size items.size hi - sIx items.size 0 lo)).toArray) := by
    show ((items.toList.drop (sIx items.size 0 lo)).take (sIx items.size items.size hi - sIx items.size 0 lo)).toArray.size ≤ sizeLine
    rw [List.size_toArray, List.length_take, List.length_drop, Array.length_toList]
    omega
  have hj : sIx items.size items.size hi ≤ items.size := sIx_le _ _ (Nat.le_refl _) hi
  obtain ⟨os, hos, hcs, hds⟩ := id hs
  have hTs : s.TypeIs (.ref sl) "slice" := ⟨os, hos, hcs⟩
  unfold getItem
  try with_reducible refine wpAny_holding ?_
  first | refine wpAny_bind (wpAny_pure ?_) | skip
  refine wpAny_bind (wpAny_sequenceKey ht.typeIs (by decide) ?_)
  refine wpAny_bind (wpAny_callSpecial?_slot (name := Str.ofString "__getitem__") ht.typeIs PyProof.Rows.slot_tuple_getitem
    (wpAny_call_entry PyProof.Rows.slot_tuple_getitem ht.typeIs entry_tuple_getitem ?_ (args_tuple_getitem _ _)))
  show wpAny _ _ (Builtin.Tuple.tupleItemsOf (.ref t) >>= _) _ _ s
  refine wpAny_bind (tupleItemsOf_ ht ?_)
  refine wpAny_bind (wpAny_typeOf hTs ?_)
  rw [if_pos (by decide)]
  refine wpAny_bind (sliceApplied_gen hs pl pu ?_)
  have hno : ¬ ((((sIx items.size 0 lo : Nat) : Int) == 0 && (1 : Int) == 1 && (sIx items.size items.size hi - sIx items.size 0 lo) == items.size) = true) := by
    intro q
    rw [Bool.and_eq_true, Bool.and_eq_true] at q
    have q1 : ((sIx items.size 0 lo : Nat) : Int) = 0 := eq_of_beq q.1.1
    have q2 : sIx items.size items.size hi - sIx items.size 0 lo = items.size := eq_of_beq q.2
    exact hw ⟨by omega, by omega⟩
  show wpAny _ _ (if (((sIx items.size 0 lo : Nat) : Int) == 0 && (1 : Int) == 1 && (sIx items.size items.size hi - sIx items.size 0 lo) == items.size) = true then _ else _) _ _ s
  rw [if_neg hno, pick_gen]
  first
    | exact wpAny_bind (m := Builtin.Tuple.tupleExact _) (wpAny_newObj_type (wpAny_pure ⟨_, rfl, wpAny_pure h⟩) htake)
    | exact wpAny_bind (m := Builtin.Tuple.tupleExact _) (wpAny_newObj_type (wpAny_bind (wpAny_pure (wpAny_pure ⟨_, rfl, wpAny_pure h⟩))) htake)
    | exact wpAny_bind (wpAny_bind (m := Builtin.Tuple.tupleExact _) (wpAny_newObj_type (wpAny_pure (wpAny_pure ⟨_, rfl, wpAny_pure h⟩)) htake))
    | exact wpAny_bind (wpAny_bind (m := Builtin.Tuple.tupleExact _) (wpAny_newObj_type (wpAny_pure ⟨_, rfl, wpAny_pure h⟩) htake))
end
end HT
namespace L2
open PySem PySem.Spec PyProof.Rows
noncomputable abbrev TO := St → Hp → (Option Int → Hp → Prop) → Prop
noncomputable def PO (X : Cx) (e : Option Expr) (t : TO) : Prop :=
  ∀ (pins : List (Addr × Obj)) (s : Shared) (σ : St) (H : Hp) (Q : Option Int → Hp → Prop), Inv X pins σ H s → t σ H Q →
    wpAny (model X.prog X.w) X.A (evalPart e X.env) (fun u s' => ∃ o H', Inv X pins σ H' s' ∧ IsPart u o ∧ Q o H') X.xe s
noncomputable def tNoPart : TO := fun _ H Q => Q none H
noncomputable def tPart (t : TE) : TO := fun σ H Q => t σ H fun x H1 => ∃ i, x = .int i ∧ Q (some i) H1
section
variable {X : Cx} {e : Expr} {te : TE} {lo hi : Option Expr} {tl th : TO} {pos p2 : Pos}
theorem po_none : PO X none tNoPart := by
  intro pins s σ H Q I h
  rw [evalPart_none]
  exact wpAny_pure ⟨none, H, I, .none, h⟩
theorem po_some (h : PE X e te) : PO X (some e) (tPart te) := by
  intro pins s σ H Q I hw
  rw [evalPart_some]
  refine thn (h pins s σ H _ I hw) fun u s1 ⟨x, H1, I1, r1, q1⟩ => ?_
  obtain ⟨i, rfl, q⟩ := q1
  obtain ⟨t, rfl⟩ := r1
  exact ⟨some i, H1, I1, .int i t, q⟩
noncomputable def SlR (X : Cx) (r : V → Option Int → Option Int → Hp → VK → Prop) : Prop :=
  ∀ (pins : List (Addr × Obj)) (s : Shared) (σ : St) (H : Hp) (x : V) (v vl vu : Value) (lo hi : Option Int) (sl : Addr) (Q : VK), Inv X pins σ H s → RelV x v → s.heap.IsSliceOf sl vl vu .none → IsPart vl lo → IsPart vu hi → r x lo hi H Q →
    ∃ T id, typeLookup (.type T) "__getitem__" = pure (some (.builtin id)) ∧ s.TypeIs v T ∧ wpAny (model X.prog X.w) X.A (getItem v (.ref sl)) (EP X pins σ Q) X.xe s
noncomputable def tSl (r : V → Option Int → Option Int → Hp → VK → Prop) (te : TE) (tl th : TO) : TE := fun σ H Q => te σ H fun x H1 => tl σ H1 fun l H2 => th σ H2 fun u H3 => r x l u H3 Q
theorem pe_slice {r : V → Option Int → Option Int → Hp → VK → Prop} (hr : SlR X r) (he : PE X e te) (hl : PO X lo tl) (hu : PO X hi th) : PE X (.Subscript e (.Slice lo hi none p2) pos) (tSl r te tl th) := by
  intro pins s σ H Q I h
  refine Subscript_ (thn (he pins s σ H _ I h) fun v s1 ⟨x, H1, I1, r1, q1⟩ => ?_)
  refine wpAny_Slice (thn (hl pins s1 σ H1 _ I1 q1) fun vl s2 ⟨l, H2, I2, pl, q2⟩ => thn (hu pins s2 σ H2 _ I2 q2) fun vu s3 ⟨u, H3, I3, pu, q3⟩ => ?_)
  rw [evalPart_none]
  refine wpAny_pure ?_
  have I4 : Inv X pins σ H3 { s3 with heap := s3.heap.push { cls := .type "slice", data := .fields #[vl, vu, .none] } } := I3.kept (t' := s3.toks) fun b ob q => Heap.get?_push_of_some _ q
  obtain ⟨T, id, hT, ht, hg⟩ := hr pins { s3 with heap := s3.heap.push { cls := .type "slice", data := .fields #[vl, vu, .none] } } σ H3 x v vl vu l u s3.heap.objs.size Q I4 r1 (Heap.IsSliceOf.new ..) pl pu q3
  show wpAny (model X.prog X.w) X.A (subscriptTail e (.Slice lo hi none p2) v (.ref s3.heap.objs.size)) (EP X pins σ Q) X.xe { s3 with heap := s3.heap.push { cls := .type "slice", data := .fields #[vl, vu, .none] } }
  exact tail_any (ops := [.ref s3.heap.objs.size, v]) ht hT hg (by with_unfolding_all rfl)
noncomputable def cutV (xs : List V) (lo hi : Option Int) : List V := (xs.drop (HT.sIx xs.length 0 lo)).take (HT.sIx xs.length xs.length hi - HT.sIx xs.length 0 lo)
theorem cutV_length (xs : List V) (lo hi : Option Int) : (cutV xs lo hi).length ≤ xs.length := by
  unfold cutV
  rw [List.length_take, List.length_drop]
  omega
noncomputable def rSlT (K : PySem.W.Frag) : V → Option Int → Option Int → Hp → VK → Prop := fun x lo hi H Q => ∃ a xs, x = .ref a ∧ SqT K H a xs ∧
  ¬ (HT.sIx xs.length 0 lo = 0 ∧ HT.sIx xs.length xs.length hi = xs.length) ∧ ∀ p, H p = none → Q (.ref p) (upd H p (.tup (cutV xs lo hi)))
theorem sl_tup : SlR X (rSlT X.K) := by
  intro pins s σ H x v vl vu lo hi sl Q I rx hs pl pu h
  obtain ⟨a, xs, rfl, hx, hw, q⟩ := h
  cases rx
  obtain ⟨its, r, ht, hz⟩ := I.tuple hx
  have hlen : its.toArray.size = xs.length := by rw [List.size_toArray]; exact r.length.symm
  refine ⟨"tuple", _, PyProof.Rows.slot_tuple_getitem.lookup, ht.typeIs, ?_⟩
  refine HT.getItem_tuple_cut ht hs pl pu (by rw [hlen]; exact hw) ?_ (by rw [hlen]; exact hz)
  rw [hlen]
  refine ⟨.ref s.heap.objs.size, _, I.laid (t' := s.toks) (o := .tup (cutV xs lo hi)) (fun b ob q => Heap.get?_push_of_some _ q) (Nat.le_refl _) ?_, rfl, q _ (I.hok.fresh (Nat.le_refl _))⟩
  exact ⟨Nat.le_trans (cutV_length xs lo hi) hz, _, (r.drop (HT.sIx xs.length 0 lo)).take (HT.sIx xs.length xs.length hi - HT.sIx xs.length 0 lo), IsTup.new _ _⟩
noncomputable def rCatT (K : PySem.W.Frag) : R2 := fun x y H Q => ∃ a b xs ys, x = .ref a ∧ y = .ref b ∧ SqT K H a xs ∧ SqT K H b ys ∧ xs ≠ [] ∧ xs.length + ys.length ≤ sizeLine ∧
  (ys = [] → Q (.ref a) H) ∧ (ys ≠ [] → ∀ p, H p = none → Q (.ref p) (upd H p (.tup (xs ++ ys))))
theorem Vals.nil_iff {xs : List V} {us : List Value} (r : Vals xs us) : us = [] ↔ xs = [] := by
  cases r with
  | nil => simp
  | cons _ _ => simp
theorem op_catT : OpR X (binaryOp .Add) (rCatT X.K) := by
  intro pins s σ H x y v u Q I rx ry h
  obtain ⟨a, b, xs, ys, rfl, rfl, ha, hb, hx, hz, q1, q2⟩ := h
  cases rx
  cases ry
  obtain ⟨its, r1, p1, _⟩ := I.tuple ha
  obtain ⟨its2, r2, p2, _⟩ := I.tuple hb
  refine HT.cat_tup p1 p2 (fun z => hx (r1.nil_iff.mp z)) (fun z => ⟨.ref a, H, I, rfl, q1 (r2.nil_iff.mp z)⟩) (fun z => ?_) (by rw [← r1.length, ← r2.length]; exact hz)
  refine ⟨.ref s.heap.objs.size, _, I.laid (t' := s.toks) (o := .tup (xs ++ ys)) (fun b ob q => Heap.get?_push_of_some _ q) (Nat.le_refl _) ?_, rfl, q2 (fun w => z (r2.nil_iff.mpr w)) _ (I.hok.fresh (Nat.le_refl _))⟩
  exact ⟨by rw [List.length_append]; exact hz, _, r1.append r2, IsTup.new _ _⟩
end
end L2
namespace L2
open PySem PySem.Spec PyProof.Rows
noncomputable def ixN (n : Nat) (i : Int) : Option Nat := if 0 ≤ i then (if i < n then some i.toNat else none) else if -(n : Int) ≤ i then some (i + n).toNat else none
noncomputable def atI {α : Type} (xs : List α) (i : Int) : Option α := (ixN xs.length i).bind fun j => xs[j]?
theorem ixN_seq {n : Nat} {i : Int} {j : Nat} (h : ixN n i = some j) : seqIndex? i n = some j ∧ j < n ∧ -(n : Int) ≤ i ∧ i < n := by
  unfold ixN at h
  by_cases h0 : 0 ≤ i
  · rw [if_pos h0] at h
    by_cases h1 : i < n
    · rw [if_pos h1] at h
      have e : i.toNat = j := Option.some.inj h
      exact ⟨by rw [seqIndex_of h0 h1, e], by omega, by omega, h1⟩
    · rw [if_neg h1] at h; cases h
  · rw [if_neg h0] at h
    by_cases h1 : -(n : Int) ≤ i
    · rw [if_pos h1] at h
      have e : (i + n).toNat = j := Option.some.inj h
      exact ⟨by rw [seqIndex_neg (by omega) h1, e], by omega, h1, by omega⟩
    · rw [if_neg h1] at h; cases h
theorem atI_get {α : Type} {xs : List α} {i : Int} {v : α} (h : atI xs i = some v) : ∃ j, seqIndex? i xs.length = some j ∧ xs[j]? = some v ∧ j < xs.length ∧ -(xs.length : Int) ≤ i ∧ i < xs.length := by
  unfold atI at h
  cases e : ixN xs.length i with
  | none => rw [e] at h; cases h
  | some j =>
    rw [e] at h
    obtain ⟨h1, h2, h3, h4⟩ := ixN_seq e
    exact ⟨j, h1, h, h2, h3, h4⟩
theorem atI_nat {α : Type} {xs : List α} {j : Nat} {v : α} (h : xs[j]? = some v) : atI xs (j : Int) = some v := by
  have hj : j < xs.length := (List.getElem?_eq_some_iff.mp h).1
  have e : ixN xs.length (j : Int) = some j := by
    unfold ixN
    rw [if_pos (by omega), if_pos (by omega)]; simp
  unfold atI; rw [e]; exact h
theorem atI_last {α : Type} (xs : List α) (v : α) : atI (xs ++ [v]) (-1) = some v := by
  have hl : (xs ++ [v]).length = xs.length + 1 := by simp
  have e : ixN (xs ++ [v]).length (-1) = some xs.length := by
    unfold ixN
    rw [hl, if_neg (by decide), if_pos (by omega)]
    congr 1
    omega
  unfold atI
  rw [e]
  show (xs ++ [v])[xs.length]? = some v
  simp
noncomputable def PlainIx (b : Expr) : Prop := ∀ o i, subscripted b false o i = operate [o, i] (getItem o i)
noncomputable def IxR (X : Cx) (r : R2) : Prop :=
  ∀ (value slice : Expr) (pins : List (Addr × Obj)) (s : Shared) (σ : St) (H : Hp) (x y : V) (v u : Value) (Q : VK), Inv X pins σ H s → RelV x v → RelV y u → r x y H Q →
    subscripted slice false v u = operate [v, u] (getItem v u) → wpAny (model X.prog X.w) X.A (subscriptTail value slice v u) (EP X pins σ Q) X.xe s
noncomputable def MtR (X : Cx) (id : String) (r : V → List V → Hp → VK → Prop) : Prop :=
  ∀ (pins : List (Addr × Obj)) (s : Shared) (σ : St) (H : Hp) (x : V) (xs : List V) (v : Value) (us : List Value) (Q : VK), Inv X pins σ H s → RelV x v → Vals xs us → r x xs H Q →
    wpAny (model X.prog X.w) X.A (call (.builtin id) (v :: us)) (EP X pins σ Q) X.xe s
section
variable {X : Cx} {a b : Expr} {ta tb : TE} {pos : Pos}
theorem pe_ix {r : R2} (hr : IxR X r) (ha : PE X a ta) (hb : PE X b tb) (hs : PlainIx b) : PE X (.Subscript a b pos) (tOp r ta tb) := by
  intro pins s σ H Q I h
  exact Subscript_ (binT ha hb I h fun v u s2 x y H2 I2 rx ry q => hr a b pins s2 σ H2 x y v u Q I2 rx ry q (hs _ _))
noncomputable def rIxL (K : PySem.W.Frag) : R2 := fun x y H Q => ∃ p xs i v, x = .ref p ∧ y = .int i ∧ SqL K H p xs ∧ atI xs i = some v ∧ Q v H
noncomputable def rIxT (K : PySem.W.Frag) : R2 := fun x y H Q => ∃ p xs i v, x = .ref p ∧ y = .int i ∧ SqT K H p xs ∧ atI xs i = some v ∧ Q v H
noncomputable def rIxS : R2 := fun x y H Q => ∃ z i c, x = .str z ∧ y = .int i ∧ z.length ≤ sizeLine ∧ atI z.cps.toList i = some c ∧ Q (.str ⟨#[c]⟩) H
theorem ix_list : IxR X (rIxL X.K) := by
  intro value slice pins s σ H x y v u Q I rx ry h hs
  obtain ⟨p, xs, i, z, rfl, rfl, hq, he, q⟩ := h
  cases rx
  obtain ⟨t, rfl⟩ := ry
  obtain ⟨its, r, pl, hz⟩ := I.list hq
  obtain ⟨j, h1, h2, h3, h4, h5⟩ := atI_get he
  obtain ⟨w, ew, rw'⟩ := r.get h2
  have hl := r.length
  have hn := line63
  have fin : EP X pins σ Q w s := ⟨z, H, I, rw', q⟩
  by_cases h0 : 0 ≤ i
  · have hj : i.toNat = j := by
      rw [seqIndex_of h0 h5] at h1
      exact Option.some.inj h1
    exact item_listR pl.isList h0 (by omega) (by rw [hj]; simpa using ew) fin hs
  · have hj : (i + (its.toArray.size : Int)).toNat = j := by
      rw [seqIndex_neg (by omega) h4] at h1
      rw [List.size_toArray, ← hl]
      exact Option.some.inj h1
    exact subscriptTail_builtinR (x := w) pl.isList.typeIs slot_list_getitem.lookup
      (wpAny_getItem_list_neg (Q := fun r s' => r = w ∧ EP X pins σ Q r s') pl.isList (by omega) (by rw [List.size_toArray] <;> omega) (by omega) (by rw [hj]; simpa using ew) ⟨rfl, fin⟩) hs
theorem ix_tup : IxR X (rIxT X.K) := by
  intro value slice pins s σ H x y v u Q I rx ry h hs
  obtain ⟨p, xs, i, z, rfl, rfl, hq, he, q⟩ := h
  cases rx
  obtain ⟨t, rfl⟩ := ry
  obtain ⟨its, r, pl, hz⟩ := I.tuple hq
  obtain ⟨j, h1, h2, h3, h4, h5⟩ := atI_get he
  obtain ⟨w, ew, rw'⟩ := r.get h2
  have hl := r.length
  have hn := line63
  have fin : EP X pins σ Q w s := ⟨z, H, I, rw', q⟩
  exact subscriptTail_builtinR (x := w) pl.typeIs slot_tuple_getitem.lookup
    (getItem_tuple (j := j) (Q := fun r s' => r = w ∧ EP X pins σ Q r s') pl (by omega) (by omega) (by rw [List.size_toArray, ← hl]; exact h1) (by simpa using ew) ⟨rfl, fin⟩) hs
theorem ix_str : IxR X rIxS := by
  intro value slice pins s σ H x y v u Q I rx ry h hs
  obtain ⟨z, i, c, rfl, rfl, hz, he, q⟩ := h
  obtain ⟨t, rfl⟩ := rx
  obtain ⟨t', rfl⟩ := ry
  obtain ⟨j, h1, h2, h3, h4, h5⟩ := atI_get he
  have hl : z.cps.toList.length = z.length := by simp [Str.length]
  rw [hl] at h1 h4 h5
  have hn := line63
  exact tail_any (typeIs_str s z t) slot_str_getitem.lookup (getItem_str (c := c) (by
    have e1 : decide (i < -(2 ^ 63 : Int)) = false := decide_eq_false (by omega)
    have e2 : decide (i ≥ 2 ^ 63) = false := decide_eq_false (by omega)
    rw [e1, e2, Bool.or_false]) (by rw [h1]; simpa using h2) ⟨.str ⟨#[c]⟩, H, I.tok _, ⟨_, rfl⟩, q⟩) hs
theorem call_list_of : CallR X (.type "list") (fun xs H Q => ∃ p ys, xs = [.ref p] ∧ (SqL X.K H p ys ∨ SqT X.K H p ys) ∧ ∀ l, H l = none → Q (.ref l) (upd H l (.lst ys))) := by
  intro pins s σ H xs us Q I r h
  obtain ⟨p, ys, rfl, hq, q⟩ := h
  obtain ⟨u, rfl, rx⟩ := vals1 r
  cases rx
  have fin : ∀ (its : List Value), Vals ys its → ys.length ≤ sizeLine → ∀ (h' : Heap) (c' : Nat), (∀ b o', s.heap.get? b = some o' → h'.get? b = some o') →
      h'.get? s.heap.objs.size = some { cls := .type "list", dict := none, data := .seq its.toArray c', slots := #[] } → EP X pins σ Q (.ref s.heap.objs.size) { s with heap := h' } := fun its r' hz h' c' kp e =>
    ⟨.ref s.heap.objs.size, _, I.laid (t' := s.toks) kp (Nat.le_refl _) (show ObjOk X.prog X.w _ h' _ (.lst ys) from ⟨hz, its, c', r', e⟩), rfl, q _ (I.hok.fresh (Nat.le_refl _))⟩
  rcases hq with hq | hq
  · obtain ⟨its, r', pl, hz⟩ := I.list hq
    have hlen := r'.length
    obtain ⟨o, ho, hc, n, hd⟩ := pl.isList
    exact call_list_seq p (.inl rfl) ho hc hd (fun h' c' kp e => fin its r' hz h' c' kp e) (by simp only [List.size_toArray] <;> omega)
  · obtain ⟨its, r', pl, hz⟩ := I.tuple hq
    have hlen := r'.length
    obtain ⟨o, ho, hc, n, hd⟩ := pl
    exact call_list_seq p (.inr rfl) ho hc hd (fun h' c' kp e => fin its r' hz h' c' kp e) (by simp only [List.size_toArray] <;> omega)
theorem call_tuple_of : CallR X (.type "tuple") (fun xs H Q => ∃ p ys, xs = [.ref p] ∧ ((SqL X.K H p ys ∧ ∀ l, H l = none → Q (.ref l) (upd H l (.tup ys))) ∨ (SqT X.K H p ys ∧ Q (.ref p) H))) := by
  intro pins s σ H xs us Q I r h
  obtain ⟨p, ys, rfl, h⟩ := h
  obtain ⟨u, rfl, rx⟩ := vals1 r
  cases rx
  rcases h with ⟨hq, q⟩ | ⟨hq, q⟩
  · obtain ⟨its, r', pl, hz⟩ := I.list hq
    have hlen := r'.length
    refine call_tuple_list pl.isList (fun h' kp => ?_) (by simp only [List.size_toArray] <;> omega)
    have I1 : Inv X pins σ H { s with heap := h' } := I.kept (t' := s.toks) kp
    have I2 : Inv X pins σ (upd H h'.objs.size (.tup ys)) { s with heap := h'.push { cls := .type "tuple", data := .seq its.toArray } } :=
      I1.laid (t' := s.toks) (fun b o e => Heap.get?_push_of_some _ e) (Nat.le_refl _) (show ObjOk X.prog X.w _ _ _ (.tup ys) from ⟨hz, its, r', IsTup.new _ _⟩)
    exact ⟨.ref h'.objs.size, _, I2, rfl, q _ (I1.hok.fresh (Nat.le_refl _))⟩
  · obtain ⟨its, r', pl, hz⟩ := I.tuple hq
    exact call_tuple_same pl ⟨.ref p, H, I, rfl, q⟩
noncomputable def tyV (K : PySem.W.Frag) (T : String) (x : V) (H : Hp) : Prop := match x with
  | .str _ => T = "str"
  | .int _ => T = "int"
  | .ref p => (T = "list" ∧ ∃ xs, SqL K H p xs) ∨ (T = "tuple" ∧ ∃ o, K.lookup p = some o ∧ o.cls = .type "tuple" ∧ o.dict = none) ∨
      (T = "dict" ∧ ((∃ kvs, H p = some (.dK kvs)) ∨ ∃ kvs, H p = some (.dT kvs))) ∨ (T = "set" ∧ ∃ S n, H p = some (.set S n))
  | _ => False
theorem tyV_is {pins : List (Addr × Obj)} {σ : St} {H : Hp} {s : Shared} {T : String} {x : V} {v : Value} (I : Inv X pins σ H s) (r : RelV x v) (ty : tyV X.K T x H) :
    s.TypeIs v T ∧ ∀ a, v = .ref a → ∃ ob, s.heap.get? a = some ob ∧ ob.dict = none := by
  cases x with
  | str z =>
    obtain ⟨t, rfl⟩ := r
    cases (show T = "str" from ty)
    exact ⟨typeIs_str s z t, fun _ e => nomatch e⟩
  | int i =>
    obtain ⟨t, rfl⟩ := r
    cases (show T = "int" from ty)
    exact ⟨typeIs_int s i t, fun _ e => nomatch e⟩
  | ref p =>
    cases r
    rcases ty with ⟨rfl, xs, hq⟩ | ⟨rfl, o, hk, hc, hd⟩ | ⟨rfl, hk⟩ | ⟨rfl, S, n, hk⟩
    · obtain ⟨its, _, pl, _⟩ := I.list hq
      refine ⟨pl.isList.typeIs, fun a e => ?_⟩
      cases e
      obtain ⟨o, n, e, c, hd, _⟩ := pl
      exact ⟨o, e, hd⟩
    · refine ⟨⟨o, I.kIn p o hk, hc⟩, fun a e => ?_⟩
      cases e
      exact ⟨o, I.kIn _ o hk, hd⟩
    · have z : ∃ o, s.heap.get? p = some o ∧ o.ExactDict := by
        rcases hk with ⟨kvs, hk⟩ | ⟨kvs, hk⟩
        · obtain ⟨_, _, _, _, o, _, _, e, ex, _⟩ := I.hok p _ hk
          exact ⟨o, e, ex⟩
        · obtain ⟨_, _, _, _, o, _, _, e, ex, _⟩ := I.hok p _ hk
          exact ⟨o, e, ex⟩
      obtain ⟨o, e, ex⟩ := z
      refine ⟨⟨o, e, ex.1⟩, fun a e2 => ?_⟩
      cases e2
      exact ⟨o, e, ex.2.1⟩
    · obtain ⟨o, _, _, _, e, ex, _⟩ := I.hok p _ hk
      refine ⟨⟨o, e, ex.1⟩, fun a e2 => ?_⟩
      cases e2
      exact ⟨o, e, ex.2.1⟩
  | _ => exact False.elim ty
noncomputable def tBM (K : PySem.W.Frag) (T : String) (r : V → List V → Hp → VK → Prop) (to : TE) (t : TA) : TE := fun σ H Q => to σ H fun x H1 => tyV K T x H1 ∧ t σ H1 fun xs H2 => r x xs H2 Q
variable {o e : Expr} {es : List Expr} {to : TE} {t : TA} {name : Str} {apos cpos : Pos} {T id : String} {r : V → List V → Hp → VK → Prop}
theorem pe_bm (pa : PlainAttrs T) (slot : Slot T name id) (hty : typeOf (.builtin id) = pure (.type "method_descriptor")) (hm : MtR X id r) (ho : PE X o to) (ha : PA X (e :: es) t)
    (hbase : attributeBase o name X.env (eval o X.env) = eval o X.env := by rfl)
    (hfew : ((backTo cpos (starEach (e :: es) X.env)).all (fun x => !x.1) && (backToKw cpos (keywordEach [] X.env)).all (fun x => x.1.isSome)
      && decide ((e :: es).length + ([] : List Keyword).length + (if ([] : List Keyword).isEmpty then 0 else 1) < 30)) = true := by rfl)
    (hline : (apos.endLine == cpos.line) = true := by rfl) (hs : starEach (e :: es) X.env = (false, eval e X.env) :: starEach es X.env := by rfl) (hplain : (backTo cpos (starEach es X.env)).any (·.1) = false := by rfl) :
    PE X (.Call (.Attribute o name apos) (e :: es) [] cpos) (tBM X.K T r to t) := by
  intro pins s σ H Q I h
  refine wpAny_Call_method_late hbase hfew hline rfl (thn (ho pins s σ H _ I h) fun v s1 ⟨x, H1, I1, r1, ty, q1⟩ => ?_)
  obtain ⟨h1, h2⟩ := tyV_is I1 r1 ty
  refine ⟨T, id, pa, slot, hty, h1, h2, ?_⟩
  have hA := ha cpos pins s1 σ H1 _ I1 q1
  rw [hs] at hA ⊢
  refine Calls.callWith_builtin (by show (false || (backTo cpos (starEach es X.env)).any (·.1)) = false; rw [hplain] <;> rfl) (Calls.evalArgs_plain ?_)
  exact thn hA fun us s2 ⟨vs, H2, I2, r2, q2⟩ => hm pins s2 σ H2 x vs v us Q I2 r1 r2 q2
/- xs.append(e), list.index on a module's tuple .. are MtR facts of 06m -/
end
end L2
namespace L2
open PySem PySem.Spec PyProof.Rows
noncomputable def MtM (X : Cx) (id : String) (r : V → List V → Hp → VK → Prop) : Prop :=
  ∀ (pins : List (Addr × Obj)) (s : Shared) (σ : St) (H : Hp) (x : V) (xs : List V) (v : Value) (us : List Value) (Q : VK), Inv X pins σ H s → RelV x v → Vals xs us → r x xs H Q →
    wpAny (model X.prog X.w) X.A (call (.builtin id) (v :: us)) (EP X pins σ Q) X.xe s
theorem Vals.one : ∀ {x : V} {us : List Value}, Vals [x] us → ∃ u, us = [u] ∧ RelV x u
  | _, _, .cons r .nil => ⟨_, rfl, r⟩
section
variable {X : Cx} {pins : List (Addr × Obj)} {σ : St} {H : Hp} {s : Shared} {l b : Addr} {xs ys zs : List V}
theorem Inv.lset {its its' : List Value} {n : Nat} {f : Array Value → Array Value} {t' : Nat} (I : Inv X pins σ H s) (hH : H l = some (.lst xs))
    (e : s.heap.get? l = some { cls := .type "list", data := .seq its.toArray n }) (hf : f its.toArray = its'.toArray) (hv : Vals ys its') (hz : ys.length ≤ sizeLine) :
    Inv X pins σ (upd H l (.lst ys)) { s with heap := s.heap.update l (Obj.mapSeq f), toks := t' } := by
  have q := PySem.IsL.update e f
  rw [hf] at q
  refine I.write (x := l) (e := l) (by rw [hH]; exact trivial) (.inl rfl) (fun b' u hb hu => (Heap.get?_update_other s.heap (Obj.mapSeq f) (Ne.symm hb)).trans hu) ⟨_, q⟩ ?_
  exact ⟨hz, its', _, hv, q⟩
theorem Inv.lstM (I : Inv X pins σ H s) (hH : H l = some (.lst xs)) : xs.length ≤ sizeLine ∧ ∃ (its : List Value) (n : Nat), Vals xs its ∧ xs.length = its.length ∧ s.heap.get? l = some { cls := .type "list", data := .seq its.toArray n } := by
  obtain ⟨z, its, n, r, e⟩ := I.hok l _ hH
  exact ⟨z, its, n, r, r.length, e⟩
theorem notLongL {n : Nat} (h : n ≤ sizeLine) : Builtin.List.listTooLong n = false := by
  unfold Builtin.List.listTooLong
  exact decide_eq_false (by omega)
end
section
variable {X : Cx}
noncomputable def rAppend : V → List V → Hp → VK → Prop := fun x vs H Q => ∃ l xs y, x = .ref l ∧ vs = [y] ∧ H l = some (.lst xs) ∧ xs.length < sizeLine ∧ Q .non (upd H l (.lst (xs ++ [y])))
theorem mt_append : MtM X "list.append" rAppend := by
  intro pins s σ H x vs v us Q I rx rv h
  obtain ⟨l, xs, y, rfl, rfl, hH, hz, q⟩ := h
  cases rx
  obtain ⟨u, rfl, ru⟩ := rv.one
  obtain ⟨z, its, n, r, hl, e⟩ := I.lstM hH
  refine call_meets F.slot_list_append ⟨_, e, rfl⟩ F.entry_list_append (F.args_list_append_2 _ _) (PySem.list_append l its.toArray n u (by rw [List.size_toArray]; omega)) ⟨e, ?_⟩
  refine ⟨.non, _, I.lset (its' := its ++ [u]) hH e (by simp) (r.append (.cons ru .nil)) ?_, rfl, q⟩
  rw [List.length_append, List.length_singleton]
  omega
noncomputable def rExtend : V → List V → Hp → VK → Prop := fun x vs H Q => ∃ l b xs zs, x = .ref l ∧ vs = [.ref b] ∧ H l = some (.lst xs) ∧ H b = some (.lst zs) ∧ xs.length + zs.length ≤ sizeLine ∧ Q .non (upd H l (.lst (xs ++ zs)))
theorem mt_extend : MtM X "list.extend" rExtend := by
  intro pins s σ H x vs v us Q I rx rv h
  obtain ⟨l, b, xs, zs, rfl, rfl, hH, hB, hz, q⟩ := h
  cases rx
  obtain ⟨u, rfl, ru⟩ := rv.one
  cases ru
  obtain ⟨z, its, n, r, hl, e⟩ := I.lstM hH
  obtain ⟨z2, its2, n2, r2, hl2, e2⟩ := I.lstM hB
  have hsz : its.toArray.size + its2.toArray.size ≤ sizeLine := by rw [List.size_toArray, List.size_toArray]; omega
  have hlong : ¬ (!its.toArray.isEmpty && Builtin.List.listTooLong (its.toArray.size + its2.toArray.size)) = true := by
    rw [notLongL hsz, Bool.and_false]
    exact Bool.false_ne_true
  refine call_meets F.slot_list_extend ⟨_, e, rfl⟩ F.entry_list_extend (F.args_list_extend_2 _ _)
    (AutoSeq1.list_extend_list_list_0 l its.toArray n b its2.toArray n2 hlong (by rw [List.size_toArray]; omega) (by omega)) ⟨e, e2, ?_⟩
  refine ⟨.non, _, I.lset (its' := its ++ its2) hH e (by simp) (r.append r2) ?_, rfl, q⟩
  rw [List.length_append]
  omega
end
section
variable {prog : Program} {w : World} {A : Around} {E : Value → Shared → Prop} {s : Shared}
set_option maxRecDepth 100000 in
end
section
variable {X : Cx}
end
end L2
namespace L2
open PySem PySem.Spec PyProof.Rows
theorem Vals.ints : ∀ {ns : List Int} {us : List Value}, Vals (ns.map V.int) us → IntsAre us ns
  | [], us, h => by
    rw [List.map_nil] at h
    cases h
    exact IntsAre.nil
  | n :: ns, us, h => by
    rw [List.map_cons] at h
    cases h with
    | cons r t =>
      obtain ⟨k, rfl⟩ := r
      exact IntsAre.cons n k (Vals.ints t)
theorem Vals.bls : ∀ {bs : List Bool} {us : List Value}, Vals (bs.map V.bl) us → us = bs.map Value.bool
  | [], us, h => by
    rw [List.map_nil] at h
    cases h
    rfl
  | b :: bs, us, h => by
    rw [List.map_cons] at h
    cases h with
    | cons r t =>
      cases r
      rw [Vals.bls t, List.map_cons]
theorem Vals.ref1 {a : Addr} {us : List Value} (r : Vals [V.ref a] us) : us = [Value.ref a] := by
  cases r with
  | cons r t =>
    cases t
    cases r
    rfl
theorem Vals.int2 {i j : Int} {us : List Value} (r : Vals [V.int i, V.int j] us) : ∃ t u, us = [Value.int i t, Value.int j u] := by
  cases r with
  | cons r t =>
    cases t with
    | cons r2 t2 =>
      cases t2
      obtain ⟨t, rfl⟩ := r
      obtain ⟨u, rfl⟩ := r2
      exact ⟨t, u, rfl⟩
section
variable {prog : Program} {w : World} {A : Around} {E : Value → Shared → Prop} {s : Shared} {l : Addr} {its : List Value} {ns : List Int} {Q : Value → Shared → Prop}
theorem sum_raw (hh : A.handled = none) (hl : s.heap.IsList l its.toArray) (hi : IntsAre its ns)
    (h : ∀ h' tk t', (∀ b o, s.heap.get? b = some o → h'.get? b = some o) → Q (.int ns.sum t') { s with heap := h', toks := tk }) : wpAny (model prog w) A (call (.builtin "sum") [.ref l]) Q E s := by
  obtain ⟨xs, e⟩ := hi.allInts.items
  have hn : numsOf (intItems xs).toList = ns := by rw [← e]; exact hi.numsOf
  rw [nums_intItems] at hn
  rw [e] at hl
  refine PySem.sum_intListG hh hl fun h' tk t' hk => ?_
  have := h h' tk t' hk
  rw [preSum_eq, List.take_of_length_le (by simp), hn]; exact this
end
section
variable {X : Cx}
noncomputable def rSum (K : PySem.W.Frag) : List V → Hp → VK → Prop := fun vs H Q => ∃ (a : Addr) (ns : List Int), vs = [V.ref a] ∧ SqL K H a (ns.map V.int) ∧ Q (.int ns.sum) H
theorem cr_sum (hc : X.calm = true) : CallR X (.builtin "sum") (rSum X.K) := by
  intro pins s σ H vs us Q I r h
  obtain ⟨a, ns, rfl, hs, q⟩ := h
  obtain ⟨its, rv, hl, _⟩ := I.list hs
  rw [Vals.ref1 r]
  exact sum_raw (I.ok.hd hc) hl.isList rv.ints fun h' tk t' hk => ⟨.int _, H, I.kept hk, ⟨_, rfl⟩, q⟩
end
section
variable {X : Cx}
end
section
variable {X : Cx}
end
theorem iter_any {prog : Program} {w : World} {A : Around} {E : Value → Shared → Prop} {s : Shared} {l : Addr} {items : Array Value} {Q : Value → Shared → Prop} (hl : s.heap.IsList l items)
    (h : ∀ s₂ : Shared, s₂ = { s with heap := s.heap.push { cls := .type "list_iterator", data := .fields #[.ref l, .int 0 0] } } →
      (s₂.heap.IsListIter s.heap.objs.size l 0 ∧ s₂.heap.IsList l items) → l ≠ s.heap.objs.size → Q (.ref s.heap.objs.size) s₂) : wpAny (model prog w) A (pyIter (.ref l)) Q E s := by
  have hlt : l < s.heap.objs.size := by obtain ⟨_, e, _⟩ := hl; exact Heap.lt_size e
  exact wpAny_pyIter_list hl (h _ rfl ⟨⟨_, Heap.get?_push_size _ rfl, rfl, rfl⟩, hl.push _⟩ (Nat.ne_of_lt hlt))
theorem truth_bools {prog : Program} {w : World} {A : Around} {bs : List Bool} {its : List Value} (e : its = bs.map Value.bool) :
    TruthOf prog w A (fun i v => its.toArray[i]? = some v) (fun i => bs.getD i false) := fun i v s Q E hv hq => by
  have hv' : its[i]? = some v := by simpa using hv
  rw [e, List.getElem?_map] at hv'
  obtain ⟨b, hb, rfl⟩ := Option.map_eq_some_iff.mp hv'
  have hg : bs.getD i false = b := by rw [List.getD_eq_getElem?_getD, hb] <;> rfl
  have hq' : Q (bs.getD i false) s := hq
  rw [hg] at hq'
  exact wpAny_truthy_bool hq'
theorem any_range : ∀ bs : List Bool, (List.range bs.length).any (fun i => bs.getD i false) = bs.any id
  | [] => rfl
  | b :: bs => by
    rw [List.length_cons, List.range_succ_eq_map, List.any_cons, List.any_map, List.any_cons, ← any_range bs]
    all_goals rfl
section
variable {X : Cx}
noncomputable def rAny (K : PySem.W.Frag) : List V → Hp → VK → Prop := fun vs H Q => ∃ (a : Addr) (bs : List Bool), vs = [V.ref a] ∧ SqL K H a (bs.map V.bl) ∧ Q (.bl (bs.any id)) H
theorem cr_any (hc : X.calm = true) : CallR X (.builtin "any") (rAny X.K) := by
  intro pins s σ H vs us Q I r h
  obtain ⟨a, bs, rfl, hs, q⟩ := h
  obtain ⟨its, rv, hl, _⟩ := I.list hs
  rw [Vals.ref1 r]
  have hb := rv.bls
  refine call_any_walk (iter_any hl.isList fun s₂ e2 st hne => ?_)
  subst e2
  refine ⟨_, _, _, _, _, _, _, rfl, Walks.list (A := X.A.in1) (I.ok.hd hc) _ a hne its.toArray, st, truth_bools hb, fun h' tk hk => ?_⟩
  refine ⟨.bl _, H, I.kept fun b o eo => hk b o (fun hmem => ?_) (Heap.get?_push_of_some _ eo), ?_, q⟩
  · rcases List.mem_cons.mp hmem with e1 | hmem
    · exact absurd (e1 ▸ Heap.lt_size eo) (Nat.lt_irrefl _)
    · cases hmem
  · show Value.bool _ = Value.bool _
    rw [← any_range, hb, List.size_toArray, List.length_map]
end
mutual
inductive Dp (K : PySem.W.Frag) (H : Hp) : V → PyData → Prop
  | non : Dp K H .non .none
  | bl (b : Bool) : Dp K H (.bl b) (.bool b)
  | int (i : Int) : Dp K H (.int i) (.int i)
  | str (x : Str) : Dp K H (.str x) (.str x)
  | lst {a : Addr} {xs : List V} {ds : List PyData} : SqL K H a xs → DpAll K H xs ds → Dp K H (.ref a) (.list ds)
  | tup {a : Addr} {xs : List V} {ds : List PyData} : SqT K H a xs → DpAll K H xs ds → Dp K H (.ref a) (.tuple ds)
inductive DpAll (K : PySem.W.Frag) (H : Hp) : List V → List PyData → Prop
  | nil : DpAll K H [] []
  | cons {v : V} {vs : List V} {d : PyData} {ds : List PyData} : Dp K H v d → DpAll K H vs ds → DpAll K H (v :: vs) (d :: ds)
end
section
variable {X : Cx} {pins : List (Addr × Obj)} {σ : St} {H : Hp} {s : Shared}
mutual
theorem Dp.reads (I : Inv X pins σ H s) : ∀ (d : PyData) (v : V) (u : Value), Dp X.K H v d → RelV v u → ∃ as, Reads s.heap u d as
  | .none, _, _, h, r => by
    cases h
    cases r
    exact ⟨_, Reads.none⟩
  | .bool b, _, _, h, r => by
    cases h
    cases r
    exact ⟨_, Reads.bool b⟩
  | .int i, _, _, h, r => by
    cases h
    obtain ⟨t, rfl⟩ := r
    exact ⟨_, Reads.int i t⟩
  | .str x, _, _, h, r => by
    cases h
    obtain ⟨t, rfl⟩ := r
    exact ⟨_, Reads.str x t⟩
  | .list ds, _, _, h, r => by
    cases h with
    | lst hs ha =>
      cases r
      obtain ⟨its, rv, ⟨o, n, ho, hc, _, hd⟩, _⟩ := I.list hs
      obtain ⟨as, hr⟩ := Dp.readsAll I ds _ its ha rv
      exact ⟨_, Reads.list ho hc hd hr⟩
  | .tuple ds, _, _, h, r => by
    cases h with
    | tup hs ha =>
      cases r
      obtain ⟨its, rv, ⟨o, ho, hc, n, hd⟩, _⟩ := I.tuple hs
      obtain ⟨as, hr⟩ := Dp.readsAll I ds _ its ha rv
      exact ⟨_, Reads.tuple ho hc hd hr⟩
  | .dict _, _, _, h, _ => by cases h
theorem Dp.readsAll (I : Inv X pins σ H s) : ∀ (ds : List PyData) (vs : List V) (us : List Value), DpAll X.K H vs ds → Vals vs us → ∃ as, ReadsAll s.heap us ds as
  | [], _, _, h, r => by
    cases h
    cases r
    exact ⟨_, ReadsAll.nil⟩
  | d :: ds, _, _, h, r => by
    cases h with
    | cons h1 h2 =>
      cases r with
      | cons r1 r2 =>
        obtain ⟨as, q1⟩ := Dp.reads I d _ _ h1 r1
        obtain ⟨bs, q2⟩ := Dp.readsAll I ds _ _ h2 r2
        exact ⟨_, ReadsAll.cons q1 q2⟩
end
end
section
variable {X : Cx}
end
end L2
namespace L2
open PySem PySem.Spec PyProof.Rows
noncomputable abbrev CellAt (h : Heap) (c : Addr) (v : Option Value) : Prop := h.IsCell c v
noncomputable def relS (scope sc : Scope) : Scope :=
  { scope with names := scope.names.map fun (n, k) => if (k == .free && sc.kind == .function && sc.names.lookup n == some .cell) then (n, .cell) else (n, k) }
noncomputable def cloFrom (cells : List (Str × Addr)) : List (Str × NameKind) → List (Str × Addr) → List (Str × Addr)
  | [], acc => acc
  | (n, k) :: r, acc => if k == .free then cloFrom cells r ((n, (cells.lookup n).getD 0) :: acc) else cloFrom cells r acc
theorem closure_loop (env : Env) (f : Str × NameKind → List (Str × Addr) → Sem (ForInStep (List (Str × Addr))))
    (hf : ∀ n k c, f (n, k) c = if k == .free then (do let a ← cellOf env n; pure (.yield ((n, a) :: c))) else pure (.yield c)) :
    ∀ (names : List (Str × NameKind)) (acc : List (Str × Addr)), (∀ y ∈ names, y.2 = .free → ∃ c, env.cells.lookup y.1 = some c) → forIn names acc f = pure (cloFrom env.cells names acc)
  | [], acc, _ => by rw [List.forIn_nil]; rfl
  | (n, k) :: r, acc, h => by
    rw [List.forIn_cons, hf]
    have ih := fun acc => closure_loop env f hf r acc fun y hy => h y (List.mem_cons_of_mem _ hy)
    unfold cloFrom
    by_cases hk : (k == NameKind.free) = true
    · rw [if_pos hk, if_pos hk]
      obtain ⟨c, hc⟩ := h (n, k) List.mem_cons_self (by simpa using hk)
      have e : cellOf env n = pure c := by unfold cellOf; rw [hc]
      rw [e]
      have e2 : (env.cells.lookup n).getD 0 = c := by rw [hc]; rfl
      rw [e2]
      exact ih _
    · rw [if_neg hk, if_neg hk]
      exact ih _
theorem closure_ok {scope : Scope} {env : Env} (h : ∀ y ∈ scope.names, y.2 = .free → ∃ c, env.cells.lookup y.1 = some c) : closureFor scope env = pure (cloFrom env.cells scope.names []) := by
  simp only [closureFor]
  rw [closure_loop env _ (fun n k c => rfl) scope.names [] h]
  rfl
theorem mem_lookup {α : Type} : ∀ {l : List (Str × α)} {n : Str} {c : α}, (n, c) ∈ l → ∃ c', l.lookup n = some c'
  | (k, v) :: r, n, c, h => by
    rw [List.lookup_cons]
    cases hb : n == k with
    | true => exact ⟨_, rfl⟩
    | false =>
      rcases List.mem_cons.mp h with e | h
      · cases e; simp at hb
      · exact mem_lookup h
theorem cloFrom_mem {cells : List (Str × Addr)} : ∀ {names : List (Str × NameKind)} {acc : List (Str × Addr)} {n : Str} {c : Addr}, (n, c) ∈ cloFrom cells names acc → (n, c) ∈ acc ∨ ((n, .free) ∈ names ∧ c = (cells.lookup n).getD 0)
  | [], _, _, _, h => .inl h
  | (m, k) :: r, acc, n, c, h => by
    unfold cloFrom at h
    split at h
    · rename_i hk
      have hk : k = .free := by simpa using hk
      rcases cloFrom_mem h with h | ⟨h1, h2⟩
      · rcases List.mem_cons.mp h with e | h
        · cases e; exact .inr ⟨hk ▸ List.mem_cons_self, rfl⟩
        · exact .inl h
      · exact .inr ⟨List.mem_cons_of_mem _ h1, h2⟩
    · rcases cloFrom_mem h with h | ⟨h1, h2⟩
      · exact .inl h
      · exact .inr ⟨List.mem_cons_of_mem _ h1, h2⟩
theorem cloFrom_acc {cells : List (Str × Addr)} : ∀ {names : List (Str × NameKind)} {acc : List (Str × Addr)} {p : Str × Addr}, p ∈ acc → p ∈ cloFrom cells names acc
  | [], _, _, h => h
  | (m, k) :: r, acc, p, h => by
    unfold cloFrom
    split
    · exact cloFrom_acc (List.mem_cons_of_mem _ h)
    · exact cloFrom_acc h
theorem cloFrom_has {cells : List (Str × Addr)} : ∀ {names : List (Str × NameKind)} {acc : List (Str × Addr)} {n : Str}, (n, .free) ∈ names → (n, (cells.lookup n).getD 0) ∈ cloFrom cells names acc
  | (m, k) :: r, acc, n, h => by
    unfold cloFrom
    rcases List.mem_cons.mp h with e | h
    · cases e
      exact cloFrom_acc List.mem_cons_self
    · split
      · exact cloFrom_has h
      · exact cloFrom_has h
theorem cells_mem : ∀ {names : List (Str × NameKind)} {h : Heap} {acc : List (Str × Addr)} {x : Str} {c : Addr}, (x, c) ∈ cellsFrom h.objs.size names acc →
    (x, c) ∈ acc ∨ ((x, .cell) ∈ names ∧ h.objs.size ≤ c ∧ CellAt (pushCells h names) c none)
  | [], _, _, _, _, h => .inl h
  | (n, k) :: r, h, acc, x, c, hm => by
    unfold cellsFrom at hm
    unfold pushCells
    split at hm
    · rename_i hk
      rw [if_pos hk]
      have hk : k = .cell := by simpa using hk
      rw [← Heap.size_push h { cls := .type "cell", data := .cell none }] at hm
      rcases cells_mem hm with hm | ⟨h1, h2, h3⟩
      · rcases List.mem_cons.mp hm with e | hm
        · cases e
          exact .inr ⟨hk ▸ List.mem_cons_self, Nat.le_refl _, _, pushCells_keeps r _ _ _ (Heap.get?_push_size _ rfl), rfl⟩
        · exact .inl hm
      · rw [Heap.size_push] at h2
        exact .inr ⟨List.mem_cons_of_mem _ h1, Nat.le_of_succ_le h2, h3⟩
    · rename_i hk
      rw [if_neg hk]
      rcases cells_mem hm with hm | ⟨h1, h2, h3⟩
      · exact .inl hm
      · exact .inr ⟨List.mem_cons_of_mem _ h1, h2, h3⟩
theorem cells_acc : ∀ {names : List (Str × NameKind)} {n : Nat} {acc : List (Str × Addr)} {p : Str × Addr}, p ∈ acc → p ∈ cellsFrom n names acc
  | [], _, _, _, h => h
  | (m, k) :: r, n, acc, p, h => by
    unfold cellsFrom
    split
    · exact cells_acc (List.mem_cons_of_mem _ h)
    · exact cells_acc h
theorem cells_has : ∀ {names : List (Str × NameKind)} {n : Nat} {acc : List (Str × Addr)} {x : Str}, (x, .cell) ∈ names → ∃ c, (x, c) ∈ cellsFrom n names acc
  | (m, k) :: r, n, acc, x, h => by
    unfold cellsFrom
    rcases List.mem_cons.mp h with e | h
    · cases e
      exact ⟨n, cells_acc List.mem_cons_self⟩
    · split
      · exact cells_has h
      · exact cells_has h
theorem cells_inj : ∀ {names : List (Str × NameKind)} {h : Heap} {acc : List (Str × Addr)} {x y : Str} {c : Addr}, (∀ p ∈ acc, p.2 < h.objs.size) → (∀ x y c, (x, c) ∈ acc → (y, c) ∈ acc → x = y) →
    (x, c) ∈ cellsFrom h.objs.size names acc → (y, c) ∈ cellsFrom h.objs.size names acc → x = y
  | [], _, _, _, _, _, _, hi, h1, h2 => hi _ _ _ h1 h2
  | (n, k) :: r, h, acc, x, y, c, hl, hi, h1, h2 => by
    unfold cellsFrom at h1 h2
    split at h1
    · rename_i hk
      rw [if_pos hk] at h2
      rw [← Heap.size_push h { cls := .type "cell", data := .cell none }] at h1 h2
      refine cells_inj (h := h.push _) (fun p hp => ?_) (fun x y c a b => ?_) h1 h2
      · rw [Heap.size_push]
        rcases List.mem_cons.mp hp with rfl | hp
        · exact Nat.lt_succ_self _
        · exact Nat.lt_succ_of_lt (hl p hp)
      · rcases List.mem_cons.mp a with e | a <;> rcases List.mem_cons.mp b with e' | b
        · cases e; cases e'; rfl
        · cases e; exact absurd (hl _ b) (Nat.lt_irrefl _)
        · cases e'; exact absurd (hl _ a) (Nat.lt_irrefl _)
        · exact hi _ _ _ a b
    · rename_i hk
      rw [if_neg hk] at h2
      exact cells_inj hl hi h1 h2
theorem newEnv_comp {M : Model} {A : Around} {E : Value → Shared → Prop} {s : Shared} {scope : Scope} {globals : Addr} {closure : List (Str × Addr)} {qual : Str} {func : Option Addr} {code : Value} {around : Env} {builtins : Addr} {Q : Env → Shared → Prop}
    (h : Q (newEnv scope s.heap.objs.size globals (cellsFrom (s.heap.objs.size + 1) scope.names closure) qual func code (some around) builtins)
      { s with heap := pushCells (s.heap.push { cls := .type "dict", data := .dict #[] }) scope.names }) :
    wpAny M A (newFunctionEnv scope globals closure [] qual func code (some around) builtins) Q E s := by
  simp only [newFunctionEnv, Option.isSome_some, if_true]
  refine wpAny_bind (wpAny_alloc ?_)
  refine wpAny_bind (wpAny_layCells _ (fun n k c => rfl) scope.names closure _ _ ?_)
  rw [show ({ s with heap := s.heap.push { cls := .type "dict", data := .dict #[] } } : Shared).heap.objs.size = s.heap.objs.size + 1 from Heap.size_push ..]
  rw [List.forIn_nil]
  exact wpAny_bind (wpAny_pure (wpAny_pure h))
theorem lookup_relS {sc : Scope} : ∀ {names : List (Str × NameKind)} {x : Str} {k : NameKind},
    (names.map fun (n, k) => if (k == NameKind.free && sc.kind == .function && sc.names.lookup n == some .cell) then (n, NameKind.cell) else (n, k)).lookup x = some k →
    ∃ k', names.lookup x = some k' ∧ (k = k' ∨ (k' = .free ∧ k = .cell))
  | [], _, _, h => by simp at h
  | (n, k₀) :: r, x, k, h => by
    have ih := @lookup_relS sc r x k
    have h' : List.lookup x ((if (k₀ == NameKind.free && sc.kind == .function && sc.names.lookup n == some .cell) = true then (n, NameKind.cell) else (n, k₀)) :: (r.map _)) = some k := h
    cases hx : x == n with
    | true =>
      simp only [List.lookup_cons, hx]
      by_cases hc : (k₀ == NameKind.free && sc.kind == .function && sc.names.lookup n == some .cell) = true
      · rw [if_pos hc] at h'
        simp only [List.lookup_cons, hx] at h'
        cases h'
        simp only [Bool.and_eq_true, beq_iff_eq] at hc
        exact ⟨k₀, rfl, .inr ⟨hc.1.1, rfl⟩⟩
      · rw [if_neg hc] at h'
        simp only [List.lookup_cons, hx] at h'
        cases h'
        exact ⟨_, rfl, .inl rfl⟩
    | false =>
      simp only [List.lookup_cons, hx]
      by_cases hc : (k₀ == NameKind.free && sc.kind == .function && sc.names.lookup n == some .cell) = true
      · rw [if_pos hc] at h'
        simp only [List.lookup_cons, hx] at h'
        exact ih h'
      · rw [if_neg hc] at h'
        simp only [List.lookup_cons, hx] at h'
        exact ih h'
structure BlkOk (N : List Str) (sc scope : Scope) (own : List (Str × Nat)) : Prop where
  kind : scope.kind = .function
  uniq : ∀ y ∈ scope.names, scope.names.lookup y.1 = some y.2
  ix : ∀ p ∈ own, N[p.2]? = some p.1
  free : ∀ y ∈ scope.names, y.2 = .free → sc.names.lookup y.1 = some .cell ∨ sc.names.lookup y.1 = some .free
  own : ∀ y ∈ scope.names, y.2 = .local ∨ y.2 = .cell → y.1 ∈ own.map (·.1) ∨ y.1 ∉ N
noncomputable def wipe (σ : St) : List Nat → St
  | [] => σ
  | v :: vs => (wipe σ vs).set v none
theorem wipe_length (σ : St) : ∀ vs : List Nat, (wipe σ vs).length = σ.length
  | [] => rfl
  | v :: vs => by unfold wipe; rw [List.length_set, wipe_length σ vs]
theorem wipe_some {σ : St} {i : Nat} {x : V} : ∀ {vs : List Nat}, (wipe σ vs)[i]? = some (some x) → σ[i]? = some (some x) ∧ i ∉ vs
  | [], h => ⟨h, by simp⟩
  | v :: vs, h => by
    unfold wipe at h
    by_cases hi : v = i
    · subst hi
      by_cases hv : v < (wipe σ vs).length
      · rw [List.getElem?_set_self hv] at h; cases h
      · rw [List.getElem?_eq_none (by simpa using hv)] at h; cases h
    · rw [List.getElem?_set_ne hi] at h
      obtain ⟨h1, h2⟩ := wipe_some h
      exact ⟨h1, by simp only [List.mem_cons, not_or]; exact ⟨fun e => hi e.symm, h2⟩⟩
noncomputable abbrev Cx.blk (X : Cx) (s : Shared) (H : Hp) (scope : Scope) (cenv : Env) (fp : List Addr) : Cx := { X with s_0 := s, H_0 := H, env := cenv, outer := X.stack, ex := fp, fn := fun x => scope.names.lookup x == some .cell, pn := [], xe := fun _ _ => False }
section
variable {X : Cx} {pins : List (Addr × Obj)} {σ : St} {H : Hp} {s : Shared}
theorem block_start {scope : Scope} {own : List (Str × Nat)} {fp : List Addr} (I : Inv X pins σ H s) (ok : BlkOk X.N X.env.scope scope own) (hN : X.N.Nodup) (hfp : ∀ b ∈ fp, FpOk X pins H b ∧ b < s.heap.objs.size) :
    Inv (X.blk s H scope (compEnvC scope (cellsFrom (s.heap.objs.size + 1) scope.names (cloFrom X.env.cells scope.names [])) s.heap.objs.size X.env) fp) [] (wipe σ (own.map (·.2))) H { s with heap := pushCells (s.heap.push { cls := .type "dict", data := .dict #[] }) scope.names } := by
  have hfree : ∀ y ∈ scope.names, y.2 = .free → ∃ c, X.env.cells.lookup y.1 = some c := fun y hy e => by
    rcases ok.free y hy e with k | k
    · exact I.ok.has _ (.inl k)
    · exact I.ok.has _ (.inr k)
  generalize hcenv : compEnvC scope (cellsFrom (s.heap.objs.size + 1) scope.names (cloFrom X.env.cells scope.names [])) s.heap.objs.size X.env = cenv
  have kp : ∀ b o, s.heap.get? b = some o → (pushCells (s.heap.push { cls := .type "dict", data := .dict #[] }) scope.names).get? b = some o := fun b o e => pushCells_keeps _ _ _ _ (Heap.get?_push_of_some _ e)
  have hL : cenv.locals = s.heap.objs.size := by rw [← hcenv]; rfl
  have hcl : cenv.cells = cellsFrom (s.heap.objs.size + 1) scope.names (cloFrom X.env.cells scope.names []) := by rw [← hcenv]; rfl
  have hsc : cenv.scope = relS scope X.env.scope := by rw [← hcenv]; rfl
  rw [← Heap.size_push s.heap { cls := .type "dict", data := .dict #[] }] at hcl
  have cm : ∀ {y c}, (y, c) ∈ cloFrom X.env.cells scope.names [] → X.env.cells.lookup y = some c ∧ c < s.heap.objs.size := fun {y c} hm => by
    rcases cloFrom_mem hm with hm | ⟨h1, rfl⟩
    · cases hm
    · obtain ⟨c, hc⟩ := hfree _ h1 rfl
      rw [hc]
      obtain ⟨w, z⟩ := I.cell _ _ hc
      exact ⟨rfl, z.lt⟩
  have mem : ∀ {y c}, cenv.cells.lookup y = some c → (X.env.cells.lookup y = some c ∧ c < s.heap.objs.size) ∨ (s.heap.objs.size + 1 ≤ c ∧ CellAt (pushCells (s.heap.push { cls := .type "dict", data := .dict #[] }) scope.names) c none) := fun {y c} e => by
    rw [hcl] at e
    rcases cells_mem (PySem.mem_of_lookup e) with hm | ⟨_, h2, h3⟩
    · exact .inl (cm hm)
    · rw [Heap.size_push] at h2; exact .inr ⟨h2, h3⟩
  have look : ∀ {y}, scope.names.lookup y = some .free → ∃ c, cenv.cells.lookup y = some c ∧ X.env.cells.lookup y = some c := fun {y} hl => by
    have hy : (y, NameKind.free) ∈ scope.names := PySem.mem_of_lookup hl
    obtain ⟨c', e'⟩ := mem_lookup (cells_acc (names := scope.names) (n := (s.heap.push { cls := .type "dict", data := .dict #[] }).objs.size) (cloFrom_has (cells := X.env.cells) (acc := []) hy))
    rw [← hcl] at e'
    refine ⟨c', e', ?_⟩
    rw [hcl] at e'
    rcases cells_mem (PySem.mem_of_lookup e') with hm | ⟨h1, _, _⟩
    · exact (cm hm).1
    · have := ok.uniq _ h1
      rw [hl] at this; cases this
  have okB : (X.blk s H scope cenv fp).Ok := by
    refine ⟨I.ok.mod, by show cenv.scope.kind = _; rw [hsc]; exact ok.kind, by show cenv.globals = _; rw [← hcenv]; exact I.ok.glob, by show cenv.builtins = _; rw [← hcenv]; exact I.ok.blt, by show s.heap.objs.size ≤ cenv.locals; rw [hL]; exact Nat.le_refl _,
      fun y z c e1 e2 => ?_, fun y hy => ?_, fun y c z e => ?_, I.ok.hd, I.ok.frames, .inl rfl, fun b hb => ⟨?_, fun y c e z => ?_⟩, I.bs, Nat.le_trans I.ok.bsz I.sz, fun b o e hb => ?_, fun b hb z => ?_, I.stack, I.stkFree⟩
    · have e1 : cenv.cells.lookup y = some c := e1
      have e2 : cenv.cells.lookup z = some c := e2
      rw [hcl] at e1 e2
      refine cells_inj (fun p hp => ?_) (fun y z c a b => I.ok.inj y z c (cm a).1 (cm b).1) (PySem.mem_of_lookup e1) (PySem.mem_of_lookup e2)
      rw [Heap.size_push]
      exact Nat.lt_succ_of_lt (cm (y := p.1) (c := p.2) hp).2
    · show ∃ c, cenv.cells.lookup y = some c
      have key : ∀ k, cenv.kindOf y = some k → (k = .cell ∨ k = .free) → ∃ c, cenv.cells.lookup y = some c := fun k hk hk' => by
        unfold Env.kindOf at hk
        rw [hsc] at hk
        obtain ⟨k', e, r⟩ := lookup_relS hk
        have : k' = .cell ∨ k' = .free := by
          rcases r with rfl | ⟨rfl, _⟩
          · exact hk'
          · exact .inr rfl
        rcases this with rfl | rfl
        · obtain ⟨c, hm⟩ := cells_has (n := (s.heap.push { cls := .type "dict", data := .dict #[] }).objs.size) (acc := cloFrom X.env.cells scope.names []) (PySem.mem_of_lookup e)
          obtain ⟨c', e'⟩ := mem_lookup hm
          exact ⟨c', by rw [hcl]; exact e'⟩
        · obtain ⟨c, h1, _⟩ := look e
          exact ⟨c, h1⟩
      rcases hy with hy | hy
      · exact key _ hy (.inl rfl)
      · exact key _ hy (.inr rfl)
    · have z : (scope.names.lookup y == some NameKind.cell) = true := z
      have z : scope.names.lookup y = some .cell := by simpa using z
      have e : cenv.cells.lookup y = some c := e
      rw [hcl] at e
      rcases cells_mem (PySem.mem_of_lookup e) with hm | ⟨_, h2, _⟩
      · rcases cloFrom_mem hm with hm | ⟨h1, _⟩
        · cases hm
        · have q := ok.uniq _ h1
          rw [z] at q; cases q
      · rw [Heap.size_push] at h2
        exact Nat.le_of_succ_le h2
    · show b ≠ cenv.locals
      rw [hL]; exact Nat.ne_of_lt (hfp b hb).2
    · have e : cenv.cells.lookup y = some c := e
      rcases mem e with ⟨h1, _⟩ | ⟨h1, _⟩
      · exact (hfp b hb).1.2.2.2.2.1 y c h1 z
      · have h2 : s.heap.objs.size + 1 ≤ b := by rw [← z]; exact h1
        exact absurd (Nat.lt_of_lt_of_le (hfp b hb).2 (Nat.le_of_succ_le h2)) (Nat.lt_irrefl _)
    · rcases (hfp b hb).1.2.2.2.1 with z | z
      · exact I.ok.noex b o e z
      · exact absurd (Nat.lt_of_lt_of_le (Heap.lt_size e) (Nat.le_trans I.ok.bsz z)) (Nat.lt_irrefl _)
    · rcases List.mem_cons.mp (I.stkSub b z) with z | z
      · exact (hfp b hb).1.2.1 z
      · exact (hfp b hb).1.2.2.1 z
  refine ⟨okB, rfl, I.bare, Un.kept kp, ⟨fun _ => none, ?_, fun i y av e1 e2 e3 => ?_⟩, fun y c e => ?_, ?_, fun y c e => ?_, fun p hp => ?_, I.hok.kept kp, by rw [wipe_length]; exact I.len⟩
  · show Heap.Ns _ cenv.locals _
    rw [hL]
    exact Heap.Ns.keeps (Heap.Ns.new ..) fun b o e => pushCells_keeps _ _ _ _ e
  · obtain ⟨e2, hne⟩ := wipe_some e2
    have hfr : scope.names.lookup y = some .free ∧ (cenv.kindOf y = some .cell ∨ cenv.kindOf y = some .free) := by
      have key : ∀ k, cenv.scope.names.lookup y = some k → k = .local ∨ k = .cell ∨ k = .free → scope.names.lookup y = some .free ∧ (cenv.kindOf y = some .cell ∨ cenv.kindOf y = some .free) := fun k hk hk' => by
        have hk0 := hk
        rw [hsc] at hk
        obtain ⟨k', e, r⟩ := lookup_relS hk
        have no : ¬ (k' = .local ∨ k' = .cell) := fun hh => by
          rcases ok.own _ (PySem.mem_of_lookup e) hh with e' | e'
          · obtain ⟨p, hp, hpy⟩ := List.mem_map.mp e'
            have e3 := ok.ix p hp
            have : p.1 = y := hpy
            rw [this] at e3
            exact hne (List.mem_map.mpr ⟨p, hp, nodup_ix hN e3 e1⟩)
          · exact e' (List.mem_of_getElem? e1)
        rcases r with rfl | ⟨rfl, rfl⟩
        · rcases hk' with rfl | rfl | rfl
          · exact absurd (.inl rfl) no
          · exact absurd (.inr rfl) no
          · exact ⟨e, .inr hk0⟩
        · exact ⟨e, .inl hk0⟩
      have e3 : Vis cenv.scope y := e3
      rcases e3 with e3 | e3 | e3
      · exact key _ e3 (.inl rfl)
      · exact key _ e3 (.inr (.inl rfl))
      · exact key _ e3 (.inr (.inr rfl))
    obtain ⟨m, hn, hl⟩ := I.loc
    have hvis : Vis X.env.scope y := (ok.free _ (PySem.mem_of_lookup hfr.1) rfl).elim (fun k => .inr (.inl k)) (fun k => .inr (.inr k))
    obtain ⟨w, r, q⟩ := hl i y av e1 e2 hvis
    refine ⟨w, r, .inr ⟨hfr.2, ?_⟩⟩
    obtain ⟨c, h1, h2⟩ := look hfr.1
    rcases q with ⟨k, _⟩ | ⟨_, c', e', z⟩
    · have k : X.env.scope.names.lookup y = some .local := k
      rcases ok.free _ (PySem.mem_of_lookup hfr.1) rfl with k' | k' <;> rw [show X.env.scope.names.lookup y = _ from k'] at k <;> cases k
    · rw [h2] at e'; cases e'
      exact ⟨c, h1, z.keeps kp⟩
  · have e : cenv.cells.lookup y = some c := e
    rcases mem e with ⟨h1, _⟩ | ⟨_, z⟩
    · obtain ⟨w, z⟩ := I.cell y c h1
      exact ⟨w, z.keeps kp⟩
    · exact ⟨_, z⟩
  · show H cenv.locals = none
    rw [hL]; exact I.hok.fresh (Nat.le_refl _)
  · have e : cenv.cells.lookup y = some c := e
    rcases mem e with ⟨h1, _⟩ | ⟨h1, _⟩
    · exact I.freeC y c h1
    · exact I.hok.fresh (Nat.le_of_succ_le h1)
  · exact absurd (show p ∈ ([] : List (Addr × Obj)) ++ [] from hp) (by simp)
theorem app_ok {E : Value → Shared → Prop} {D : Addr} {xs : List V} {y : V} {v : Value} {Q : Value → Shared → Prop} (I : Inv X pins σ H s) (hD : H D = some (.lst xs)) (hz : xs.length < sizeLine) (r : RelV y v)
    (h : ∀ s', Inv X pins σ (upd H D (.lst (xs ++ [y]))) s' → Q .none s') : wpAny (model X.prog X.w) X.A (call (.builtin "list.append") [.ref D, v]) Q E s := by
  obtain ⟨hz', its, n, ri, e⟩ := I.hok D _ hD
  have hl := ri.length
  refine append_at (hsz := by rw [List.size_toArray]; omega) e fun h' sb ho' => ?_
  refine h { s with heap := h' } (I.write (t' := s.toks) (by rw [hD]; trivial) (.inl rfl) (fun b u hb q => (sb.2 b hb).trans q) ⟨_, ho'⟩ ⟨by rw [List.length_append]; exact hz, its ++ [v], n + 1, ri.append (.cons r .nil), ?_⟩)
  rw [ho']
  simp
noncomputable def PTs (X : Cx) (ifs : List Expr) (t : TT) : Prop :=
  ∀ (pins : List (Addr × Obj)) (s : Shared) (σ : St) (H : Hp) (Q : Bool → Hp → Prop), Inv X pins σ H s → t σ H Q →
    wpAny (model X.prog X.w) X.A (forIn ifs true fun c r => if r = true then do let ok ← isTrue c X.env (eval c X.env); pure (ForInStep.yield ok) else pure (ForInStep.yield r)) (TP X pins σ Q) X.xe s
noncomputable def tYes : TT := fun _ H Q => Q true H
theorem pts_nil : PTs X [] tYes := fun _ _ _ H _ I h => wpAny_tests_nil ⟨H, I, h⟩
theorem pts_one {c : Expr} {t : TT} (h : PT X c t) : PTs X [c] t := fun pins s σ H Q I hw => wpAny_tests_one (h pins s σ H Q I hw)
end
theorem thnF {α : Type} {t : Sem α} {Q Q' : α → Shared → Prop} {M : Model} {A : Around} {E : Value → Shared → Prop} {s : Shared} (h : wpAny M A t Q (fun _ _ => False) s) (hQ : ∀ a s, Q a s → Q' a s) : wpAny M A t Q' E s := wpAny_mono h hQ fun _ _ z => False.elim z
theorem compLoop_any {prog : Program} {w : World} {A : Around} {R : Result → Shared → Prop} {s : Shared} {elt target iter : Expr} {ifs : List Expr} {scope : Scope} {pos : Pos} {it acc : Value} {env : Env} (I : Nat → Shared → Prop)
    (turn : ∀ n s, I n s → wpAny (model prog w) A (pyNext it) (fun r s₁ => match r with
      | none => R (.ok .next) s₁
      | some v => wpAny (model prog w) A (letOwnedTupleGo target it v) (fun _ s₁' => wpAny (model prog w) A (assign target env v) (fun _ s₂ =>
          wpAny (model prog w) A (forIn ifs true fun c r => if r = true then do let ok ← isTrue c env (eval c env); pure (ForInStep.yield ok) else pure (ForInStep.yield r)) (fun ok s₃ =>
            if ok = true then wpAny (model prog w) A (eval elt env) (fun x s₄ =>
              wpAny (model prog w) A (call (.builtin "list.append") [acc, x]) (fun _ s₅ => ∃ m, m < n ∧ I m s₅) (notedBy (model prog w) A env fun e s' => R (.error e) s') s₄) (notedBy (model prog w) A env fun e s' => R (.error e) s') s₃
            else ∃ m, m < n ∧ I m s₃) (notedBy (model prog w) A env fun e s' => R (.error e) s') s₂) (notedBy (model prog w) A env fun e s' => R (.error e) s') s₁') (notedBy (model prog w) A env fun e s' => R (.error e) s') s₁) (notedBy (model prog w) A env fun e s' => R (.error e) s') s)
    (n : Nat) (h : I n s) :
    codeAny (model prog w) A (.compLoop (.ListComp elt [⟨target, iter, ifs, 0⟩] scope pos) 0 it acc env) R s := by
  refine codeAny_loop rfl I (fun n s hI => ?_) n h
  show wpAny _ A ((compTurn (.ListComp elt [⟨target, iter, ifs, 0⟩] scope pos) 0 it acc env).onRaise (fun x => do noteFrame x env; theTreesLotGoes x)) _ _ s
  refine wpAny_noted ?_
  rw [compTurn_list]
  refine wpAny_bind (wpAny_standAt (wpAny_bind (wpAny_mono (turn n s hI) (fun r s₁ h₁ => ?_) fun _ _ h' => h')))
  cases r with
  | none => exact wpAny_pure h₁
  | some v =>
    refine wpAny_bind (wpAny_mono h₁ (fun _ s₁' h₁' => ?_) fun _ _ h' => h')
    refine wpAny_bind (wpAny_mono h₁' (fun _ s₂ h₂ => wpAny_bind (wpAny_mono h₂ (fun ok s₃ h₃ => ?_) fun _ _ h' => h')) fun _ _ h' => h')
    cases ok with
    | false => exact wpAny_pure ⟨rfl, h₃⟩
    | true =>
      exact wpAny_bind (wpAny_bind (wpAny_mono h₃ (fun x s₄ h₄ => wpAny_bind (wpAny_mono h₄ (fun _ s₅ h₅ => wpAny_pure (wpAny_pure ⟨rfl, h₅⟩)) fun _ _ h' => h')) fun _ _ h' => h'))
section
variable {X : Cx}
noncomputable def tLc (wi : TI) (g : TG) (tt : TT) (te : TE) (vs : List Nat) : TE := fun σ H Q => wi σ H fun J H1 => ∀ D, H1 D = none → ∃ W : Nat → Nat → Hp → Prop, (∃ m, W 0 m (upd H1 D (.lst []))) ∧ ∀ i m H, W i m H →
  (J.stop i H ∧ Q (.ref D) H) ∨ (J.go i H ∧ ∃ Nx : Hp → Prop, (∀ H', Nx H' → ∃ m', m' < m ∧ W (i + 1) m' H') ∧ ∀ x H', J.yld i H x H' → g x (wipe σ vs) H' fun σ2 H2 => wipe σ2 vs = wipe σ vs ∧ tt σ2 H2 fun b H3 =>
    if b = true then te σ2 H3 fun y H4 => ∃ acc, H4 D = some (.lst acc) ∧ acc.length < sizeLine ∧ Nx (upd H4 D (.lst (acc ++ [y]))) else Nx H3)
theorem lc_core {pins : List (Addr × Obj)} {s : Shared} {σ : St} {H : Hp} {Q : VK} {elt tg iter : Expr} {ifs : List Expr} {scope : Scope} {own : List (Str × Nat)} {pos pos' : Pos} {wi : TI} {g : TG} {tt : TT} {te : TE} {use : Option (Value → Sem Unit)} {Qf : Value → Shared → Prop}
    (hc : X.calm = true) (hN : X.N.Nodup) (I : Inv X pins σ H s) (hi : PI X tg iter wi) (ok : BlkOk X.N X.env.scope scope own)
    (hg : ∀ (s : Shared) (H : Hp) (C : Addr) (cl : List (Str × Addr)) (fp : List Addr), PG (X.blk s H scope (compEnvC scope cl C X.env) fp) tg g) (ht : ∀ (s : Shared) (H : Hp) (C : Addr) (cl : List (Str × Addr)) (fp : List Addr), PTs (X.blk s H scope (compEnvC scope cl C X.env) fp) ifs tt)
    (he : ∀ (s : Shared) (H : Hp) (C : Addr) (cl : List (Str × Addr)) (fp : List Addr), PE (X.blk s H scope (compEnvC scope cl C X.env) fp) elt te) (hs : ∀ x, foldedSetIterable iter X.env x = pure x)
    (h : tLc wi g tt te (own.map (·.2)) σ H Q)
    (hRR : ∀ D C s' m H', Inv X pins σ H' s' → Q (.ref D) H' → s'.heap.Ns C m → FpOk X pins H' C → compPost (model X.prog X.w) X.A X.xe use Qf (.ref D) C (.ok .next) s') :
    wpAny (model X.prog X.w) X.A (comprehension (.ListComp elt [⟨tg, iter, ifs, 0⟩] scope pos) scope X.env pos' (newList []) false (eval iter X.env) use) Qf X.xe s := by
  have hfree : ∀ y ∈ scope.names, y.2 = .free → ∃ c, X.env.cells.lookup y.1 = some c := fun y hy e => by
    rcases ok.free y hy e with k | k
    · exact I.ok.has _ (.inl k)
    · exact I.ok.has _ (.inr k)
  refine wpAny_comprehension_free (use := use) rfl hs (closure_ok hfree) ok.kind (fun y hy e => by rw [ok.uniq y hy, e])
    (thn (hi pins s σ H _ I h) fun xv s1 hx => thn hx fun itv s2 h2 => ?_)
  obtain ⟨it, fp, tn, J, H2, e, I2, T, st2, f2, q⟩ := h2
  subst e
  refine wpAny_newObj_type (newEnv_comp ?_) (by show 0 ≤ sizeLine; decide)
  generalize hD : s2.heap.objs.size = D
  have hDn : H2 D = none := I2.hok.fresh (Nat.le_of_eq hD)
  obtain ⟨W, ⟨m0, w0⟩, turn⟩ := q D hDn
  generalize hs3 : ({ s2 with heap := s2.heap.push { cls := .type "list", data := .seq ([] : List Value).toArray } } : Shared) = s3
  have I3 : Inv X pins σ (upd H2 D (.lst [])) s3 := by
    rw [← hs3]
    refine I2.laid (t' := s2.toks) (fun b o e => Heap.get?_push_of_some _ e) (Nat.le_of_eq hD) ⟨Nat.zero_le _, [], 0, .nil, ?_⟩
    rw [← hD]
    exact Heap.get?_push_size _ rfl
  have h3 : s3.heap = s2.heap.push { cls := .type "list", data := .seq ([] : List Value).toArray } := by rw [← hs3]
  have sz : ∀ b ∈ fp, b < s2.heap.objs.size := fun b hb => by
    obtain ⟨o, e, _⟩ := T.obj _ _ st2 b hb
    exact Heap.lt_size e
  have f3 : ∀ b ∈ fp, FpOk X pins (upd H2 D (.lst [])) b ∧ b < s3.heap.objs.size := fun b hb => by
    have hlt := sz b hb
    refine ⟨⟨?_, (f2 b hb).2⟩, by rw [h3, Heap.size_push]; exact Nat.lt_succ_of_lt hlt⟩
    rw [upd_ne (by rw [← hD]; exact Nat.ne_of_lt hlt)]
    exact (f2 b hb).1
  have st3 : tn 0 s3.heap := T.keep _ _ _ st2 fun b _ o e => by rw [h3]; exact Heap.get?_push_of_some _ e
  have I4 := block_start I3 ok hN f3
  have pg := hg s3 (upd H2 D (.lst [])) s3.heap.objs.size (cellsFrom (s3.heap.objs.size + 1) scope.names (cloFrom X.env.cells scope.names [])) fp
  have pt := ht s3 (upd H2 D (.lst [])) s3.heap.objs.size (cellsFrom (s3.heap.objs.size + 1) scope.names (cloFrom X.env.cells scope.names [])) fp
  have pe := he s3 (upd H2 D (.lst [])) s3.heap.objs.size (cellsFrom (s3.heap.objs.size + 1) scope.names (cloFrom X.env.cells scope.names [])) fp
  show codeAny _ _ (.compStart (.ListComp elt [⟨tg, iter, ifs, 0⟩] scope pos) 0 (.ref it) (.ref D) (compEnvC scope (cellsFrom (s3.heap.objs.size + 1) scope.names (cloFrom X.env.cells scope.names [])) s3.heap.objs.size X.env)) (compPost (model X.prog X.w) X.A X.xe use Qf (.ref D) s3.heap.objs.size) { s3 with heap := pushCells (s3.heap.push { cls := .type "dict", data := .dict #[] }) scope.names }
  have nfp : ∀ b ∈ fp, (upd H2 D (.lst [])) b = none := fun b hb => (f3 b hb).1.1
  generalize hce : compEnvC scope (cellsFrom (s3.heap.objs.size + 1) scope.names (cloFrom X.env.cells scope.names [])) s3.heap.objs.size X.env = ce at I4 pg pt pe ⊢
  have cL : ce.locals = s3.heap.objs.size := by subst hce; rfl
  generalize hH3 : upd H2 D (.lst []) = H3 at I3 I4 pg pt pe w0 nfp f3
  generalize hs4 : ({ s3 with heap := pushCells (s3.heap.push { cls := .type "dict", data := .dict #[] }) scope.names } : Shared) = s4 at I4 ⊢
  have st4 : tn 0 s4.heap := T.keep _ _ _ st3 fun b _ o e => by rw [← hs4]; exact pushCells_keeps _ _ _ _ (Heap.get?_push_of_some _ e)
  have stat : ∀ {σ' : St} {H' : Hp} {s' : Shared}, Inv (X.blk s3 H3 scope ce fp) [] σ' H' s' → (∀ b ∈ fp, H' b = none) → ∀ b ∈ fp, FpOk (X.blk s3 H3 scope ce fp) [] H' b := fun {σ' H' s'} I' hn b hb =>
    ⟨hn b hb, (I'.ok.exf b hb).1, I'.ok.exfs b hb, .inl hb, fun x c e => (I'.ok.exf b hb).2 x c e, fun p hp => absurd (show p ∈ ([] : List (Addr × Obj)) ++ [] from hp) (by simp)⟩
  have loop : codeAny (model X.prog X.w) X.A (.compLoop (.ListComp elt [⟨tg, iter, ifs, 0⟩] scope pos) 0 (.ref it) (.ref D) ce) (compPost (model X.prog X.w) X.A X.xe use Qf (.ref D) s3.heap.objs.size) s4 := by
    refine compLoop_any (fun n s' => ∃ i H', Inv (X.blk s3 H3 scope ce fp) [] (wipe σ (own.map (·.2))) H' s' ∧ tn i s'.heap ∧ (∀ b ∈ fp, H' b = none) ∧ W i n H') ?_ m0 ⟨0, H3, I4, st4, nfp, w0⟩
    rintro n s5 ⟨i, H5, I5, st5, n5, w5⟩
    rcases turn i n H5 w5 with ⟨stop, qq⟩ | ⟨go, Nx, hNx, step⟩
    · have td := T.done (X.blk s3 H3 scope ce fp) rfl rfl rfl hc i [] s5 _ H5 (fun _ _ => False) I5 (stat I5 n5) st5 stop
      refine thnF td fun r s6 ⟨hr, I6⟩ => ?_
      subst hr
      have I7 : Inv X pins σ H5 s6 := I3.call' (ch := fp) I6.os I6.base I6.hok I6.bare fun b hb => ⟨(f3 b hb).1.2.2.2.1, (f3 b hb).1.2.1, (f3 b hb).1.2.2.2.2.1, (f3 b hb).1.2.2.2.2.2⟩
      have nC : H5 s3.heap.objs.size = none := by
        have z : H5 ce.locals = none := I6.free
        rw [cL] at z
        exact z
      obtain ⟨m, hn, _⟩ := I6.loc
      have hn : s6.heap.Ns ce.locals m := hn
      rw [cL] at hn
      exact hRR D s3.heap.objs.size s6 m H5 I7 qq hn (I3.fpOk (Nat.le_refl _) nC)
    · have ti := T.item (X.blk s3 H3 scope ce fp) rfl rfl rfl hc i [] s5 _ H5 (fun _ _ => False) I5 (stat I5 n5) st5 go
      refine thnF ti fun r s6 ⟨u, hr, h6⟩ => ?_
      subst hr
      refine thnF h6 fun _ s7 ⟨x, H7, I7, r7, y7, st7, n7⟩ => ?_
      have I7' := I7.pinned (stat I7 n7) (T.obj _ _ st7)
      refine thnF (pg _ s7 _ H7 x u _ I7' r7 (step x H7 y7)) fun _ s8 ⟨σ8, H8, I8, hw8, q8⟩ => ?_
      refine thnF (pt _ s8 σ8 H8 _ I8 q8) fun b s9 ⟨H9, I9, q9⟩ => ?_
      have fin : ∀ {s' : Shared} {H' : Hp}, Inv (X.blk s3 H3 scope ce fp) ([] ++ pinsAt fp s7.heap) σ8 H' s' → Nx H' → ∃ m, m < n ∧ ∃ i H', Inv (X.blk s3 H3 scope ce fp) [] (wipe σ (own.map (·.2))) H' s' ∧ tn i s'.heap ∧ (∀ b ∈ fp, H' b = none) ∧ W i m H' := fun {s' H'} I' nx => by
        obtain ⟨m', hm, w'⟩ := hNx H' nx
        have pin' : ∀ b ∈ fp, ∀ o, s7.heap.get? b = some o → s'.heap.get? b = some o ∧ H' b = none := fun b hb o e =>
          let z := I'.pin (b, o) (List.mem_append_right _ (List.mem_append_right _ (mem_pinsAt hb e)))
          ⟨z.1, z.2.1⟩
        have hl : (wipe σ (own.map (·.2))).length = σ8.length := by rw [← hw8, wipe_length]
        refine ⟨m', hm, i + 1, H', (I'.unpinned (pins := [])).weak hl (fun j v e => ?_), T.keep _ _ _ st7 fun b hb o e => (pin' b hb o e).1, fun b hb => ?_, w'⟩
        · rw [← hw8] at e
          exact (wipe_some e).1
        · obtain ⟨o, e, _⟩ := T.obj _ _ st7 b hb
          exact (pin' b hb o e).2
      cases b with
      | false =>
        simp only [Bool.false_eq_true, if_false] at q9 ⊢
        exact fin I9 q9
      | true =>
        simp only [if_true] at q9 ⊢
        refine thnF (pe _ s9 σ8 H9 _ I9 q9) fun z s10 ⟨yv, H10, I10, r10, acc, hD10, hz10, nx⟩ => ?_
        exact app_ok (X := X.blk s3 H3 scope ce fp) I10 hD10 hz10 r10 fun s11 I11 => fin I11 nx
  exact codeAny_compStart_list loop (T.self X.A 0 _ _ _ st4 loop)
theorem pe_lc {elt tg iter : Expr} {ifs : List Expr} {scope : Scope} {own : List (Str × Nat)} {pos : Pos} {wi : TI} {g : TG} {tt : TT} {te : TE} (hc : X.calm = true) (hN : X.N.Nodup) (hi : PI X tg iter wi) (ok : BlkOk X.N X.env.scope scope own)
    (hg : ∀ (s : Shared) (H : Hp) (C : Addr) (cl : List (Str × Addr)) (fp : List Addr), PG (X.blk s H scope (compEnvC scope cl C X.env) fp) tg g) (ht : ∀ (s : Shared) (H : Hp) (C : Addr) (cl : List (Str × Addr)) (fp : List Addr), PTs (X.blk s H scope (compEnvC scope cl C X.env) fp) ifs tt)
    (he : ∀ (s : Shared) (H : Hp) (C : Addr) (cl : List (Str × Addr)) (fp : List Addr), PE (X.blk s H scope (compEnvC scope cl C X.env) fp) elt te) (hs : ∀ x, foldedSetIterable iter X.env x = pure x := by intro _; rfl) :
    PE X (.ListComp elt [⟨tg, iter, ifs, 0⟩] scope pos) (tLc wi g tt te (own.map (·.2))) := by
  intro pins s σ H Q I h
  rw [eval_ListComp]
  refine lc_core hc hN I hi ok hg ht he hs h fun D C s' m H' I' q hn f => ⟨m, hn, fun h'' sb => ?_⟩
  obtain ⟨f0, f1, f2, f3, f4, f5⟩ := f
  exact ⟨.ref D, H', I'.turned (t' := s'.toks) (fun b o hb e => (sb.2 b hb).trans e) f0 f1 f3 f4 f5, rfl, q⟩
theorem ps_setLc {i : Nat} {y : Str} {py : Pos} {elt tg iter : Expr} {ifs : List Expr} {scope : Scope} {own : List (Str × Nat)} {pos spos : Pos} {wi : TI} {g : TG} {tt : TT} {te : TE} (hc : X.calm = true) (hN : X.N.Nodup) (hy : X.N[i]? = some y) (hyl : X.env.scope.names.lookup y = some .local)
    (hsw : swapsWith (.ListComp elt [⟨tg, iter, ifs, 0⟩] scope pos) (some (.Name y py)) spos.line X.env = pure true) (hi : PI X tg iter wi) (ok : BlkOk X.N X.env.scope scope own)
    (hg : ∀ (s : Shared) (H : Hp) (C : Addr) (cl : List (Str × Addr)) (fp : List Addr), PG (X.blk s H scope (compEnvC scope cl C X.env) fp) tg g) (ht : ∀ (s : Shared) (H : Hp) (C : Addr) (cl : List (Str × Addr)) (fp : List Addr), PTs (X.blk s H scope (compEnvC scope cl C X.env) fp) ifs tt)
    (he : ∀ (s : Shared) (H : Hp) (C : Addr) (cl : List (Str × Addr)) (fp : List Addr), PE (X.blk s H scope (compEnvC scope cl C X.env) fp) elt te) (hs : ∀ x, foldedSetIterable iter X.env x = pure x := by intro _; rfl) :
    PS X (.Assign [.Name y py] (.ListComp elt [⟨tg, iter, ifs, 0⟩] scope pos) spos) (tAsg (tLc wi g tt te (own.map (·.2))) (gName i)) := by
  intro pins s σ H D I h
  rw [exec_Assign_Name_used _ _ _ _ hsw]
  refine wpAny_bind (wpAny_standAt (wpAny_bind ?_))
  show wpAny _ X.A (do let _ ← comprehension (.ListComp elt [⟨tg, iter, ifs, 0⟩] scope pos) scope X.env (firstIterPos [⟨tg, iter, ifs, 0⟩] pos) (newList []) false (eval iter X.env) (some (assign (.Name y py) X.env))) _ _ s
  have h : tLc wi g tt te (own.map (·.2)) σ H (fun x H1 => gName i x σ H1 D.nx) := h
  refine wpAny_bind (thn (lc_core (Qf := fun _ s' => SP X pins D .next s') hc hN I hi ok hg ht he hs h fun L C s' m H' I' q hn f => ?_) fun _ s' hq => wpAny_pure (wpAny_pure hq))
  show wpAny _ _ (assign (.Name y py) X.env (.ref L)) _ _ _
  refine wpAny_assign_Name (store_ok2 (v := V.ref L) I' hN hy (.inl hyl) rfl (fun s2 I2 ⟨a, sb, ha⟩ => ?_) (.inr hyl))
  obtain ⟨f0, f1, f2, f3, f4, f5⟩ := f
  have haC : C ≠ a := by
    rcases ha with z | z
    · rw [z]; exact f1
    · exact fun e => f4 y a z e.symm
  refine ⟨m, hn.sameBut sb haC, fun h3 sb3 => ?_⟩
  exact ⟨_, H', I2.turned (t' := s2.toks) (fun b o hb e => (sb3.2 b hb).trans e) f0 f1 f3 f4 f5, q⟩
theorem sw_true {elt : Expr} {gs : List Comprehension} {scope : Scope} {pos py : Pos} {y : Str} {l : Nat} {env : Env} (hk : env.scope.kind = .function) (hy : env.scope.names.lookup y = some .local) (hl : (py.line == pos.line) = true)
    (ha : (scope.names.any fun (n, k) => n == y && (k == .local || k == .cell)) = false) : swapsWith (.ListComp elt gs scope pos) (some (.Name y py)) l env = pure true := by
  have ky : env.kindOf y = some .local := hy
  have hb : env.blockKind = .function := by unfold Env.blockKind; rw [hk]; rfl
  unfold swapsWith
  simp only [hb, ky, ha, Expr.pos, hl]
  rfl
end
theorem lc_range {lo : Int} {n : Nat} {g : TG} {tt : TT} {te : TE} {vs : List Nat} {σ : St} {H1 : Hp} {D : Addr} {Qd : Hp → Prop} (Pv : Nat → Hp → Prop) (h0 : Pv 0 (upd H1 D (.lst [])))
    (hs : ∀ i H, i < n → Pv i H → g (.int (lo + i)) (wipe σ vs) H fun σ2 H2 => wipe σ2 vs = wipe σ vs ∧ tt σ2 H2 fun b H3 =>
      if b = true then te σ2 H3 fun y H4 => ∃ acc, H4 D = some (.lst acc) ∧ acc.length < sizeLine ∧ Pv (i + 1) (upd H4 D (.lst (acc ++ [y]))) else Pv (i + 1) H3) (hd : ∀ H, Pv n H → Qd H) :
    ∃ W : Nat → Nat → Hp → Prop, (∃ m, W 0 m (upd H1 D (.lst []))) ∧ ∀ i m H, W i m H →
      ((Itr lo n).stop i H ∧ Qd H) ∨ ((Itr lo n).go i H ∧ ∃ Nx : Hp → Prop, (∀ H', Nx H' → ∃ m', m' < m ∧ W (i + 1) m' H') ∧ ∀ x H', (Itr lo n).yld i H x H' → g x (wipe σ vs) H' fun σ2 H2 => wipe σ2 vs = wipe σ vs ∧ tt σ2 H2 fun b H3 =>
        if b = true then te σ2 H3 fun y H4 => ∃ acc, H4 D = some (.lst acc) ∧ acc.length < sizeLine ∧ Nx (upd H4 D (.lst (acc ++ [y]))) else Nx H3) := by
  refine ⟨fun i m H => m = n - i ∧ i ≤ n ∧ Pv i H, ⟨n, by simp, Nat.zero_le _, h0⟩, ?_⟩
  rintro i m H ⟨rfl, hi, p⟩
  by_cases hlt : i < n
  · refine .inr ⟨hlt, Pv (i + 1), fun H' p' => ⟨n - (i + 1), by omega, rfl, hlt, p'⟩, fun x H' y => ?_⟩
    obtain ⟨e, y⟩ := y
    subst e y
    exact hs i _ hlt p
  · have e : i = n := by omega
    subst e
    exact .inl ⟨Nat.le_refl _, hd H p⟩
theorem lc_list {K : PySem.W.Frag} {a : Addr} {xs : List V} {g : TG} {tt : TT} {te : TE} {vs : List Nat} {σ : St} {H1 : Hp} {D : Addr} {Qd : Hp → Prop} (Pv : Nat → Hp → Prop) (h0 : Pv 0 (upd H1 D (.lst []))) (hl : ∀ i H, i ≤ xs.length → Pv i H → SqL K H a xs)
    (hs : ∀ i x H, xs[i]? = some x → Pv i H → g x (wipe σ vs) H fun σ2 H2 => wipe σ2 vs = wipe σ vs ∧ tt σ2 H2 fun b H3 =>
      if b = true then te σ2 H3 fun y H4 => ∃ acc, H4 D = some (.lst acc) ∧ acc.length < sizeLine ∧ Pv (i + 1) (upd H4 D (.lst (acc ++ [y]))) else Pv (i + 1) H3) (hd : ∀ H, Pv xs.length H → Qd H) :
    ∃ W : Nat → Nat → Hp → Prop, (∃ m, W 0 m (upd H1 D (.lst []))) ∧ ∀ i m H, W i m H →
      ((Itl K a).stop i H ∧ Qd H) ∨ ((Itl K a).go i H ∧ ∃ Nx : Hp → Prop, (∀ H', Nx H' → ∃ m', m' < m ∧ W (i + 1) m' H') ∧ ∀ x H', (Itl K a).yld i H x H' → g x (wipe σ vs) H' fun σ2 H2 => wipe σ2 vs = wipe σ vs ∧ tt σ2 H2 fun b H3 =>
        if b = true then te σ2 H3 fun y H4 => ∃ acc, H4 D = some (.lst acc) ∧ acc.length < sizeLine ∧ Nx (upd H4 D (.lst (acc ++ [y]))) else Nx H3) := by
  refine ⟨fun i m H => m = xs.length - i ∧ i ≤ xs.length ∧ Pv i H, ⟨xs.length, by simp, Nat.zero_le _, h0⟩, ?_⟩
  rintro i m H ⟨rfl, hi, p⟩
  have q := hl i H hi p
  by_cases hlt : i < xs.length
  · refine .inr ⟨⟨xs, xs[i], q, by simp [hlt]⟩, Pv (i + 1), fun H' p' => ⟨xs.length - (i + 1), by omega, rfl, hlt, p'⟩, fun x H' y => ?_⟩
    obtain ⟨e, y⟩ := y
    subst e
    exact hs i x _ (y xs q) p
  · have e : i = xs.length := by omega
    subst e
    exact .inl ⟨⟨xs, q, Nat.le_refl _⟩, hd H p⟩
noncomputable def blkC (N : List Str) (sc scope : Scope) (own : List (Str × Nat)) : Bool :=
  (match scope.kind with | .function => true | _ => false) && (scope.names.all fun y => decide (scope.names.lookup y.1 = some y.2)) && (own.all fun p => decide (N[p.2]? = some p.1)) &&
    (scope.names.all fun y => match y.2 with
      | .free => (match sc.names.lookup y.1 with | some .cell => true | some .free => true | _ => false)
      | .local => decide (y.1 ∈ own.map (·.1)) || decide (y.1 ∉ N)
      | .cell => decide (y.1 ∈ own.map (·.1)) || decide (y.1 ∉ N)
      | _ => true)
theorem blkOk_by {N : List Str} {sc scope : Scope} {own : List (Str × Nat)} (h : blkC N sc scope own = true) : BlkOk N sc scope own := by
  unfold blkC at h
  simp only [Bool.and_eq_true, List.all_eq_true, decide_eq_true_eq] at h
  obtain ⟨⟨⟨h1, h2⟩, h3⟩, h4⟩ := h
  refine ⟨?_, h2, h3, fun y hy e => ?_, fun y hy e => ?_⟩
  · split at h1
    · assumption
    · cases h1
  · have q := h4 y hy
    simp only [e] at q
    split at q <;> first | exact .inl (by assumption) | exact .inr (by assumption) | cases q
  · have q := h4 y hy
    rcases e with e | e <;> (simp only [e, Bool.or_eq_true, decide_eq_true_eq] at q; exact q)
end L2
namespace L2
open PySem PySem.Spec PyProof.Rows
section
variable {prog : Program} {w : World} {A : Around} {R : Result → Shared → Prop} {s : Shared} {elt t0 i0 t1 i1 : Expr} {ifs0 ifs1 : List Expr} {scope : Scope} {pos : Pos} {it acc : Value} {env : Env}
end
section
variable {X : Cx}
end
end L2
namespace L2
open PySem PySem.Spec PyProof.Rows
section
variable {κ : Type} [DecidableEq κ]
noncomputable def valV (kvs : List (κ × V)) (k : κ) : Option V := (kvs.find? fun kv => decide (kv.1 = k)).map (·.2)
noncomputable def putK (kvs : List (κ × V)) (k : κ) (v : V) : List (κ × V) :=
  if (kvs.any fun kv => decide (kv.1 = k)) = true then kvs.map (fun kv => if kv.1 = k then (kv.1, v) else kv) else kvs ++ [(k, v)]
theorem valV_pos {p : κ × V} {r : List (κ × V)} {k : κ} (e : p.1 = k) : valV (p :: r) k = some p.2 := by simp [valV, List.find?_cons, e]
theorem valV_neg {p : κ × V} {r : List (κ × V)} {k : κ} (e : ¬ p.1 = k) : valV (p :: r) k = valV r k := by simp [valV, List.find?_cons, e]
theorem valV_any (k : κ) : ∀ kvs : List (κ × V), (kvs.any fun kv => decide (kv.1 = k)) = (valV kvs k).isSome
  | [] => rfl
  | p :: r => by
    rw [List.any_cons]
    by_cases e : p.1 = k
    · simp only [valV_pos e, decide_eq_true e, Bool.true_or, Option.isSome_some]
    · rw [valV_neg e, decide_eq_false e, Bool.false_or]; exact valV_any k r
theorem valV_map (k j : κ) (y : V) : ∀ kvs : List (κ × V), valV (kvs.map fun kv => if kv.1 = k then (kv.1, y) else kv) j = (valV kvs j).map fun x => if j = k then y else x
  | [] => rfl
  | p :: r => by
    have ih := valV_map k j y r
    rw [List.map_cons]
    by_cases h : p.1 = k
    · rw [if_pos h]
      by_cases e : p.1 = j
      · rw [valV_pos (p := (p.1, y)) e, valV_pos e, Option.map_some, if_pos (e.symm.trans h)]
      · rw [valV_neg (p := (p.1, y)) e, valV_neg e, ih]
    · rw [if_neg h]
      by_cases e : p.1 = j
      · rw [valV_pos (p := p) e, valV_pos e, Option.map_some, if_neg (fun z => h (e.trans z))]
      · rw [valV_neg (p := p) e, valV_neg e, ih]
theorem valV_snoc (k j : κ) (y : V) : ∀ kvs : List (κ × V), valV kvs k = none → valV (kvs ++ [(k, y)]) j = if j = k then some y else valV kvs j
  | [], _ => by
    by_cases e : k = j
    · rw [if_pos e.symm]; exact valV_pos (p := (k, y)) e
    · rw [if_neg (fun z => e z.symm)]; exact valV_neg (p := (k, y)) e
  | p :: r, hn => by
    rw [List.cons_append]
    have hk : ¬ p.1 = k := fun z => by rw [valV_pos z] at hn; cases hn
    rw [valV_neg hk] at hn
    have ih := valV_snoc k j y r hn
    by_cases e : p.1 = j
    · rw [valV_pos e, valV_pos e, if_neg (fun z => hk (e.trans z))]
    · rw [valV_neg e, valV_neg e, ih]
theorem valV_put (kvs : List (κ × V)) (k j : κ) (y : V) : valV (putK kvs k y) j = if j = k then some y else valV kvs j := by
  unfold putK
  by_cases a : (kvs.any fun kv => decide (kv.1 = k)) = true
  · rw [if_pos a, valV_map]
    rw [valV_any] at a
    by_cases e : j = k
    · obtain ⟨x, hx⟩ := Option.isSome_iff_exists.mp a
      rw [if_pos e, e, hx, Option.map_some, if_pos rfl]
    · rw [if_neg e]
      cases valV kvs j with
      | none => rfl
      | some x => rw [Option.map_some, if_neg e]
  · rw [if_neg a]
    refine valV_snoc k j y kvs ?_
    rw [valV_any] at a
    cases q : valV kvs k with
    | none => rfl
    | some x => rw [q] at a; exact (a rfl).elim
theorem length_putK (kvs : List (κ × V)) (k : κ) (v : V) : (putK kvs k v).length ≤ kvs.length + 1 := by
  unfold putK
  split
  · rw [List.length_map]; omega
  · rw [List.length_append, List.length_cons, List.length_nil]; omega
theorem RelO.isSome_eq {o : Option V} {u : Option Value} (r : RelO o u) : o.isSome = u.isSome := by
  cases o with
  | none => cases u with
    | none => rfl
    | some _ => exact (show False from r).elim
  | some _ => cases u with
    | none => exact (show False from r).elim
    | some _ => rfl
theorem KV.val {kvs : List (κ × V)} {vs : List (κ × Value)} (r : KV kvs vs) (k : κ) : RelO (valV kvs k) (valueAt vs k) := by
  unfold KV at r
  induction r with
  | nil => exact True.intro
  | @cons p q ps qs h t ih =>
    obtain ⟨h1, h2⟩ := h
    by_cases e : p.1 = k
    · have e' : q.1 = k := h1.symm.trans e
      have b : valueAt (q :: qs) k = some q.2 := by simp [valueAt, List.find?_cons, e']
      rw [valV_pos e, b]; exact h2
    · have e' : ¬ q.1 = k := fun z => e (h1.trans z)
      have b : valueAt (q :: qs) k = valueAt qs k := by simp [valueAt, List.find?_cons, e']
      rw [valV_neg e, b]; exact ih
theorem KV.any {kvs : List (κ × V)} {vs : List (κ × Value)} (r : KV kvs vs) (k : κ) : (kvs.any fun kv => decide (kv.1 = k)) = vs.any fun kv => decide (kv.1 = k) := by
  unfold KV at r
  induction r with
  | nil => rfl
  | cons h t ih => rw [List.any_cons, List.any_cons, ih, h.1]
theorem KV.repl {kvs : List (κ × V)} {vs : List (κ × Value)} (r : KV kvs vs) (k : κ) {y : V} {u : Value} (ry : RelV y u) :
    KV (kvs.map fun kv => if kv.1 = k then (kv.1, y) else kv) (vs.map fun kv => if kv.1 = k then (kv.1, u) else kv) := by
  unfold KV at r ⊢
  induction r with
  | nil => exact .nil
  | @cons p q ps qs h t ih =>
    rw [List.map_cons, List.map_cons]
    refine .cons ?_ ih
    obtain ⟨h1, h2⟩ := h
    by_cases e : p.1 = k
    · rw [if_pos e, if_pos (h1.symm.trans e)]; exact ⟨h1, ry⟩
    · rw [if_neg e, if_neg (fun z => e (h1.trans z))]; exact ⟨h1, h2⟩
theorem KV.put {kvs : List (κ × V)} {vs : List (κ × Value)} (r : KV kvs vs) (k : κ) {y : V} {u : Value} (ry : RelV y u) : KV (putK kvs k y) (stored vs k u) := by
  unfold putK stored
  rw [r.any k]
  by_cases e : (vs.any fun kv => decide (kv.1 = k)) = true
  · rw [if_pos e, if_pos e]; exact r.repl k ry
  · rw [if_neg e, if_neg e]; exact Paired.snoc r ⟨rfl, ry⟩
theorem KV.length {kvs : List (κ × V)} {vs : List (κ × Value)} (r : KV kvs vs) : kvs.length = vs.length := Paired.length r
end
theorem kV_is {P : Program} {w : World} {k : Key} {u : Value} (r : RelV (kV k) u) : (mixKind P w).is k u = true := by
  cases k with
  | inl i => obtain ⟨t, e⟩ := (show ∃ t, u = Value.int i t from r); subst e; exact mixKind_int P w i t
  | inr x => obtain ⟨t, e⟩ := (show ∃ t, u = Value.str x t from r); subst e; exact mixKind_str P w x t
theorem items_are {P : Program} {w : World} : ∀ {ks : List Key} {us : List Value}, Vals (ks.map kV) us → ItemsAre (mixKind P w) ks us
  | [], _, r => by rw [List.map_nil] at r; cases r; exact .nil
  | k :: ks, _, r => by
    rw [List.map_cons] at r
    cases r with
    | cons h t => exact .cons (kV_is h) (items_are t)
noncomputable abbrev KT (H : Hp) : List (List Key × V) → List (List Key × Addr × Value) → Prop := Paired fun p q => p.1 = q.1 ∧ H q.2.1 = some (.tup (p.1.map kV)) ∧ RelV p.2 q.2.2
theorem KT.val {H : Hp} {kvs : List (List Key × V)} {xs : List (List Key × Addr × Value)} (r : KT H kvs xs) (k : List Key) : RelO (valV kvs k) ((atKey xs k).map (·.2)) := by
  induction r with
  | nil => exact True.intro
  | @cons p q ps qs h t ih =>
    obtain ⟨h1, _, h2⟩ := h
    by_cases e : p.1 = k
    · have e' : q.1 = k := h1.symm.trans e
      have b : atKey (q :: qs) k = some q.2 := by simp [atKey, List.find?_cons, e']
      rw [valV_pos e, b]; exact h2
    · have e' : ¬ q.1 = k := fun z => e (h1.trans z)
      have b : atKey (q :: qs) k = atKey qs k := by simp [atKey, List.find?_cons, e']
      rw [valV_neg e, b]; exact ih
theorem KT.repl {H : Hp} {kvs : List (List Key × V)} {xs : List (List Key × Addr × Value)} (r : KT H kvs xs) (k : List Key) {y : V} {u : Value} (ry : RelV y u) :
    KT H (kvs.map fun kv => if kv.1 = k then (kv.1, y) else kv) (xs.map (putAt k u)) := by
  induction r with
  | nil => exact .nil
  | @cons p q ps qs h t ih =>
    rw [List.map_cons, List.map_cons]
    refine .cons ?_ ih
    obtain ⟨h1, h2, h3⟩ := h
    unfold putAt
    by_cases e : p.1 = k
    · rw [if_pos e, if_pos (h1.symm.trans e)]; exact ⟨h1, h2, ry⟩
    · rw [if_neg e, if_neg (fun z => e (h1.trans z))]; exact ⟨h1, h2, h3⟩
theorem KT.put {H : Hp} {kvs : List (List Key × V)} {xs : List (List Key × Addr × Value)} (r : KT H kvs xs) (k : List Key) {b : Addr} {y : V} {u : Value} (hb : H b = some (.tup (k.map kV))) (ry : RelV y u) :
    KT H (putK kvs k y) (storedH xs k b u) := by
  have e : (kvs.any fun kv => decide (kv.1 = k)) = (atKey xs k).isSome := by
    rw [valV_any, (r.val k).isSome_eq, Option.isSome_map]
  unfold putK storedH
  rw [e]
  by_cases q : (atKey xs k).isSome = true
  · rw [if_pos q, if_pos q]; exact r.repl k ry
  · rw [if_neg q, if_neg q]; exact Paired.snoc r ⟨rfl, hb, ry⟩
theorem KT.keeps {H H' : Hp} {kvs : List (List Key × V)} {xs : List (List Key × Addr × Value)} (r : KT H kvs xs) (ht : ∀ b ys, H b = some (.tup ys) → H' b = some (.tup ys)) : KT H' kvs xs :=
  Paired.mapP r fun _ _ z => ⟨z.1, ht _ _ z.2.1, z.2.2⟩
section
variable {P : Program} {w : World} {H : Hp} {h : Heap} {a : Addr}
theorem rd_of {u : HO} (ok : HOk P w H h) (e : Rd H a u) : ObjOk P w H h a u := e.ok ok
theorem dk_rd {kvs : List (Key × V)} (ok : HOk P w H h) (e : Rd H a (.dK kvs)) : kvs.length ≤ sizeLine ∧ (a == sysModules) = false ∧ ∃ vs, KV kvs vs ∧ h.DictOf (mixKind P w) a vs :=
  show ObjOk P w H h a (.dK kvs) from rd_of ok e
theorem dk_of {kvs : List (Key × V)} (ok : HOk P w H h) (e : H a = some (.dK kvs)) : kvs.length ≤ sizeLine ∧ (a == sysModules) = false ∧ ∃ vs, KV kvs vs ∧ h.DictOf (mixKind P w) a vs := dk_rd ok (.inl e)
theorem key_of {ks : List Key} (ok : HOk P w H h) (e : H a = some (.tup (ks.map kV))) : (tupleKind (mixKind P w)).is h ks a := by
  obtain ⟨_, its, r, o, h1, h2, n, h3⟩ := (show ObjOk P w H h a (.tup (ks.map kV)) from ok a _ e)
  exact ⟨o, its.toArray, n, h1, h2, h3, by simpa using items_are r⟩
theorem dt_rd {kvs : List (List Key × V)} (ok : HOk P w H h) (e : Rd H a (.dT kvs)) : kvs.length ≤ sizeLine ∧ (a == sysModules) = false ∧
    ∃ xs, KT H kvs xs ∧ h.DictOfH (tupleKind (mixKind P w)) a xs := by
  obtain ⟨z, y, xs, r, o, es, ep, h1, h2, h3, h4, h5⟩ := (show ObjOk P w H h a (.dT kvs) from rd_of ok e)
  refine ⟨z, y, xs, r, o, es, ep, h1, h2, h3, h4, fun x hx => ?_, h5⟩
  have all : ∀ {l : List (List Key × V)} {m : List (List Key × Addr × Value)}, KT H l m → ∀ x ∈ m, (tupleKind (mixKind P w)).is h x.1 x.2.1 := by
    intro l m q
    induction q with
    | nil => intro x hx; exact nomatch hx
    | @cons p q ps qs hq t ih =>
      intro x hx
      rcases List.mem_cons.mp hx with e | hx
      · subst e
        exact key_of ok (by rw [← hq.1]; exact hq.2.1)
      · exact ih x hx
  exact all r x hx
theorem dt_of {kvs : List (List Key × V)} (ok : HOk P w H h) (e : H a = some (.dT kvs)) : kvs.length ≤ sizeLine ∧ (a == sysModules) = false ∧
    ∃ xs, KT H kvs xs ∧ h.DictOfH (tupleKind (mixKind P w)) a xs := dt_rd ok (.inl e)
end
noncomputable def DGet (H : Hp) (a : Addr) (y : V) (r : Option V) : Prop :=
  (∃ kvs k, Rd H a (.dK kvs) ∧ y = kV k ∧ r = valV kvs k) ∨ ∃ kvs k b, Rd H a (.dT kvs) ∧ y = .ref b ∧ H b = some (.tup (k.map kV)) ∧ r = valV kvs k
noncomputable def DPut (H : Hp) (a : Addr) (y v : V) (H' : Hp) : Prop :=
  (∃ kvs k, H a = some (.dK kvs) ∧ y = kV k ∧ kvs.length < sizeLine ∧ H' = upd H a (.dK (putK kvs k v))) ∨
  ∃ kvs k b, H a = some (.dT kvs) ∧ y = .ref b ∧ H b = some (.tup (k.map kV)) ∧ kvs.length < sizeLine ∧ H' = upd H a (.dT (putK kvs k v))
theorem DGet.t {H : Hp} {a b : Addr} {kvs : List (List Key × V)} {k : List Key} (e : H a = some (.dT kvs)) (eb : H b = some (.tup (k.map kV))) : DGet H a (.ref b) (valV kvs k) := .inr ⟨kvs, k, b, .inl e, rfl, eb, rfl⟩
theorem DPut.t {H : Hp} {a b : Addr} {kvs : List (List Key × V)} {k : List Key} {v : V} (e : H a = some (.dT kvs)) (eb : H b = some (.tup (k.map kV))) (hl : kvs.length < sizeLine) :
    DPut H a (.ref b) v (upd H a (.dT (putK kvs k v))) := .inr ⟨kvs, k, b, e, rfl, eb, hl, rfl⟩
section
variable {X : Cx} {pins : List (Addr × Obj)} {σ : St} {H : Hp} {s : Shared} {a : Addr} {y v : V} {u r : Value} {o : Option V} {A : Around} {E : Value → Shared → Prop}
theorem Inv.big (I : Inv X pins σ H s) : sysModules < s.heap.objs.size := by
  have h : mainGlobals < s.heap.objs.size := (I.mod.glob.keeps I.bk).lt
  exact Nat.lt_trans (by decide) h
theorem d_getItem {Q : Value → Shared → Prop} (hu : A.units + 1 < cLine) (I : Inv X pins σ H s) (g : DGet H a y (some v)) (ry : RelV y u) (h : ∀ w' s', Inv X pins σ H s' → RelV v w' → Q w' s') :
    wpAny (model X.prog X.w) A (getItem (.ref a) u) Q E s := by
  rcases g with ⟨kvs, k, e, ey, l⟩ | ⟨kvs, k, b, e, ey, eb, l⟩
  · subst ey
    obtain ⟨z, hd, vs, rel, dd⟩ := dk_rd I.hok e
    obtain ⟨w', hw, rw'⟩ := RelO.some_of (v := v) (o := valueAt vs k) (by rw [l]; exact rel.val k)
    exact wpAny_getItem_of (kV_is ry) dd.mapOf hw (h w' _ (I.tok _) rw')
  · subst ey
    cases (show u = Value.ref b from ry)
    obtain ⟨z, hd, xs, rel, dd⟩ := dt_rd I.hok e
    obtain ⟨w', hw, rw'⟩ := RelO.some_of (v := v) (o := (atKey xs k).map (·.2)) (by rw [l]; exact rel.val k)
    obtain ⟨p, hp, hp2⟩ := Option.map_eq_some_iff.mp hw
    refine wpAny_getItem_heap (tupleKind_room_in1 hu) (key_of I.hok eb) dd hp ?_
    rw [hp2]
    exact h w' _ (I.tok _) rw'
theorem d_in {Q : Value → Shared → Prop} (hu : A.units + 1 < cLine) (I : Inv X pins σ H s) (g : DGet H a y o) (ry : RelV y u) (h : ∀ s', Inv X pins σ H s' → Q (.bool o.isSome) s') :
    wpAny (model X.prog X.w) A (compareOp .In u (.ref a)) Q E s := by
  rcases g with ⟨kvs, k, e, ey, l⟩ | ⟨kvs, k, b, e, ey, eb, l⟩
  · subst ey
    obtain ⟨z, hd, vs, rel, dd⟩ := dk_rd I.hok e
    refine wpAny_in_of (kV_is ry) hd dd.mapOf ?_
    rw [← (rel.val k).isSome_eq, ← l]
    exact h _ (I.tok _)
  · subst ey
    cases (show u = Value.ref b from ry)
    obtain ⟨z, hd, xs, rel, dd⟩ := dt_rd I.hok e
    refine wpAny_in_heap (tupleKind_room_in1 hu) (key_of I.hok eb) hd dd ?_
    have q := (rel.val k).isSome_eq
    rw [Option.isSome_map] at q
    rw [← q, ← l]
    exact h _ (I.tok _)
theorem d_notIn {Q : Value → Shared → Prop} (hu : A.units + 1 < cLine) (I : Inv X pins σ H s) (g : DGet H a y o) (ry : RelV y u) (h : ∀ s', Inv X pins σ H s' → Q (.bool (!o.isSome)) s') :
    wpAny (model X.prog X.w) A (compareOp .NotIn u (.ref a)) Q E s := by
  rcases g with ⟨kvs, k, e, ey, l⟩ | ⟨kvs, k, b, e, ey, eb, l⟩
  · subst ey
    obtain ⟨z, hd, vs, rel, dd⟩ := dk_rd I.hok e
    refine wpAny_notIn_of (kV_is ry) hd dd.mapOf ?_
    rw [← (rel.val k).isSome_eq, ← l]
    exact h _ (I.tok _)
  · subst ey
    cases (show u = Value.ref b from ry)
    obtain ⟨z, hd, xs, rel, dd⟩ := dt_rd I.hok e
    refine wpAny_notIn_heap (tupleKind_room_in1 hu) (key_of I.hok eb) hd dd ?_
    have q := (rel.val k).isSome_eq
    rw [Option.isSome_map] at q
    rw [← q, ← l]
    exact h _ (I.tok _)
theorem d_write {h' : Heap} {t' : Nat} {ob : HO} (I : Inv X pins σ H s) (mu : Mut (H a)) (hs : Heap.SameBut a s.heap h') (he : ∃ q, h'.get? a = some q) (new : ObjOk X.prog X.w (upd H a ob) h' a ob) :
    Inv X pins σ (upd H a ob) { s with heap := h', toks := t' } :=
  I.write (x := a) (e := a) mu (.inl rfl) (fun b q hb z => (hs.2 b hb).trans z) he new
theorem dk_new {P : Program} {w : World} {H' : Hp} {h' : Heap} {kvs : List (Key × V)} {vs : List (Key × Value)} (z : kvs.length ≤ sizeLine) (hd : (a == sysModules) = false) (rel : KV kvs vs) (dd : h'.DictOf (mixKind P w) a vs) :
    ObjOk P w H' h' a (.dK kvs) := ⟨z, hd, vs, rel, dd⟩
theorem d_setItem {H' : Hp} {Q : Unit → Shared → Prop} (hu : A.units + 1 < cLine) (I : Inv X pins σ H s) (g : DPut H a y v H') (ry : RelV y u) (rv : RelV v r) (h : ∀ s', Inv X pins σ H' s' → Q () s') :
    wpAny (model X.prog X.w) A (setItem (.ref a) u r) Q E s := by
  rcases g with ⟨kvs, k, e, ey, l, eH⟩ | ⟨kvs, k, b, e, ey, eb, l, eH⟩
  · subst ey eH
    obtain ⟨z, hd, vs, rel, dd⟩ := dk_of I.hok e
    have hz : vs.length ≤ sizeLine := by rw [← rel.length]; exact z
    have hl : (putK kvs k v).length ≤ sizeLine := by have := length_putK kvs k v; omega
    refine wpAny_setItem_pairs (hsz := hz) (kV_is ry) dd fun h' dd' hs => h _ ?_
    have he : ∃ q, h'.get? a = some q := let ⟨q, _, _, hq, _⟩ := dd'; ⟨q, hq⟩
    exact d_write I (by rw [e]; exact True.intro) hs he (dk_new hl hd (rel.put k rv) dd')
  · subst ey eH
    cases (show u = Value.ref b from ry)
    obtain ⟨z, hd, xs, rel, dd⟩ := dt_of I.hok e
    have hz : xs.length ≤ sizeLine := by rw [← Paired.length rel]; exact z
    have hl : (putK kvs k v).length ≤ sizeLine := by have := length_putK kvs k v; omega
    refine wpAny_setItem_heap (hsz := hz) (tupleKind_room_in1 hu) (key_of I.hok eb) dd fun h' dd' hs => h _ ?_
    obtain ⟨q, es, ep, hq, h2, h3, h4, _, h5⟩ := dd'
    refine d_write I (by rw [e]; exact True.intro) hs ⟨q, hq⟩ ⟨hl, hd, _, (rel.put k eb rv).keeps fun c ys ec => ?_, q, es, ep, hq, h2, h3, h4, h5⟩
    rw [upd_ne (ne_of ec e (fun z => nomatch z))]
    exact ec
end
section
variable {X : Cx} {pins : List (Addr × Obj)} {σ : St} {H : Hp} {s : Shared} {a : Addr} {kvs : List (Key × V)} {k : Key} {u : Value} {A : Around} {E : Value → Shared → Prop}
end
noncomputable def NoSl (i : Expr) : Prop := ∀ ov iv, subscripted i false ov iv = operate [ov, iv] (getItem ov iv)
theorem subD_of {prog : Program} {w : World} {A : Around} {E : Value → Shared → Prop} {s : Shared} {env : Env} {value slice : Expr} {pos : Pos} {T id : String} {Q : Value → Shared → Prop}
    (hl : typeLookup (.type T) "__getitem__" = pure (some (.builtin id))) (hs : NoSl slice)
    (h : wpAny (model prog w) A (eval value env) (fun o s₁ => wpAny (model prog w) A (eval slice env) (fun i s₂ => s₂.TypeIs o T ∧ wpAny (model prog w) A (getItem o i) Q E s₂) E s₁) E s) :
    wpAny (model prog w) A (eval (.Subscript value slice pos) env) Q E s := by
  refine Subscript_ (wpAny_mono h (fun o s₁ h₁ => wpAny_mono h₁ (fun i s₂ h₂ => ?_) fun _ _ x => x) fun _ _ x => x)
  obtain ⟨hT, h₂⟩ := h₂
  unfold subscriptTail
  refine wpAny_bind ?_
  rw [getitemInPython_of_ne hT.not_modules]
  refine wpAny_bind (wpAny_specialOf hT hl ?_)
  have fin : wpAny (model prog w) A (subscripted slice false o i) (fun r s₃ => wpAny (model prog w) A (letTemporaryGo value o r >>= fun _ => pure r) Q E s₃) E s₂ := by
    rw [hs o i]
    exact wpAny_operating (wpAny_mono h₂ (fun r s₃ h₃ => wpAny_bind (wpAny_letTemporaryGo (wpAny_pure h₃))) fun _ _ x => x)
  first
    | exact wpAny_pure (wpAny_bind fin)
    | exact wpAny_bind (wpAny_pure (wpAny_bind fin))
    | exact wpAny_bind fin
theorem dict_typeIs {X : Cx} {pins : List (Addr × Obj)} {σ : St} {H : Hp} {s : Shared} {a : Addr} {y : V} {o : Option V} (I : Inv X pins σ H s) (g : DGet H a y o) : s.TypeIs (.ref a) "dict" := by
  rcases g with ⟨kvs, k, e, _, _⟩ | ⟨kvs, k, b, e, _, _, _⟩
  · obtain ⟨_, _, vs, _, dd⟩ := dk_rd I.hok e
    exact dd.typeIs
  · obtain ⟨_, _, xs, _, dd⟩ := dt_rd I.hok e
    exact dd.typeIs
noncomputable def tDGet (td ty : TE) : TE := fun σ H Q => td σ H fun x H1 => ty σ H1 fun y H2 => ∃ a v, x = .ref a ∧ DGet H2 a y (some v) ∧ Q v H2
noncomputable def tDIn (ty td : TE) : TE := fun σ H Q => ty σ H fun y H1 => td σ H1 fun x H2 => ∃ a o, x = .ref a ∧ DGet H2 a y o ∧ Q (.bl o.isSome) H2
noncomputable def tDNotIn (ty td : TE) : TE := fun σ H Q => ty σ H fun y H1 => td σ H1 fun x H2 => ∃ a o, x = .ref a ∧ DGet H2 a y o ∧ Q (.bl (!o.isSome)) H2
noncomputable def sDPut (td ty tv : TE) : TS := fun D σ H => tv σ H fun v H1 => td σ H1 fun x H2 => ty σ H2 fun y H3 => ∃ a H4, x = .ref a ∧ DPut H3 a y v H4 ∧ D.nx σ H4
section
variable {X : Cx} {o i e value : Expr} {pos pos' tpos : Pos} {td ty tv : TE}
theorem pe_dget (hu : X.A.units + 1 < cLine) (ho : PE X o td) (hi : PE X i ty) (hs : NoSl i) : PE X (.Subscript o i pos) (tDGet td ty) := by
  intro pins s σ H Q I h
  refine subD_of PySem.F.slot_dict_getitem.lookup hs (thn (ho pins s σ H _ I h) fun u s1 ⟨x, H1, I1, rx, q1⟩ => thn (hi pins s1 σ H1 _ I1 q1) fun iv s2 ⟨y, H2, I2, ry, a, v, ex, g, q2⟩ => ?_)
  subst ex
  obtain rfl : u = Value.ref a := rx
  exact ⟨dict_typeIs I2 g, d_getItem hu I2 g ry fun w' s3 I3 rw' => ⟨v, H2, I3, rw', q2⟩⟩
theorem pc_din (hu : X.A.units + 1 < cLine) (hi : PE X i ty) (ho : PE X o td) : PC X .In i o (tDIn ty td) := by
  intro pins s σ H Q I h
  refine thn (hi pins s σ H _ I h) fun iv s1 ⟨y, H1, I1, ry, q1⟩ => thn (ho pins s1 σ H1 _ I1 q1) fun u s2 ⟨x, H2, I2, rx, a, ov, ex, g, q2⟩ => ?_
  subst ex
  obtain rfl : u = Value.ref a := rx
  exact d_in hu I2 g ry fun s3 I3 => ⟨.bl ov.isSome, H2, I3, rfl, q2⟩
theorem pc_dnotin (hu : X.A.units + 1 < cLine) (hi : PE X i ty) (ho : PE X o td) : PC X .NotIn i o (tDNotIn ty td) := by
  intro pins s σ H Q I h
  refine thn (hi pins s σ H _ I h) fun iv s1 ⟨y, H1, I1, ry, q1⟩ => thn (ho pins s1 σ H1 _ I1 q1) fun u s2 ⟨x, H2, I2, rx, a, ov, ex, g, q2⟩ => ?_
  subst ex
  obtain rfl : u = Value.ref a := rx
  exact d_notIn hu I2 g ry fun s3 I3 => ⟨.bl (!ov.isSome), H2, I3, rfl, q2⟩
theorem ps_dput (hu : X.A.units + 1 < cLine) (ho : PE X o td) (hi : PE X i ty) (hv : PE X value tv) (hs : swapsWith value (some (.Subscript o i pos')) pos.line X.env = pure false) :
    PS X (.Assign [.Subscript o i pos'] value pos) (sDPut td ty tv) := by
  intro pins s σ H D I h
  refine wpAny_Assign_Subscript (thn (hv pins s σ H _ I h) fun r s1 ⟨v, H1, I1, rv, q1⟩ => thn (ho pins s1 σ H1 _ I1 q1) fun u s2 ⟨x, H2, I2, rx, q2⟩ => thn (hi pins s2 σ H2 _ I2 q2) fun iv s3 ⟨y, H3, I3, ry, a, H4, ex, g, q3⟩ => ?_) hs
  subst ex
  obtain rfl : u = Value.ref a := rx
  exact d_setItem hu I3 g ry rv fun s4 I4 => ⟨σ, H4, I4, q3⟩
end
theorem dt_empty {P : Program} {w : World} {H : Hp} (h : Heap) (hb : sysModules < h.objs.size) : ObjOk P w H (h.push { cls := .type "dict", data := .dict #[] }) h.objs.size (.dT []) :=
  ⟨Nat.zero_le _, beq_eq_false_iff_ne.mpr (Ne.symm (Nat.ne_of_lt hb)), [], .nil, _, #[], 0, Heap.get?_push_size _ rfl, ⟨rfl, rfl, rfl⟩, rfl, rfl, List.nodup_nil⟩
noncomputable def tDNewT : TE := fun _ H Q => ∀ p, H p = none → Q (.ref p) (upd H p (.dT []))
section
variable {X : Cx} {pos : Pos}
theorem pe_dnewT : PE X (.Dict [] [] pos) tDNewT := fun pins s σ H Q I h =>
  wpAny_Dict_empty ⟨.ref s.heap.objs.size, _, I.laid (a := s.heap.objs.size) (o := .dT []) (t' := s.toks) (fun _ _ q => Heap.get?_push_of_some _ q) (Nat.le_refl _) (dt_empty s.heap I.big), rfl, h _ (I.hok.fresh (Nat.le_refl _))⟩
end
structure M1 (X : Cx) (o : Expr) (m : Str) (apos : Pos) (e : Expr) (cpos : Pos) : Prop where
  base : attributeBase o m X.env (eval o X.env) = eval o X.env
  few : ((backTo cpos (starEach [e] X.env)).all (fun x => !x.1) && (backToKw cpos (keywordEach [] X.env)).all (fun x => x.1.isSome)
    && decide (([e] : List Expr).length + ([] : List Keyword).length + (if ([] : List Keyword).isEmpty then 0 else 1) < 30)) = true
  line : (apos.endLine == cpos.line) = true
  trees : backTo cpos (starEach [e] X.env) = [(false, eval e X.env)]
structure M2 (X : Cx) (o : Expr) (m : Str) (apos : Pos) (e f : Expr) (cpos : Pos) : Prop where
  base : attributeBase o m X.env (eval o X.env) = eval o X.env
  few : ((backTo cpos (starEach [e, f] X.env)).all (fun x => !x.1) && (backToKw cpos (keywordEach [] X.env)).all (fun x => x.1.isSome)
    && decide (([e, f] : List Expr).length + ([] : List Keyword).length + (if ([] : List Keyword).isEmpty then 0 else 1) < 30)) = true
  line : (apos.endLine == cpos.line) = true
  trees : backTo cpos (starEach [e, f] X.env) = [(false, eval e X.env), (false, eval f X.env)]
section
variable {X : Cx} {pins : List (Addr × Obj)} {σ : St} {H : Hp} {s : Shared} {a : Addr} {y d : V} {u r : Value} {o : Option V} {A : Around} {E : Value → Shared → Prop}
end
section
variable {X : Cx} {o e f : Expr} {apos cpos : Pos} {td ty tx : TE}
end
section
variable {X : Cx} {pins : List (Addr × Obj)} {σ : St} {H : Hp} {s : Shared} {a : Addr} {kvs : List (Key × V)} {A : Around} {E : Value → Shared → Prop}
end
section
variable {X : Cx} {pins : List (Addr × Obj)} {σ : St} {H : Hp} {s : Shared} {a : Addr} {y : V} {u : Value} {A : Around} {E : Value → Shared → Prop}
end
end L2
namespace L2
open PySem PySem.Spec PyProof.Rows
section
variable {prog : Program} {w : World} {A : Around} {E : Value → Shared → Prop}
end
section
variable {X : Cx}
end
end L2
namespace L2
open PySem PySem.Spec PyProof.Rows
section
variable {X : Cx} {pins : List (Addr × Obj)} {σ : St} {H : Hp} {s : Shared} {h' : Heap}
theorem Inv.turnedNew {t' : Nat} {ch : List Addr} {T : Addr} {ob : HO} (I : Inv X pins σ H s) (k : ∀ b o, b ∉ ch → s.heap.get? b = some o → h'.get? b = some o) (hf : ∀ b ∈ ch, FpOk X pins H b) (hT : s.heap.objs.size ≤ T)
    (new : ObjOk X.prog X.w (upd H T ob) h' T ob) : Inv X pins σ (upd H T ob) { s with heap := h', toks := t' } := by
  have hn : H T = none := I.hok.fresh hT
  have nit : ∀ b u, H b = some u → b ∉ ch := fun b u e z => by
    have q := (hf b z).1
    rw [q] at e; cases e
  refine I.step (g' := s.gens) (d' := s.drawn) (ch := ch) (fun b hb => ⟨(hf b hb).2.2.2.1, (hf b hb).2.1, (hf b hb).2.2.2.2.1, (hf b hb).2.2.2.2.2⟩) (fun b o _ _ hc e _ => k b o hc e) (fun b o _ _ hc e _ => ⟨o.slots, k b o hc e⟩)
    (fun b o _ e n => ?_) (fun b o hc e => ⟨o, k b o hc e⟩) (fun b xs e => ?_) (fun b o u e => ?_) (fun b ps e => ⟨#[], ?_⟩) (fun m hm => ?_) (fun b u e => ?_) I.bare
  · rw [upd_ne (Nat.ne_of_lt (Nat.lt_of_lt_of_le (Heap.lt_size e) hT))]; exact n
  · rw [upd_ne (ne_of_none e hn)]; exact e
  · rw [upd_ne (ne_of_none e hn)]; exact e
  · rw [upd_ne (ne_of_none e hn), e]; simp
  · obtain ⟨o, es, ep, ho, r⟩ := hm
    exact ⟨o, es, ep, k _ o (fun z => (hf _ z).2.1 rfl) ho, r⟩
  · by_cases hb : b = T
    · subst hb
      rw [upd_same] at e
      cases e
      exact new
    · rw [upd_ne hb] at e
      refine (I.hok b u e).stay (fun c v hc q => k c v ?_ q) (fun c q => by rw [upd_ne (ne_of_none q hn)]; exact q) fun c xs q => by rw [upd_ne (ne_of_none q hn)]; exact q
      rcases hc with z | z
      · rw [z]; exact nit b u e
      · exact nit c _ z
end
section
variable {X : Cx}
theorem pi_one {tg : Expr} {pins : List (Addr × Obj)} {σ : St} {H : Hp} {s : Shared} {R : It → Hp → Prop} {J : It} {tn : Nat → Heap → Prop} {tk : Nat} (I : Inv X pins σ H s) (o : Obj)
    (T : Turn X.prog X.w X.K tg J [s.heap.objs.size] s.heap.objs.size tn) (st : tn 0 (s.heap.push o)) (q : R J H) : PIE X pins σ tg R (.ref s.heap.objs.size) { s with heap := s.heap.push o, toks := tk } := by
  refine ⟨s.heap.objs.size, [s.heap.objs.size], tn, J, H, rfl, I.kept fun b ob e => Heap.get?_push_of_some _ e, T, st, fun b hb => ?_, q⟩
  have e : b = s.heap.objs.size := by simpa using hb
  subst e
  exact I.fpOk (Nat.le_refl _) (I.hok.fresh (Nat.le_refl _))
end
section
variable {X : Cx} {tg : Expr}
end
section
variable {X : Cx} {tg : Expr}
end
noncomputable def Its (x : Str) : It := ⟨fun i _ => i < x.cps.size, fun i H v H' => H' = H ∧ ∃ c, x.cps[i]? = some c ∧ v = .str ⟨#[c]⟩, fun i _ => x.cps.size ≤ i⟩
theorem turn_str {P : Program} {w : World} {K : PySem.W.Frag} {tg : Expr} (it : Addr) (x : Str) (t : Tok) (ty : String) (hty : ty = "str_ascii_iterator" ∨ ty = "str_iterator") :
    Turn P w K tg (Its x) [it] it (fun i h => h.IsStrIter it ty x t i) where
  mem := by simp
  obj := fun i h st b hb => by
    have e : b = it := by simpa using hb
    subst e
    obtain ⟨o, e, c, d⟩ := st
    exact ⟨o, e, fun v z => by rw [d] at z; cases z⟩
  keep := fun i h h' st k => let ⟨o, ho, r⟩ := st; ⟨o, k it (by simp) o ho, r⟩
  item := by
    intro X hP hw hK hc i pins s σ H E I hf st hg
    subst hP hw hK
    obtain ⟨f0, f1, f2, f3, f4, f5⟩ := hf it (by simp)
    have W : Walks X.prog X.w X.A it [it] [it] x.cps.size (SignAt x) (fun i h => h.IsStrIter it ty x t i) := by
      rcases hty with e | e
      · rw [e]; exact Walks.strAscii (I.ok.hd hc) it x t
      · rw [e]; exact Walks.strWide (I.ok.hd hc) it x t
    have hno : ["enumerate", "zip", "dict_itemiterator", "dict_reverseitemiterator", "odict_iterator", "itertools.zip_longest", "itertools.pairwise"].contains ty = false := by
      rcases hty with e | e
      · rw [e]; decide
      · rw [e]; decide
    refine W.item i s _ _ hg st fun v h' tk hv st' kk => ?_
    obtain ⟨c, u, hcx, rfl⟩ := hv
    have I1 : Inv X pins σ H { s with heap := h', toks := tk } := I.turned (fun b o hb e => kk b o (by simpa using hb) e) f0 f1 f3 f4 f5
    obtain ⟨oi, e, cc, dd⟩ := id st'
    exact ⟨_, rfl, go_of (s := { s with heap := h', toks := tk }) e cc dd hno ⟨.str ⟨#[c]⟩, H, I1, ⟨u, rfl⟩, ⟨rfl, c, hcx, rfl⟩, st', fun b hb => (hf b hb).1⟩⟩
  done := by
    intro X hP hw hK hc i pins s σ H E I hf st hg
    subst hP hw hK
    obtain ⟨f0, f1, f2, f3, f4, f5⟩ := hf it (by simp)
    have hx : x.cps[i]? = none := Array.getElem?_eq_none hg
    rcases hty with e | e
    · rw [e] at st
      exact wpAny_pyNext_ascii_end (I.ok.hd hc) st hx fun h' eb => ⟨rfl, I.turned (t' := s.toks) (fun b o hb e => eb b o hb e) f0 f1 f3 f4 f5⟩
    · rw [e] at st
      exact wpAny_pyNext_wide_end (I.ok.hd hc) st hx fun h' eb => ⟨rfl, I.turned (t' := s.toks) (fun b o hb e => eb b o hb e) f0 f1 f3 f4 f5⟩
  self := fun A i s Q E st h => by
    rcases hty with e | e
    · rw [e] at st; exact wpAny_pyIter_striter_ascii st h
    · rw [e] at st; exact wpAny_pyIter_striter_wide st h
noncomputable def iStr (te : TE) : TI := fun σ H R => te σ H fun v H1 => ∃ x, v = .str x ∧ R (Its x) H1
theorem pi_str {X : Cx} {tg e : Expr} {te : TE} (he : PE X e te) : PI X tg e (iStr te) := by
  intro pins s σ H R I h
  refine thn (he pins s σ H _ I h) fun v s1 ⟨y, H1, I1, r1, x, ex, q⟩ => ?_
  subst ex
  obtain ⟨t, rfl⟩ := r1
  cases ha : x.cps.all (· < 128)
  · exact wpAny_pyIter_wide ha (pi_one (tk := s1.toks) I1 _ (turn_str _ x t "str_iterator" (.inr rfl)) ⟨_, Heap.get?_push_size _ rfl, rfl, rfl⟩ q)
  · exact wpAny_pyIter_ascii ha (pi_one (tk := s1.toks) I1 _ (turn_str _ x t "str_ascii_iterator" (.inl rfl)) ⟨_, Heap.get?_push_size _ rfl, rfl, rfl⟩ q)
section
variable {prog : Program} {w : World} {A : Around} {E : Value → Shared → Prop} {s : Shared}
end
section
variable {X : Cx} {pins : List (Addr × Obj)} {σ : St} {H : Hp} {s : Shared} {d : Addr} {o : Obj}
end
section
variable {P : Program} {w : World} {K : PySem.W.Frag} {tg : Expr} {d : Addr} {o : Obj} {es : Array DictEntry} {ep : Nat}
end
section
variable {X : Cx} {tg e : Expr} {td : TE} {apos cpos : Pos}
end
end L2
section 
namespace Bits
open PySem PyProof.Rows
end Bits
end 
section 
namespace TL
open PySem PySem.Builtin PySem.Builtin.Str PySem.StrLaws
end TL
end 
namespace L2
open PySem PySem.Spec PyProof.Rows
section
variable {X : Cx} {pins : List (Addr × Obj)} {σ : St} {H : Hp} {s : Shared} {Q : VK}
end
section
variable {X : Cx}
end
section
variable {X : Cx} {o e : Expr} {to te : TE}
end
end L2
namespace L2
open PySem PySem.Spec PyProof.Rows
section
variable {X : Cx}
end
end L2
namespace Att
open PySem PySem.W PySem.Calls PyProof.Rows
section
variable {prog : Program} {w : World} {A : Around} {E : Value → Shared → Prop} {s : Shared} {K : Frag}
end
end Att
namespace L2
open PySem PySem.Spec PyProof.Rows
end L2
namespace L2
open PySem PySem.Spec PyProof.Rows
end L2
/- THE LAST THEOREM (shape; LID, My.* are yours):
   My.Adr: a structure of the addresses that your layer names (classes, functions); My.Txt K t: a structure (Prop) of the equations over K;
   My.txt_mk : {K} {implicit addresses ..} (e1 : nsIn K mainGlobals "law" = some (some (.ref f))) (e2 : K.lookup f = some ⟨oc, od, .func (fnOf "law" "law" params body scope dV kV doc pm an cdv ct), sl⟩) (e3 : codeIn K cdv "law" = true) .. : ∃ t, My.Txt K t
set_option maxRecDepth 100000 in
set_option maxHeartbeats 0 in
theorem PySem.Challenge.cw_LID_holds : PySem.Challenge.rw_LID.Holds := by
  w_on; o_law; k_head; (case hw => w_witness2)
  k_fill
  refine L2.walk_of (l := PySem.Challenge.rw_LID) (n := 63) (k := 40) (x := "script") (CX := fun w => ..) (sp := fun _ => My.sp_law) rfl (by decide) rfl ⟨rfl, by decide, by decide⟩ (fun w h Y => PySem.W.kIn_of Y) ?F ?S ?C
  case F =>
    intro w mg fa h KX G hmg
    have T : ∃ t, My.Txt (L2.KOf KX) t := by
      dsimp only [L2.KOf]                          -- K must stand as «<heap const> w.params» for k_is
      refine' My.txt_mk ?e1 ?e2 ?e3 ..
      (case e1 => PySem.W.k_is)                    -- in the order: a name -> its address -> its object -> its parts
      (case e2 => PySem.W.k_is)
      ..
    obtain ⟨t, T⟩ := T
    have e0 := hmg.symm.trans (PySem.W.mg_of KX G T.law)
    cases e0                                       -- fa is the law's own address
    exact ⟨_, fun s u => .of_eq rfl, fun base kb nb => My.law_fn T kb nb⟩     -- if «.of_eq rfl» comes too early: refine' ⟨_, ?b, fun base kb nb => My.law_fn T kb nb⟩; exact fun s u => .of_eq rfl
  case S => exact fun w H a ns hl hO hS => ..
  case C => exact ..
(the tactic k_is has no namespace: write k_is) -/
namespace L2
open PySem PySem.Spec PyProof.Rows
noncomputable def inClass (s : Stmt) (j : Nat) : Stmt := match s with
  | .ClassDef _ _ _ body _ _ _ _ _ _ _ => body.getD j (.Pass ⟨0, 0, 0, 0⟩)
  | _ => .Pass ⟨0, 0, 0, 0⟩
noncomputable def defArgs (s : Stmt) : Arguments := match s with
  | .FunctionDef _ a _ _ _ _ _ _ _ _ => a
  | _ => { posonlyargs := [], args := [], vararg := none, kwonlyargs := [], kw_defaults := [], kwarg := none, defaults := [] }
noncomputable def defBody (s : Stmt) : List Stmt := match s with
  | .FunctionDef _ _ b _ _ _ _ _ _ _ => b
  | _ => []
noncomputable def defScope (s : Stmt) : Scope := match s with
  | .FunctionDef _ _ _ _ _ _ sc _ _ _ => sc
  | _ => { kind := .function, names := [], isGenerator := false, isCoroutine := false }
structure Fun (K : PySem.W.Frag) (x qual : Str) (st : Stmt) (f : Addr) (fd : FuncData) : Prop where
  ex : ∃ (oc : Value) (od : Option Addr) (kV doc pm : Value) (an : Option Addr) (cdv ct : Value) (osl : Array (Option Value)),
    fd = PySem.W.fnOf x qual (defArgs st) (defBody st) (defScope st) .none kV doc pm an cdv ct ∧ K.lookup f = some ⟨oc, od, .func fd, osl⟩ ∧ PySem.W.codeIn K cdv qual = true
  kp : PySem.W.keepIn K (.ref f) = true
section
variable {P : Program} {w : World} {K : PySem.W.Frag} {mg : Str → Option Value} {base : Heap}
theorem Fun.binds {x qual : Str} {st : Stmt} {f : Addr} {fd : FuncData} {ps : List Str} (F : Fun K x qual st f fd)
    (h : ∀ (kV doc pm : Value) (an : Option Addr) (cdv ct : Value) (us : List Value), us.length = ps.length → bindArgs (PySem.W.fnOf x qual (defArgs st) (defBody st) (defScope st) .none kV doc pm an cdv ct) ⟨us, []⟩ = pure (ps.zip us)) : Binds K fd ps [] := by
  obtain ⟨oc, od, kV, doc, pm, an, cdv, ct, osl, rfl, lk, hcd⟩ := F.ex
  exact .all (h kV doc pm an cdv ct)
theorem fun_mk {x qual : Str} {st : Stmt} {f : Addr} {oc : Value} {od an : Option Addr} {osl : Array (Option Value)} {kV doc pm cdv ct : Value} (l : K.lookup f = some ⟨oc, od, .func (PySem.W.fnOf x qual (defArgs st) (defBody st) (defScope st) .none kV doc pm an cdv ct), osl⟩)
    (c : PySem.W.codeIn K cdv qual = true) (k : PySem.W.keepIn K (.ref f) = true) : Fun K x qual st f (PySem.W.fnOf x qual (defArgs st) (defBody st) (defScope st) .none kV doc pm an cdv ct) := ⟨⟨oc, od, kV, doc, pm, an, cdv, ct, osl, rfl, l, c⟩, k⟩
end
theorem hu_of {A : Around} {k : Nat} (hr : Room k A) : A.units + 1 < cLine := Nat.lt_of_le_of_lt (Nat.add_le_add_left (by decide : 1 ≤ 64) _) hr.units
section
variable {X : Cx}
theorem pv (i : Nat) {x : Str} {pos : Pos} (hN : X.N[i]? = some x := by rfl) (hv : Vis X.env.scope x := by first | exact Or.inl rfl | exact Or.inr (Or.inl rfl) | exact Or.inr (Or.inr rfl)) (hd : (x == ("__debug__" : Str)) = false := by decide)
    (hcd : (x == ("__classdict__" : Str)) = false := by decide) : PE X (.Name x pos) (tVar i) := pe_var hN hv hd hcd
end
theorem iteF {A B : Prop} (h : B) : if false = true then A else B := by
  rw [if_neg Bool.false_ne_true]
  exact h
theorem ite2 {c A B : Prop} [Decidable c] (h1 : c → A) (h2 : ¬ c → B) : if c then A else B := by
  by_cases h : c
  · rw [if_pos h]
    exact h1 h
  · rw [if_neg h]
    exact h2 h
noncomputable def Same (H H' : Hp) : Prop := ∀ b o, H b = some o → H' b = some o
theorem Same.seq {K : PySem.W.Frag} {H H' : Hp} {a : Addr} {xs : List V} (e : Same H H') (h : SqL K H a xs) : SqL K H' a xs := by
  rcases h with (h | ⟨o, h⟩) | h
  · exact .inl (.inl (e _ _ h))
  · exact .inl (.inr ⟨o, e _ _ h⟩)
  · exact .inr h
section
variable {κ : Type} [DecidableEq κ]
end
end L2
section
set_option Elab.async false
set_option linter.all false
set_option maxRecDepth 100000
set_option maxHeartbeats 2000000
namespace L2
open PySem PySem.Spec PyProof.Rows
open PySem.W (WData Codec OpenSpec Well WellAll ReadsW ReadsAllW)
mutual
inductive Dw (K : PySem.W.Frag) (H : Hp) : V → WData → Prop
  | non : Dw K H .non .none
  | bl (b : Bool) : Dw K H (.bl b) (.bool b)
  | int (i : Int) : Dw K H (.int i) (.int i)
  | str (x : Str) : Dw K H (.str x) (.str x)
  | byt (b : Array UInt8) : Dw K H (.byt b) (.bytes b.toList)
  | lst {a : Addr} {xs : List V} {ds : List WData} : SqL K H a xs → DwAll K H xs ds → Dw K H (.ref a) (.list ds)
  | tup {a : Addr} {xs : List V} {ds : List WData} : SqT K H a xs → DwAll K H xs ds → Dw K H (.ref a) (.tuple ds)
inductive DwAll (K : PySem.W.Frag) (H : Hp) : List V → List WData → Prop
  | nil : DwAll K H [] []
  | cons {v : V} {vs : List V} {d : WData} {ds : List WData} : Dw K H v d → DwAll K H vs ds → DwAll K H (v :: vs) (d :: ds)
end
theorem dw_ints {K : PySem.W.Frag} {H : Hp} : ∀ ns : List Int, DwAll K H (ns.map V.int) (ns.map WData.int)
  | [] => .nil
  | n :: r => .cons (.int n) (dw_ints r)
theorem ints_dw {K : PySem.W.Frag} {H : Hp} : ∀ (ns : List Int) (xs : List V), DwAll K H xs (ns.map WData.int) → xs = ns.map V.int
  | [], xs, h => by
    cases h
    rfl
  | n :: r, xs, h => by
    cases h with
    | cons h1 h2 =>
      cases h1
      rw [ints_dw r _ h2] <;> rfl
section
variable {P : Program} {w : World} {K : PySem.W.Frag} {H : Hp} {h : Heap} {R : PySem.W.WRecords} {cl : Str → Option Addr}
theorem sqL_at {a : Addr} {xs : List V} (hok : HOk P w H h) (KX : K.In h) (q : SqL K H a xs) : ∃ (its : List Value) (o : Obj) (n : Nat), Vals xs its ∧ h.get? a = some o ∧ o.cls = .type "list" ∧ o.data = .seq its.toArray n := by
  rcases q with q | ⟨o, its, n, e, hc, _, hd, _, hv⟩
  · obtain ⟨_, its, n, hv, e⟩ := (show ObjOk P w H h a (.lst xs) from q.ok hok)
    exact ⟨its, _, n, hv, e, rfl, rfl⟩
  · exact ⟨its.toList, o, n, hv, KX _ _ e, hc, by simp [hd]⟩
theorem sqT_at {a : Addr} {xs : List V} (hok : HOk P w H h) (KX : K.In h) (q : SqT K H a xs) : ∃ (its : List Value) (o : Obj) (n : Nat), Vals xs its ∧ h.get? a = some o ∧ o.cls = .type "tuple" ∧ o.data = .seq its.toArray n := by
  rcases q with q | ⟨o, its, n, e, hc, hd, _, hv⟩
  · obtain ⟨_, its, hv, o, e, hc, n, hd⟩ := (show ObjOk P w H h a (.tup xs) from q.ok hok)
    exact ⟨its, o, n, hv, e, hc, hd⟩
  · exact ⟨its.toList, o, n, hv, KX _ _ e, hc, by simp [hd]⟩
mutual
theorem Dw.reads (hok : HOk P w H h) (KX : K.In h) : ∀ (d : WData) (v : V) (u : Value), Dw K H v d → RelV v u → ∃ as, ReadsW R cl h u d as
  | .none, _, _, x, r => by
    cases x
    cases r
    exact ⟨_, ReadsW.none⟩
  | .bool b, _, _, x, r => by
    cases x
    cases r
    exact ⟨_, ReadsW.bool b⟩
  | .int i, _, _, x, r => by
    cases x
    obtain ⟨t, rfl⟩ := r
    exact ⟨_, ReadsW.int i t⟩
  | .str s, _, _, x, r => by
    cases x
    obtain ⟨t, rfl⟩ := r
    exact ⟨_, ReadsW.str s t⟩
  | .bytes b, _, _, x, r => by
    cases x
    obtain ⟨t, rfl⟩ := r
    exact ⟨_, ReadsW.bytes _ t⟩
  | .list ds, _, _, x, r => by
    cases x with
    | lst hs ha =>
      cases r
      obtain ⟨its, o, n, rv, ho, hc, hd⟩ := sqL_at hok KX hs
      obtain ⟨as, hr⟩ := Dw.readsAll hok KX ds _ its ha rv
      exact ⟨_, ReadsW.list ho hc hd hr⟩
  | .tuple ds, _, _, x, r => by
    cases x with
    | tup hs ha =>
      cases r
      obtain ⟨its, o, n, rv, ho, hc, hd⟩ := sqT_at hok KX hs
      obtain ⟨as, hr⟩ := Dw.readsAll hok KX ds _ its ha rv
      exact ⟨_, ReadsW.tuple ho hc hd hr⟩
  | .float _, _, _, x, _ => by cases x
  | .dict _, _, _, x, _ => by cases x
  | .bytearray _, _, _, x, _ => by cases x
  | .set _, _, _, x, _ => by cases x
  | .frozenset _, _, _, x, _ => by cases x
  | .obj _ _, _, _, x, _ => by cases x
theorem Dw.readsAll (hok : HOk P w H h) (KX : K.In h) : ∀ (ds : List WData) (vs : List V) (us : List Value), DwAll K H vs ds → Vals vs us → ∃ as, ReadsAllW R cl h us ds as
  | [], _, _, x, r => by
    cases x
    cases r
    exact ⟨_, ReadsAllW.nil⟩
  | d :: ds, _, _, x, r => by
    cases x with
    | cons h1 h2 =>
      cases r with
      | cons r1 r2 =>
        obtain ⟨as, q1⟩ := Dw.reads hok KX d _ _ h1 r1
        obtain ⟨bs, q2⟩ := Dw.readsAll hok KX ds _ _ h2 r2
        exact ⟨_, ReadsAllW.cons q1 q2⟩
end
end
mutual
noncomputable def plW : WData → Bool
  | .none => true
  | .bool _ => true
  | .int _ => true
  | .str _ => true
  | .bytes _ => true
  | .list xs => plWs xs
  | .tuple xs => plWs xs
  | _ => false
noncomputable def plWs : List WData → Bool
  | [] => true
  | x :: r => plW x && plWs r
end
theorem plWs_map {α : Type} {f : α → WData} (h : ∀ a, plW (f a) = true) : ∀ l : List α, plWs (l.map f) = true
  | [] => rfl
  | x :: r => by
    show (plW (f x) && plWs (r.map f)) = true
    rw [h x, plWs_map h r] <;> rfl
theorem pl_enc : ∀ (c : Codec) (a : c.denote), plW (c.enc a) = true
  | .unit, _ => rfl
  | .bool, _ => rfl
  | .int _ _, _ => rfl
  | .nat _ _, _ => rfl
  | .u8, _ => rfl
  | .bytes _ _, _ => rfl
  | .text _ _ _ _, _ => rfl
  | .list _ _ c, a => plWs_map (fun x => pl_enc c x) a
  | .pair c d, a => by
    show (plW (c.enc a.1) && (plW (d.enc a.2) && true)) = true
    rw [pl_enc c a.1, pl_enc d a.2] <;> rfl
  | .triple c d e, a => by
    show (plW (c.enc a.1) && (plW (d.enc a.2.1) && (plW (e.enc a.2.2) && true))) = true
    rw [pl_enc c a.1, pl_enc d a.2.1, pl_enc e a.2.2] <;> rfl
  | .option c, none => rfl
  | .option c, some x => pl_enc c x
theorem pl_encAll : ∀ (cs : List Codec) (a : Codec.denoteAll cs), plWs (Codec.encAll cs a) = true
  | [], _ => rfl
  | c :: cs, a => by
    show (plW (c.enc a.1) && plWs (Codec.encAll cs a.2)) = true
    rw [pl_enc c a.1, pl_encAll cs a.2] <;> rfl
theorem weight_mem : ∀ {xs : List WData} {d : WData}, d ∈ xs → d.weight ≤ WData.weightAll xs
  | [], d, h => absurd h (by simp)
  | x :: r, d, h => by
    show d.weight ≤ x.weight + 1 + WData.weightAll r
    rcases List.mem_cons.mp h with e | m
    · rw [e]
      omega
    · have z := weight_mem m
      omega
noncomputable def toV : Value → V
  | .none => .non
  | .bool b => .bl b
  | .int i _ => .int i
  | .str x _ => .str x
  | .bytes b _ => .byt b
  | .ref a => .ref a
  | _ => .non
noncomputable def OkU (A : List Addr) : Value → Prop
  | .none => True
  | .bool _ => True
  | .int _ _ => True
  | .str _ _ => True
  | .bytes _ _ => True
  | .ref a => a ∈ A
  | _ => False
theorem OkU.mono {A B : List Addr} (h : ∀ a ∈ A, a ∈ B) : ∀ {u : Value}, OkU A u → OkU B u := fun {u} x => by
  cases u with
  | ref a => exact h a x
  | none => trivial
  | bool b => trivial
  | int i t => trivial
  | str s t => trivial
  | bytes b t => trivial
  | _ => exact False.elim x
theorem relV_toV {A : List Addr} {u : Value} (x : OkU A u) : RelV (toV u) u := by
  cases u with
  | ref a => rfl
  | none => rfl
  | bool b => rfl
  | int i t => exact ⟨t, rfl⟩
  | str s t => exact ⟨t, rfl⟩
  | bytes b t => exact ⟨t, rfl⟩
  | _ => exact False.elim x
theorem vals_toV {A : List Addr} : ∀ {vs : List Value}, (∀ u ∈ vs, OkU A u) → Vals (vs.map toV) vs
  | [], _ => .nil
  | u :: r, h => .cons (relV_toV (h u (List.mem_cons_self ..))) (vals_toV fun x hx => h x (List.mem_cons_of_mem _ hx))
noncomputable def ArgOb (h : Heap) (A : List Addr) (a : Addr) : Prop := ∃ vs : List Value, vs.length ≤ sizeLine ∧ (∀ u ∈ vs, OkU A u) ∧
  (h.get? a = some { cls := .type "list", data := .seq vs.toArray } ∨ h.get? a = some { cls := .type "tuple", data := .seq vs.toArray })
theorem ArgOb.mono {h : Heap} {A B : List Addr} {a : Addr} (k : ∀ a ∈ A, a ∈ B) (x : ArgOb h A a) : ArgOb h B a := by
  obtain ⟨vs, h1, h2, h3⟩ := x
  exact ⟨vs, h1, fun u hu => (h2 u hu).mono k, h3⟩
theorem wellAll_len {P : Params} {h : Heap} : ∀ {vs : List Value} {ds : List WData}, WellAll P h vs ds → vs.length = ds.length
  | _, _, .nil => rfl
  | _, _, .cons _ b => by
    show _ + 1 = _ + 1
    rw [wellAll_len b]
theorem well_list {P : Params} {h : Heap} {v : Value} {ds : List WData} (x : Well P h v (.list ds)) : ∃ (a : Addr) (vs : List Value), v = .ref a ∧ h.get? a = some { cls := .type "list", data := .seq vs.toArray } ∧ WellAll P h vs ds := by
  cases x with
  | list ho hall => exact ⟨_, _, rfl, ho, hall⟩
theorem well_tuple {P : Params} {h : Heap} {v : Value} {ds : List WData} (x : Well P h v (.tuple ds)) : ∃ (a : Addr) (vs : List Value), v = .ref a ∧ h.get? a = some { cls := .type "tuple", data := .seq vs.toArray } ∧ WellAll P h vs ds := by
  cases x with
  | tuple ho hall => exact ⟨_, _, rfl, ho, hall⟩
theorem well_cons {P : Params} {h : Heap} {us : List Value} {d : WData} {ds : List WData} (x : WellAll P h us (d :: ds)) : ∃ (v : Value) (vs : List Value), us = v :: vs ∧ Well P h v d ∧ WellAll P h vs ds := by
  cases x with
  | cons a b => exact ⟨_, _, rfl, a, b⟩
theorem line_of {n : Nat} (h : n ≤ 1048576) : n ≤ sizeLine := Nat.le_trans h (by decide)
section
variable {P : Params} {h : Heap}
mutual
theorem area_one : ∀ (d : WData) (v : Value), Well P h v d → plW d = true → d.weight ≤ 1048576 → ∃ A : List Addr, OkU A v ∧ ∀ a ∈ A, ArgOb h A a
  | .none, _, x, _, _ => by
    cases x
    exact ⟨[], trivial, fun a m => absurd m (by simp)⟩
  | .bool b, _, x, _, _ => by
    cases x
    exact ⟨[], trivial, fun a m => absurd m (by simp)⟩
  | .int i, _, x, _, _ => by
    cases x
    exact ⟨[], trivial, fun a m => absurd m (by simp)⟩
  | .str s, _, x, _, _ => by
    cases x
    exact ⟨[], trivial, fun a m => absurd m (by simp)⟩
  | .bytes b, _, x, _, _ => by
    cases x
    exact ⟨[], trivial, fun a m => absurd m (by simp)⟩
  | .list ds, _, x, p, z => by
    obtain ⟨a, vs, rfl, ho, hall⟩ := well_list x
    have z2 : WData.weightAll ds ≤ 1048576 := z
    obtain ⟨A, h1, h2⟩ := area_all ds _ hall p fun d hd => Nat.le_trans (weight_mem hd) z2
    have k : ∀ b ∈ A, b ∈ a :: A := fun b hb => List.mem_cons_of_mem _ hb
    refine ⟨a :: A, List.mem_cons_self .., fun b hb => ?_⟩
    rcases List.mem_cons.mp hb with e | m
    · rw [e]
      exact ⟨vs, line_of (by rw [wellAll_len hall]; exact Nat.le_trans (PySem.W.length_le_weightAllW ds) z2), fun u hu => (h1 u hu).mono k, .inl ho⟩
    · exact (h2 b m).mono k
  | .tuple ds, _, x, p, z => by
    obtain ⟨a, vs, rfl, ho, hall⟩ := well_tuple x
    have z2 : WData.weightAll ds ≤ 1048576 := z
    obtain ⟨A, h1, h2⟩ := area_all ds _ hall p fun d hd => Nat.le_trans (weight_mem hd) z2
    have k : ∀ b ∈ A, b ∈ a :: A := fun b hb => List.mem_cons_of_mem _ hb
    refine ⟨a :: A, List.mem_cons_self .., fun b hb => ?_⟩
    rcases List.mem_cons.mp hb with e | m
    · rw [e]
      exact ⟨vs, line_of (by rw [wellAll_len hall]; exact Nat.le_trans (PySem.W.length_le_weightAllW ds) z2), fun u hu => (h1 u hu).mono k, .inr ho⟩
    · exact (h2 b m).mono k
  | .float _, _, _, p, _ => Bool.noConfusion (show false = true from p)
  | .dict _, _, _, p, _ => Bool.noConfusion (show false = true from p)
  | .bytearray _, _, _, p, _ => Bool.noConfusion (show false = true from p)
  | .set _, _, _, p, _ => Bool.noConfusion (show false = true from p)
  | .frozenset _, _, _, p, _ => Bool.noConfusion (show false = true from p)
  | .obj _ _, _, _, p, _ => Bool.noConfusion (show false = true from p)
theorem area_all : ∀ (ds : List WData) (vs : List Value), WellAll P h vs ds → plWs ds = true → (∀ d ∈ ds, d.weight ≤ 1048576) → ∃ A : List Addr, (∀ u ∈ vs, OkU A u) ∧ ∀ a ∈ A, ArgOb h A a
  | [], _, x, _, _ => by
    cases x
    exact ⟨[], fun u m => absurd m (by simp), fun a m => absurd m (by simp)⟩
  | d :: ds, _, x, p, z => by
    obtain ⟨v, vs, rfl, x1, x2⟩ := well_cons x
    have q : plW d = true ∧ plWs ds = true := Bool.and_eq_true_iff.mp p
    obtain ⟨A, a1, a2⟩ := area_one d v x1 q.1 (z d (List.mem_cons_self ..))
    obtain ⟨B, b1, b2⟩ := area_all ds vs x2 q.2 fun e he => z e (List.mem_cons_of_mem _ he)
    have kA : ∀ b ∈ A, b ∈ A ++ B := fun b hb => List.mem_append.mpr (.inl hb)
    have kB : ∀ b ∈ B, b ∈ A ++ B := fun b hb => List.mem_append.mpr (.inr hb)
    refine ⟨A ++ B, fun u hu => ?_, fun b hb => ?_⟩
    · rcases List.mem_cons.mp hu with e | m
      · rw [e]
        exact a1.mono kA
      · exact (b1 u m).mono kB
    · rcases List.mem_append.mp hb with m | m
      · exact (a2 b m).mono kA
      · exact (b2 b m).mono kB
end
end
noncomputable def hoOf (o : Obj) : Option HO := match o.data with
  | .seq vs _ => if (o.cls == Value.type "list") = true then some (.frz o (.lst (vs.toList.map toV))) else some (.frz o (.tup (vs.toList.map toV)))
  | _ => none
noncomputable def argH (K : PySem.W.Frag) (h : Heap) (A : List Addr) : Hp := fun b => if b ∈ A then (if (K.lookup b).isNone = true then (h.get? b).bind hoOf else none) else none
noncomputable def OnlyF (H : Hp) : Prop := ∀ b, H b = none ∨ ∃ o u, H b = some (.frz o u)
theorem hoOf_lst (vs : List Value) : hoOf { cls := .type "list", data := .seq vs.toArray } = some (.frz { cls := .type "list", data := .seq vs.toArray } (.lst (vs.map toV))) := by
  show (if (Value.type "list" == Value.type "list") = true then some (HO.frz { cls := .type "list", data := .seq vs.toArray } (.lst (vs.toArray.toList.map toV))) else some (HO.frz { cls := .type "list", data := .seq vs.toArray } (.tup (vs.toArray.toList.map toV)))) = _
  rw [if_pos (beq_self_eq_true _)]
theorem hoOf_tup (vs : List Value) : hoOf { cls := .type "tuple", data := .seq vs.toArray } = some (.frz { cls := .type "tuple", data := .seq vs.toArray } (.tup (vs.map toV))) := by
  show (if (Value.type "tuple" == Value.type "list") = true then some (HO.frz { cls := .type "tuple", data := .seq vs.toArray } (.lst (vs.toArray.toList.map toV))) else some (HO.frz { cls := .type "tuple", data := .seq vs.toArray } (.tup (vs.toArray.toList.map toV)))) = _
  rw [if_neg (by decide)]
section
variable {P : Program} {w : World} {K : PySem.W.Frag} {h : Heap} {A : List Addr}
theorem argH_at {b : Addr} {o : Obj} (hb : b ∈ A) (hk : K.lookup b = none) (e : h.get? b = some o) : argH K h A b = hoOf o := by
  unfold argH
  rw [if_pos hb, hk, if_pos (show (none : Option Obj).isNone = true from rfl), e] <;> rfl
theorem of_argH {b : Addr} {u : HO} (q : argH K h A b = some u) : b ∈ A ∧ K.lookup b = none := by
  unfold argH at q
  by_cases hb : b ∈ A
  · rw [if_pos hb] at q
    cases hk : K.lookup b with
    | none => exact ⟨hb, rfl⟩
    | some o =>
      rw [hk, if_neg (by simp)] at q
      cases q
  · rw [if_neg hb] at q
    cases q
theorem argH_is (ar : ∀ a ∈ A, ArgOb h A a) {b : Addr} {u : HO} (q : argH K h A b = some u) : K.lookup b = none ∧ ∃ vs : List Value, vs.length ≤ sizeLine ∧ (∀ u ∈ vs, OkU A u) ∧
    ((h.get? b = some { cls := .type "list", data := .seq vs.toArray } ∧ u = .frz { cls := .type "list", data := .seq vs.toArray } (.lst (vs.map toV))) ∨
     (h.get? b = some { cls := .type "tuple", data := .seq vs.toArray } ∧ u = .frz { cls := .type "tuple", data := .seq vs.toArray } (.tup (vs.map toV)))) := by
  obtain ⟨hb, hk⟩ := of_argH q
  obtain ⟨vs, h1, h2, h3⟩ := ar b hb
  refine ⟨hk, vs, h1, h2, ?_⟩
  rcases h3 with e | e
  · rw [argH_at hb hk e, hoOf_lst] at q
    exact .inl ⟨e, (Option.some.inj q).symm⟩
  · rw [argH_at hb hk e, hoOf_tup] at q
    exact .inr ⟨e, (Option.some.inj q).symm⟩
theorem argH_only (ar : ∀ a ∈ A, ArgOb h A a) : OnlyF (argH K h A) := fun b => by
  cases q : argH K h A b with
  | none => exact .inl rfl
  | some u =>
    obtain ⟨_, vs, _, _, ⟨_, e⟩ | ⟨_, e⟩⟩ := argH_is ar q
    · exact .inr ⟨_, _, by rw [e]⟩
    · exact .inr ⟨_, _, by rw [e]⟩
theorem argH_ok (ar : ∀ a ∈ A, ArgOb h A a) : HOk P w (argH K h A) h := fun b u q => by
  obtain ⟨_, vs, h1, h2, ⟨e, rfl⟩ | ⟨e, rfl⟩⟩ := argH_is ar q
  · exact ⟨e, by rw [List.length_map]; exact h1, vs, _, vals_toV h2, e⟩
  · exact ⟨e, by rw [List.length_map]; exact h1, vs, vals_toV h2, _, e, rfl, _, rfl⟩
theorem seq_inj {c c' : Value} {vs us : List Value} (e : (some { cls := c, data := .seq vs.toArray } : Option Obj) = some { cls := c', data := .seq us.toArray }) : c = c' ∧ vs = us := by
  have e1 := Option.some.inj e
  have e2 : c = c' := congrArg Obj.cls e1
  have e3 : Data.seq vs.toArray = Data.seq us.toArray := congrArg Obj.data e1
  injection e3 with e4
  refine ⟨e2, ?_⟩
  have e5 := congrArg Array.toList e4
  simpa using e5
theorem argL (KX : K.In h) (ar : ∀ a ∈ A, ArgOb h A a) {a : Addr} {vs : List Value} (ha : a ∈ A) (e : h.get? a = some { cls := .type "list", data := .seq vs.toArray }) : (∀ u ∈ vs, OkU A u) ∧ SqL K (argH K h A) a (vs.map toV) := by
  obtain ⟨us, h1, h2, h3⟩ := ar a ha
  have hu : us = vs := by
    rcases h3 with q | q
    · rw [e] at q
      exact (seq_inj q).2.symm
    · rw [e] at q
      exact absurd (Value.type.inj (seq_inj q).1) (by decide)
  subst hu
  refine ⟨h2, ?_⟩
  cases hk : K.lookup a with
  | none => exact .inl (.inr ⟨_, by rw [argH_at ha hk e, hoOf_lst]⟩)
  | some o =>
    have e2 := KX a o hk
    rw [e] at e2
    obtain rfl := Option.some.inj e2
    exact .inr ⟨_, us.toArray, _, hk, rfl, rfl, rfl, by rw [List.size_toArray]; exact h1, by simpa using vals_toV h2⟩
theorem argT (KX : K.In h) (ar : ∀ a ∈ A, ArgOb h A a) {a : Addr} {vs : List Value} (ha : a ∈ A) (e : h.get? a = some { cls := .type "tuple", data := .seq vs.toArray }) : (∀ u ∈ vs, OkU A u) ∧ SqT K (argH K h A) a (vs.map toV) := by
  obtain ⟨us, h1, h2, h3⟩ := ar a ha
  have hu : us = vs := by
    rcases h3 with q | q
    · rw [e] at q
      exact absurd (Value.type.inj (seq_inj q).1) (by decide)
    · rw [e] at q
      exact (seq_inj q).2.symm
  subst hu
  refine ⟨h2, ?_⟩
  cases hk : K.lookup a with
  | none => exact .inl (.inr ⟨_, by rw [argH_at ha hk e, hoOf_tup]⟩)
  | some o =>
    have e2 := KX a o hk
    rw [e] at e2
    obtain rfl := Option.some.inj e2
    exact .inr ⟨_, us.toArray, _, hk, rfl, rfl, by rw [List.size_toArray]; exact h1, by simpa using vals_toV h2⟩
mutual
theorem dw_one {Pm : Params} (KX : K.In h) (ar : ∀ a ∈ A, ArgOb h A a) : ∀ (d : WData) (v : Value), Well Pm h v d → plW d = true → OkU A v → Dw K (argH K h A) (toV v) d
  | .none, _, x, _, _ => by
    cases x
    exact .non
  | .bool b, _, x, _, _ => by
    cases x
    exact .bl b
  | .int i, _, x, _, _ => by
    cases x
    exact .int i
  | .str s, _, x, _, _ => by
    cases x
    exact .str s
  | .bytes b, _, x, _, _ => by
    cases x
    have z := Dw.byt (K := K) (H := argH K h A) b.toArray
    exact z
  | .list ds, _, x, p, hu => by
    obtain ⟨a, vs, rfl, ho, hall⟩ := well_list x
    obtain ⟨h2, hs⟩ := argL KX ar hu ho
    exact .lst hs (dw_all KX ar ds _ hall p h2)
  | .tuple ds, _, x, p, hu => by
    obtain ⟨a, vs, rfl, ho, hall⟩ := well_tuple x
    obtain ⟨h2, hs⟩ := argT KX ar hu ho
    exact .tup hs (dw_all KX ar ds _ hall p h2)
  | .float _, _, _, p, _ => Bool.noConfusion (show false = true from p)
  | .dict _, _, _, p, _ => Bool.noConfusion (show false = true from p)
  | .bytearray _, _, _, p, _ => Bool.noConfusion (show false = true from p)
  | .set _, _, _, p, _ => Bool.noConfusion (show false = true from p)
  | .frozenset _, _, _, p, _ => Bool.noConfusion (show false = true from p)
  | .obj _ _, _, _, p, _ => Bool.noConfusion (show false = true from p)
theorem dw_all {Pm : Params} (KX : K.In h) (ar : ∀ a ∈ A, ArgOb h A a) : ∀ (ds : List WData) (vs : List Value), WellAll Pm h vs ds → plWs ds = true → (∀ u ∈ vs, OkU A u) → DwAll K (argH K h A) (vs.map toV) ds
  | [], _, x, _, _ => by
    cases x
    exact .nil
  | d :: ds, _, x, p, hu => by
    obtain ⟨v, vs, rfl, x1, x2⟩ := well_cons x
    have q : plW d = true ∧ plWs ds = true := Bool.and_eq_true_iff.mp p
    exact .cons (dw_one KX ar d v x1 q.1 (hu _ (List.mem_cons_self ..))) (dw_all KX ar ds vs x2 q.2 fun u m => hu u (List.mem_cons_of_mem _ m))
end
end
theorem spec_call {P : Program} {w : World} {K : PySem.W.Frag} {mg mb : Str → Option Value} {CX : CXT} {k : Nat} {fa : Addr} {fd : FuncData} {ps : List Str} {sp : Sp} {s₁ : Shared} {vals : List Value} {ds : List WData} {R : PySem.W.WRecords} {cl : Str → Option Addr} {d0 : WData}
    (KX : K.In s₁.heap) (hns : s₁.heap.Ns mainGlobals mg) (hb : s₁.heap.Ns builtinsNs mb) (hbb : ∀ x : Str, x ≠ "__name__" → mb x = bootBuiltins x) (hlim : s₁.heap.NoLimit) (hg : s₁.gens = #[])
    (hwl : WellAll w.params s₁.heap vals ds) (hpl : plWs ds = true) (hwt : ∀ d ∈ ds, d.weight ≤ 1048576) (hr : Room k callerA)
    (F : ∀ base : Heap, K.In base → base.Ns mainGlobals mg → FnOk P w K mg base CX k fa fd ps sp) (hbind : ∀ (s : Shared) (us : List Value), us.length = ps.length → BindsTo s fd ⟨us, []⟩ (ps.zip us)) (hlen : ds.length = ps.length)
    (hsp : ∀ (H : Hp) (xs : List V), OnlyF H → DwAll K H xs ds → sp xs H (fun v H' => Dw K H' v d0) fun _ _ _ => False)
    (hCX : ∀ H e s', CX [] H s₁ (fun _ _ _ => False) e s' → False) :
    codeAny (model P w) callerA (.call (.ref fa) ⟨vals, []⟩) (fun r s' => ∃ u as, r = .ok (.ret u) ∧ ReadsW R cl s'.heap u d0 as ∧ OldK s₁.heap s'.heap ∧ s'.os = s₁.os ∧ AllBare s'.gens) s₁ := by
  obtain ⟨A, ho, ar⟩ := area_all ds vals hwl hpl hwt
  have hO : OnlyF (argH K s₁.heap A) := argH_only ar
  have hok : HOk P w (argH K s₁.heap A) s₁.heap := argH_ok ar
  have hS := dw_all KX ar ds vals hwl hpl ho
  have hV := vals_toV ho
  have hK : ∀ b u, argH K s₁.heap A b = some u → K.lookup b = none := fun b u q => (argH_is ar q).1
  have noA : ∀ {b : Addr} {o : Obj} {es : Array DictEntry} {ep : Nat}, s₁.heap.get? b = some o → o.data = .dict es ep → argH K s₁.heap A b = none := fun {b o es ep} e d => by
    cases q : argH K s₁.heap A b with
    | none => rfl
    | some u =>
      obtain ⟨_, vs, _, _, ⟨e2, _⟩ | ⟨e2, _⟩⟩ := argH_is ar q
      · rw [e2] at e
        cases e
        have d' : Data.seq vs.toArray _ = Data.dict es ep := d
        cases d'
      · rw [e2] at e
        cases e
        have d' : Data.seq vs.toArray _ = Data.dict es ep := d
        cases d'
  generalize argH K s₁.heap A = H at hO hok hS hK noA
  have base_of : ∀ {b : Addr} {o : Obj}, s₁.heap.get? b = some o → H b = none → (hidT s₁.heap H).get? b = some o := fun e n => hidT_get e n
  have nsK : ∀ {b : Addr} {m : Str → Option Value}, s₁.heap.Ns b m → (hidT s₁.heap H).Ns b m := fun {b m} ⟨o, es, ep, e, d, r⟩ => ⟨o, es, ep, base_of e (noA e d), d, r⟩
  have nK : ∀ b o, K.lookup b = some o → H b = none := fun b o e => by
    cases q : H b with
    | none => rfl
    | some u =>
      rw [hK b u q] at e
      cases e
  have hKb : K.In (hidT s₁.heap H) := fun b o e => base_of (KX b o e) (nK b o e)
  have hM : Mod K mg (hidT s₁.heap H) := ⟨hKb, nsK hns, ⟨mb, nsK hb, hbb⟩, let ⟨mc, h1, h2⟩ := hlim; ⟨mc, nsK h1, h2⟩⟩
  have e0 : Env0 P w K mg (hidT s₁.heap H) callerA [] s₁ H := ⟨rfl, hM, fun b o e => of_hidT e, Nat.le_of_eq (hidT_size _ _), trivial, fun b hb => absurd (show b ∈ ([] : List Addr) from hb) (by simp), hok, .of_eq hg⟩
  have hl : vals.length = ps.length := by rw [wellAll_len hwl]; exact hlen
  refine codeAny_mono ((F _ hKb (nsK hns)).run callerA [] s₁ H ⟨vals, []⟩ vals (vals.map toV) _ _ hr e0 (hbind s₁ vals hl) hV (hsp H _ hO hS)) fun r s' x => ?_
  cases r with
  | error e => exact (hCX H e s' x).elim
  | ok fl =>
    cases fl with
    | next => exact False.elim x
    | brk => exact False.elim x
    | cont => exact False.elim x
    | ret u =>
      obtain ⟨v, H', os, bare, un, hok', r', q⟩ := x
      have kept : ∀ b o, s₁.heap.get? b = some o → s'.heap.get? b = some o := fun b o e => by
        cases q2 : H b with
        | none => exact un.keep b o e q2 (by intro z; exact absurd (show b ∈ ([] : List Addr) from z) (by simp)) (by simp)
        | some u2 =>
          rcases hO b with z | ⟨ob, u3, z⟩
          · rw [q2] at z
            cases z
          · have z2 := un.frzs b ob _ z
            obtain ⟨e1, _⟩ := hok b _ z
            obtain ⟨e2, _⟩ := hok' b _ z2
            rw [e] at e1
            cases e1
            exact e2
      have KX' : K.In s'.heap := fun b o e => kept b o (KX b o e)
      obtain ⟨as, hrd⟩ := Dw.reads (R := R) (cl := cl) hok' KX' d0 v u q r'
      exact ⟨u, as, rfl, hrd, OldK.of_keep kept, os, bare⟩
theorem layable_weight {ds : List WData} (h : WData.layableAll ds = true) : ∀ d ∈ ds, d.weight ≤ 1048576 := fun d hd =>
  (PySem.W.layableW_iff.mp (List.all_eq_true.mp h d hd)).2.2
theorem encAll_len : ∀ (cs : List Codec) (a : Codec.denoteAll cs), (Codec.encAll cs a).length = cs.length
  | [], _ => rfl
  | c :: cs, a => by
    show (Codec.encAll cs a.2).length + 1 = cs.length + 1
    rw [encAll_len cs a.2]
theorem walk_spec {r : OpenSpec} {k : Nat} {q : Program} {loose : List Str} {XP : (Str → Option Value) → Heap → Prop} {YP : World → Heap → Prop} {d : DefRec} {K : Params → PySem.W.Frag} {CX : World → CXT} {ps : List Str} {sp : World → Sp}
    (hwell : r.wellSaid = true) (hdf : d.params.defaults = []) (hlen : r.args.length = ps.length) (hr : Room k callerA)
    (hY : ∀ (w : World) (h : Heap), YP w h → (K w.params).In h)
    (F : ∀ (w : World) (mg : Str → Option Value) (fa : Addr) (h : Heap), YP w h → (K w.params).In h → h.Ns mainGlobals mg → mg d.name = some (.ref fa) →
      ∃ fd : FuncData, (∀ (s : Shared) (us : List Value), us.length = ps.length → BindsTo s fd ⟨us, []⟩ (ps.zip us)) ∧
        ∀ base : Heap, (K w.params).In base → base.Ns mainGlobals mg → FnOk r.prog w (K w.params) mg base (CX w) k fa fd ps (sp w))
    (hsp : ∀ (w : World) (H : Hp) (xs : List V) (a : Codec.denoteAll r.args), OnlyF H → Codec.withinAll r.args a = true → Codec.app r.args r.asked a = true → DwAll (K w.params) H xs (Codec.encAll r.args a) →
      sp w xs H (fun v H' => Dw (K w.params) H' v (r.ret.enc (Codec.app r.args r.f a))) fun _ _ _ => False)
    (hCX : ∀ (w : World) (H : Hp) (s : Shared) (e : Value) (s' : Shared), CX w [] H s (fun _ _ _ => False) e s' → False) :
    PySem.W.WalkOS q loose XP YP r d [] (fun f vs => PySem.call f vs) := by
  intro w s_0 s₁ mg mb G Y fa o pm cd doc dV kV ho hd hcd hD hmg hg args vals as hpre hlay hrd hwl hlo
  obtain ⟨a, e1, e2⟩ := PySem.W.os_pre_some hpre
  obtain ⟨e3, hwi⟩ := Codec.encAll_of_decAll r.args args a e1
  subst e3
  have KX := hY w _ Y
  obtain ⟨fd, hb, hF⟩ := F w mg fa _ Y KX G.T.g hmg
  refine PySem.W.enter_call (codeAny_mono (spec_call (R := []) (cl := classAt s_0.heap) (d0 := r.ret.enc (Codec.app r.args r.f a)) KX G.T.g G.T.b G.T.builtins G.T.nolimit hg hwl (pl_encAll _ _) (layable_weight hlay) hr hF hb (by rw [encAll_len]; exact hlen)
    (fun H xs hO hS => hsp w H xs a hO hwi e2 hS) fun H e s' => hCX w H s₁ e s') fun r' s' hq => ?_)
  obtain ⟨u, as', rfl, h1, h2, h3, h4⟩ := hq
  exact ⟨.inl ⟨u, _, as', rfl, fun _ => rfl, h1, (OpenSpec.post_iff hwell hwi _ _).mpr rfl, fun z => Bool.noConfusion (show false = true from z)⟩, h2, h3, h4⟩
end L2
end
set_option Elab.async false
set_option linter.all false
set_option maxRecDepth 100000
set_option maxHeartbeats 2000000
namespace LX
open PySem PySem.Spec PyProof.Rows L2
theorem dict_mf (f : Array Value → Array Value) (o : Obj) : (o.mapFields f).dict = o.dict := by
  obtain ⟨c, d, dt, sl⟩ := o
  cases dt <;> rfl
noncomputable def Exc (h : Heap) (x C : Addr) (dx : Option Addr) (ts : List Addr) : Prop :=
  ∃ oe vs, h.get? x = some oe ∧ oe.cls = .ref C ∧ oe.dict = dx ∧ oe.data = .fields vs ∧
    ((ts = [] ∧ vs[1]? = some .none) ∨ ∃ T oT tv, ts = [T] ∧ vs[1]? = some (.ref T) ∧ T ≠ x ∧ h.get? T = some oT ∧ oT.data = .fields tv ∧ tv[3]? = some .none)
section
variable {M : Model} {A : Around} {E : Value → Shared → Prop} {s : Shared}
theorem entryX {base : Heap} {env : Env} {outer : List Env} {L x C : Addr} {dx : Option Addr} {oe : Obj} {vs : Array Value} {head : Value} {had : Bool} {Q : Unit → Shared → Prop}
    (hfr : A.frames = some (env :: outer)) (hl : s.heap.FunFrames base (env :: outer)) (hf : env.frame = some L)
    (he : s.heap.get? x = some oe) (hc : oe.cls = .ref C) (hdi : oe.dict = dx) (hd : oe.data = .fields vs) (hsz : 1 < vs.size)
    (h : ∀ h' T, Exc h' x C dx [T] → s.heap.objs.size ≤ T → (∀ b o, b ∉ frs (env :: outer) → b ≠ x → s.heap.get? b = some o → h'.get? b = some o) →
      (∀ b o, b ∈ frs (env :: outer) → s.heap.get? b = some o → ∃ sl, h'.get? b = some { o with slots := sl }) → Q () { s with heap := h' }) :
    wpAny M A (do let a ← frameOf env; let pl ← entryPlaceOf L had; let b ← EntryCells.newEntry head a .none (rawInt L) .none pl; setField (.ref x) 1 b)
      (fun _ s' => wpAny M A (setFlight (.ref x) none) Q E s') E s := by
  have nx : x ∉ (env :: outer).filterMap (·.frame) := fun hm => by
    obtain ⟨_, o, ho, nf⟩ := hl.mem hm
    rw [he] at ho
    cases ho
    exact nf vs hd
  refine wpAny_bind (wpAny_frameOf_fun hfr hl hf fun h1 s1 => ?_)
  refine wpAny_bind (wpAny_entryPlaceOf fun pl hpl => ?_)
  unfold EntryCells.newEntry
  unfold newFields
  refine wpAny_bind (wpAny_newObj_type ?_ (hpl.sizeOk5 _ _ _ _ _))
  generalize hN : ({ cls := .type "traceback", dict := none, data := .fields ([head, .ref L, .none, rawInt L, .none] ++ (if pl.isEmpty then List.replicate 6 Value.none else pl)).toArray } : Obj) = nt
  have ed : nt.data = .fields ([head, .ref L, .none, rawInt L, .none] ++ (if pl.isEmpty then List.replicate 6 Value.none else pl)).toArray := by rw [← hN]
  have ef : nt.isFreed = false := Obj.isFreed_of_fields ed
  have x1 : h1.get? x = some oe := (s1.2.1 x nx).trans he
  have x2 := Heap.get?_push_of_some (h := h1) nt x1
  refine wpAny_setField x2 hd hsz ?_
  have nT : h1.objs.size ≠ x := Nat.ne_of_gt (Heap.lt_size x1)
  have d3 := Obj.data_mapFields hd (·.setIfInBounds 1 (Value.ref h1.objs.size))
  have x3 := Heap.get?_update_self (Obj.mapFields (·.setIfInBounds 1 (Value.ref h1.objs.size))) x2 (Obj.isFreed_of_fields d3)
  have t3 := (Heap.get?_update_other (h1.push nt) (Obj.mapFields (·.setIfInBounds 1 (Value.ref h1.objs.size))) (Ne.symm nT)).trans (Heap.get?_push_size h1 ef)
  unfold setFlight
  refine wpAny_bind (wpAny_field x3 d3 (x := .ref h1.objs.size) (by simp [hsz]) ?_)
  rw [if_pos (show (Value.ref h1.objs.size != Value.none) = true from by simp)]
  refine wpAny_setField t3 ed (by simp only [List.size_toArray, List.length_append, List.length_cons, List.length_nil] <;> omega) ?_
  have keep : ∀ b o, b ≠ x → h1.get? b = some o → (((h1.push nt).update x (Obj.mapFields (·.setIfInBounds 1 (Value.ref h1.objs.size)))).update h1.objs.size
      (Obj.mapFields (·.setIfInBounds 3 ((none : Option Addr).elim Value.none fun f => rawInt f)))).get? b = some o := fun b o hb e => by
    rw [Heap.get?_update_other _ _ (Nat.ne_of_gt (Heap.lt_size e)), Heap.get?_update_other _ _ (Ne.symm hb)]
    exact Heap.get?_push_of_some _ e
  refine h _ h1.objs.size ?_ ?_ (fun b o hb hx e => keep b o hx ((s1.2.1 b hb).trans e)) fun b o hb e => ?_
  · refine ⟨_, _, (Heap.get?_update_other _ _ nT).trans x3, (Obj.cls_mapFields _ _).trans hc, (dict_mf _ _).trans hdi, d3, .inr ⟨h1.objs.size, _, _, rfl, by simp [hsz], nT, Heap.get?_update_self _ t3 (Obj.isFreed_of_fields (Obj.data_mapFields ed _)), Obj.data_mapFields ed _, ?_⟩⟩
    first | (simp; done) | (rcases hpl with rfl | ⟨_, _, _, _, _, _, _, rfl⟩ <;> simp)
  · exact Nat.le_of_eq s1.1.symm
  · obtain ⟨sl, q⟩ := s1.2.2 b o e
    refine ⟨sl, keep b _ (fun z => nx ?_) q⟩
    rw [← z]
    exact hb
theorem noteX {base : Heap} {env : Env} {outer : List Env} {L x C : Addr} {dx : Option Addr} {ts : List Addr} {Q : Unit → Shared → Prop}
    (hfr : A.frames = some (env :: outer)) (hl : s.heap.FunFrames base (env :: outer)) (hf : env.frame = some L) (X : Exc s.heap x C dx ts)
    (h : ∀ h' T, Exc h' x C dx [T] → s.heap.objs.size ≤ T → (∀ b o, b ∉ frs (env :: outer) → b ≠ x → b ∉ ts → s.heap.get? b = some o → h'.get? b = some o) →
      (∀ b o, b ∈ frs (env :: outer) → s.heap.get? b = some o → ∃ sl, h'.get? b = some { o with slots := sl }) → Q () { s with heap := h' }) :
    wpAny M A (noteFrame (.ref x) env) (fun _ s' => wpAny M A (setFlight (.ref x) none) Q E s') E s := by
  obtain ⟨oe, vs, he, hc, hdi, hd, ⟨rfl, h1⟩ | ⟨T0, oT, tv, rfl, h1, nT, hT, dT, h3⟩⟩ := X
  · unfold noteFrame
    simp only [hf]
    refine wpAny_bind (wpAny_field he hd h1 ?_)
    rw [if_neg (by decide)]
    exact entryX hfr hl hf he hc hdi hd (Array.getElem?_eq_some_iff.mp h1).1 fun h' T z1 z2 z3 z4 => h h' T z1 z2 (fun b o q1 q2 _ => z3 b o q1 q2) z4
  · unfold noteFrame
    simp only [hf]
    refine wpAny_bind (wpAny_field he hd h1 ?_)
    rw [if_pos (show (Value.ref T0 != Value.none) = true from by simp)]
    refine wpAny_bind (wpAny_field hT dT h3 ?_)
    rw [if_neg (show ¬ ((Value.none == rawInt L) = true) from by simp [rawInt])]
    refine wpAny_bind (wpAny_setField hT dT (Array.getElem?_eq_some_iff.mp h3).1 ?_)
    have oth : ∀ b, b ≠ T0 → (s.heap.update T0 (Obj.mapFields (·.setIfInBounds 3 Value.none))).get? b = s.heap.get? b := fun b hb => Heap.get?_update_other _ _ (Ne.symm hb)
    have nfr : ∀ b o, s.heap.get? b = some o → (∀ z, o.data ≠ .fields z) → b ≠ T0 := fun b o hb nf q => by
      rw [q, hT] at hb
      cases hb
      exact nf tv dT
    refine entryX hfr (hl.of_keeps fun b o hb nf => ⟨o, (oth b (nfr b o hb nf)).trans hb, rfl⟩) hf ((oth x (Ne.symm nT)).trans he) hc hdi hd (Array.getElem?_eq_some_iff.mp h1).1 fun h' T z1 z2 z3 z4 => h h' T z1 ?_ (fun b o q1 q2 q3 e => ?_) fun b o hb e => ?_
    · exact Nat.le_trans (Nat.le_of_eq (Heap.size_after_update ..).symm) z2
    · exact z3 b o q1 q2 ((oth b (fun z => q3 (by rw [z]; exact List.mem_singleton.mpr rfl))).trans e)
    · refine z4 b o hb ((oth b ?_).trans e)
      obtain ⟨_, o', ho', nf⟩ := hl.mem hb
      rw [e] at ho'
      cases ho'
      exact nfr b o e nf
end
end LX
set_option Elab.async false
set_option linter.all false
set_option maxRecDepth 100000
set_option maxHeartbeats 2000000
namespace LX
open PySem PySem.Spec PyProof.Rows L2
noncomputable def CX1 (P : Program) (w : World) : CXT := fun outer H s E e s' =>
  ∃ (x C T : Addr) (dx : Option Addr) (H' : Hp), e = .ref x ∧ s'.os = s.os ∧ AllBare s'.gens ∧ Un (frs outer) [] H H' s.heap s'.heap ∧ HOk P w H' s'.heap ∧
    Exc s'.heap x C dx [T] ∧ H' x = none ∧ H' T = none ∧ s.heap.objs.size ≤ x ∧ s.heap.objs.size ≤ T ∧ E (.ref C) dx H'
theorem hok_noted {P : Program} {w : World} {H : Hp} {h h' : Heap} {fr ts : List Addr} {x : Addr} (hok : HOk P w H h) (hfr : ∀ b ∈ fr, H b = none) (hx : H x = none) (ht : ∀ T ∈ ts, H T = none)
    (k : ∀ b o, b ∉ fr → b ≠ x → b ∉ ts → h.get? b = some o → h'.get? b = some o) : HOk P w H h' := fun a o e => by
  have go : ∀ b u, H b ≠ none → h.get? b = some u → h'.get? b = some u := fun b u hb q =>
    k b u (fun z => hb (hfr b z)) (fun z => hb (by rw [z]; exact hx)) (fun z => hb (ht b z)) q
  refine (hok a o e).stay (fun b u hb q => go b u ?_ q) (fun _ q => q) fun _ _ q => q
  rcases hb with rfl | hb
  · rw [e]; exact fun z => nomatch z
  · rw [hb]; exact fun z => nomatch z
section
variable {X : Cx} {pins : List (Addr × Obj)} {σ : L2.St} {H : Hp} {s : Shared} {x C : Addr} {dx : Option Addr} {ts : List Addr}
theorem frame_own (I : Inv X pins σ H s) (hst : X.stack = X.env :: X.outer) : X.env.frame = some X.env.locals := by
  rcases I.ok.stk with e | ⟨e, q⟩
  · have z := congrArg List.length (e.symm.trans hst)
    simp at z
  · exact q
theorem Inv.noted (I : Inv X pins σ H s) {h' : Heap} (hx : H x = none) (ht : ∀ T ∈ ts, H T = none) (nx : X.s_0.heap.objs.size ≤ x) (nt : ∀ T ∈ ts, X.s_0.heap.objs.size ≤ T) (hex : X.ex = [])
    (px : ∀ p ∈ X.pn ++ pins, p.1 ≠ x ∧ p.1 ∉ ts) (hst : X.stack = X.env :: X.outer) (hdx : ∀ y c, X.env.cells.lookup y = some c → c ≠ x ∧ c ∉ ts) (hL : X.env.locals ≠ x ∧ X.env.locals ∉ ts)
    (k : ∀ b o, b ∉ frs X.stack → b ≠ x → b ∉ ts → s.heap.get? b = some o → h'.get? b = some o) (k2 : ∀ b o, b ∈ frs X.stack → s.heap.get? b = some o → ∃ sl, h'.get? b = some { o with slots := sl }) : Inv X pins σ H { s with heap := h' } := by
  have fl : X.env.frame = some X.env.locals := frame_own I hst
  have mem : ∀ b, b ∈ frs X.stack ↔ b = X.env.locals ∨ b ∈ X.fs := fun b => by
    rw [hst]
    unfold frs
    rw [List.filterMap_cons, fl]
    exact List.mem_cons
  refine I.step (g' := s.gens) (d' := s.drawn) (t' := s.toks) (ch := x :: ts) (fun b hb => ?_) (fun b o h1 h2 h3 e n => ?_) (fun b o h1 h2 h3 e n => ?_) (fun b o h3 e n => n) (fun b o h3 e => ?_) (fun _ _ q => q) (fun _ _ _ q => q) (fun b ps q => ⟨#[], by rw [q]; simp⟩) (fun m hm => ?_) ?_ I.bare
  · have : b = x ∨ b ∈ ts := List.mem_cons.mp hb
    refine ⟨.inr ?_, ?_, fun y c e z => ?_, fun p hp z => ?_⟩
    · rcases this with rfl | q
      · exact nx
      · exact nt b q
    · rcases this with rfl | q
      · exact fun z => hL.1 z.symm
      · exact fun z => hL.2 (z ▸ q)
    · rcases this with rfl | q
      · exact (hdx y c e).1 z
      · exact (hdx y c e).2 (z ▸ q)
    · rcases this with rfl | q
      · exact (px p hp).1 z
      · exact (px p hp).2 (z ▸ q)
  · exact k b o (fun z => ((mem b).mp z).elim h1 h2) (fun z => h3 (List.mem_cons.mpr (.inl z))) (fun z => h3 (List.mem_cons_of_mem _ z)) e
  · exact k2 b o ((mem b).mpr (.inr h2)) e
  · by_cases hb : b ∈ frs X.stack
    · obtain ⟨sl, q⟩ := k2 b o hb e
      exact ⟨_, q⟩
    · exact ⟨o, k b o hb (fun z => h3 (List.mem_cons.mpr (.inl z))) (fun z => h3 (List.mem_cons_of_mem _ z)) e⟩
  · obtain ⟨o, es, ep, ho, r⟩ := hm
    obtain ⟨sl, q⟩ := k2 _ o ((mem _).mpr (.inl rfl)) ho
    exact ⟨_, es, ep, q, r⟩
  · exact hok_noted I.hok (fun b hb => I.stkFree b hb) hx ht k
end
section
variable {P : Program} {w : World} {K : PySem.W.Frag} {mg : Str → Option Value} {base : Heap} {N : List Str} {qual : Str} {scope : Scope} {f : Addr} {cd : Value} {A : Around} {outer : List Env} {s : Shared} {H : Hp} {E : XK}
theorem leaveX {pins : List (Addr × Obj)} {σ : L2.St} {H1 : Hp} {s1 : Shared} {x C : Addr} {dx : Option Addr} {ts : List Addr} (I : Inv (cxOf (CX1 P w) P w K mg base N qual scope f cd A outer s H E) pins σ H1 s1)
    (hX : Exc s1.heap x C dx ts) (hx : H1 x = none) (ht : ∀ T ∈ ts, H1 T = none) (nx : s.heap.objs.size ≤ x) (nt : ∀ T ∈ ts, s.heap.objs.size ≤ T) (hE : E (.ref C) dx H1) :
    (cxOf (CX1 P w) P w K mg base N qual scope f cd A outer s H E).xe (.ref x) s1 := by
  have fr := I.ok.frames
  have fs := I.stack
  have ff := I.stkFree
  refine wpAny_bind (noteX (base := base) (L := s.heap.objs.size) (env := envOfC qual scope s.heap.objs.size f cd) (outer := outer) fr fs rfl hX fun h2 T z1 z2 z3 z4 => ?_)
  have szl : s.heap.objs.size ≤ s1.heap.objs.size := I.sz
  have nofr : ∀ b o, s.heap.get? b = some o → b ∉ frs outer → b ∉ frs (envOfC qual scope s.heap.objs.size f cd :: outer) := fun b o e hb z => by
    rcases List.mem_cons.mp (show b ∈ s.heap.objs.size :: frs outer from z) with q | q
    · exact absurd (Heap.lt_size e) (by rw [q]; exact Nat.lt_irrefl _)
    · exact hb q
  have nox : ∀ b o, s.heap.get? b = some o → b ≠ x ∧ b ∉ ts := fun b o e => ⟨fun q => absurd (Heap.lt_size e) (by rw [q]; exact Nat.not_lt.mpr nx), fun q => absurd (Heap.lt_size e) (Nat.not_lt.mpr (nt b q))⟩
  have U := I.base
  have e0 : (cxOf (CX1 P w) P w K mg base N qual scope f cd A outer s H E).ex = [] := rfl
  refine ⟨x, C, T, dx, H1, rfl, I.os, I.bare, ⟨fun b o e n hb _ => ?_, fun b o e n hb _ => ?_, fun b o e n hb => U.free b o e n hb, fun b o e hb => ?_, U.tups, U.frzs, U.tbls⟩, ?_, z1, hx, ?_, nx, Nat.le_trans szl z2, hE⟩
  · exact z3 b o (nofr b o e hb) (nox b o e).1 (nox b o e).2 (U.keep b o e n hb (by rw [e0]; simp))
  · obtain ⟨sl, q⟩ := U.slot b o e n hb (by rw [e0]; simp)
    obtain ⟨sl', q'⟩ := z4 b _ (List.mem_cons_of_mem _ hb) q
    exact ⟨sl', q'⟩
  · obtain ⟨o', q⟩ := U.there b o e hb
    by_cases hf : b ∈ frs (envOfC qual scope s.heap.objs.size f cd :: outer)
    · obtain ⟨sl, q'⟩ := z4 b o' hf q
      exact ⟨_, q'⟩
    · exact ⟨o', z3 b o' hf (nox b o e).1 (nox b o e).2 q⟩
  · exact hok_noted I.hok ff hx ht z3
  · exact I.hok.fresh z2
theorem passX : Passes (CX1 P w) (cxOf (CX1 P w) P w K mg base N qual scope f cd A outer s H E) E := by
  rintro pins σ H1 s1 e s2 I ⟨x, C, T, dx, H2, rfl, os, bare, un, hok, hX, hx, hT, nx, nT, hE⟩
  have I2 := I.call' (ch := []) os un hok bare fun b z => absurd z (by simp)
  have szl : s.heap.objs.size ≤ s1.heap.objs.size := I.sz
  exact leaveX I2 hX hx (fun T' z => by rw [List.mem_singleton.mp z]; exact hT) (Nat.le_trans szl nx) (fun T' z => by rw [List.mem_singleton.mp z]; exact Nat.le_trans szl nT) hE
theorem ownX : PassesOwn (model P w) (cxOf (CX1 P w) P w K mg base N qual scope f cd A outer s H E).A (cxOf (CX1 P w) P w K mg base N qual scope f cd A outer s H E).env (cxOf (CX1 P w) P w K mg base N qual scope f cd A outer s H E).xe := PassesOwn.leaving
end
end LX
set_option Elab.async false
set_option linter.all false
set_option maxRecDepth 100000
set_option maxHeartbeats 4000000
namespace LX
open PySem PySem.Spec PyProof.Rows PySem.W
noncomputable abbrev bornX (C t : Addr) : Obj := { cls := .ref C, data := .fields #[.ref t, .none, .none, .none, .bool false, .none] }
noncomputable abbrev tupX (vs : List Value) : Obj := { cls := .type "tuple", data := .seq vs.toArray }
section
variable {prog : Program} {w : World} {A : Around} {h : Heap} {g : Array GenState} {d : Drawn} {t : Nat} {os : OsState}
variable {nm q : Str} {C N : Addr} {bs bm : List Value} {hdct : Bool} {sn : List Str} {sub : List Value} {ab : Bool} {col : Option Bool} {dd : Option Addr} {k0 k1 k2 k3 k5 : Option Value}
theorem new_check {E : Value → Shared → Prop} {rest : List Value} {Q : Unit → Shared → Prop}
    (hC : h.get? C = some (excClassObj nm q C N bs bm hdct sn sub ab col dd k0 k1 k2 k3 k5 "Exception.__new__")) (hB : bm.contains (.type "Exception") = true) (hq : Q () ⟨h, g, d, t, os⟩) :
    wpAny (model prog w) A (checkBuiltinCall "Exception.__new__" ⟨.ref C :: rest, []⟩) Q E ⟨h, g, d, t, os⟩ := by
  have F := PySem.F.excBase_Exception
  have c1 : (Value.ref C :: bm).contains (.type "Exception") = true := by
    rw [List.contains_cons, hB]
    exact Bool.or_true _
  have ns := F.noStar
  simp only [checkBuiltinCall, F.newKind, F.newSplit, F.newRow]
  repeat (first
    | refine wpAny_loadPart_at hC ?_
    | (refine wpAny_isSubtype_exc hC ?_; rw [c1])
    | refine wpAny_staticBase_exc hC ?_
    | refine wpAny_madeBy_exc hC ?_
    | simp only [bne_self_eq_false, Bool.false_eq_true, if_false]
    | wp_step)
  exact hq
theorem new_X {R : Result → Shared → Prop} {rest : List Value} (hC : h.get? C = some (excClassObj nm q C N bs bm hdct sn sub ab col dd k0 k1 k2 k3 k5 "Exception.__new__"))
    (hB : bm.contains (.type "Exception") = true) (hA : bm.contains (.type "AttributeError") = false) (hN : bm.contains (.type "NameError") = false) (hz : rest.length ≤ sizeLine)
    (hq : R (.ok (.ret (.ref (h.objs.size + 1)))) ⟨(h.push (tupX rest)).push (bornX C h.objs.size), g, d, t, os⟩) :
    codeAny (model prog w) A (.builtin "Exception.__new__" ⟨.ref C :: rest, []⟩) R ⟨h, g, d, t, os⟩ := by
  have F := PySem.F.excBase_Exception
  have he := F.ends
  have c1 : (Value.ref C :: bm).contains (.type "Exception") = true := by
    rw [List.contains_cons, hB]
    exact Bool.or_true _
  have c2 : (Value.ref C :: bm).contains (.type "AttributeError") = false := by
    rw [List.contains_cons, hA]
    rfl
  have c3 : (Value.ref C :: bm).contains (.type "NameError") = false := by
    rw [List.contains_cons, hN]
    rfl
  refine codeAny_builtinAt F.entry ?_
  unfold Builtin.«BaseException.__new__»
  refine PySem.wpAt_bind ?_
  show PySem.wpAt _ _ _ (stack >>= _) _ _ _
  refine PySem.wpAt_bind (PySem.wpAt_stack fun p below => PySem.wpAt_of_wpAny ?_)
  wp_walk
  refine PySem.wpAt_of_wpAny ?_
  rw [F.owner]
  repeat (first
    | with_reducible refine wpAny_madeHere_exc F.canon hC ?_
    | with_reducible refine wpAny_loadPart_at hC ?_
    | (with_reducible refine wpAny_isSubtype_exc hC ?_; first | rw [c1] | rw [c2] | rw [c3])
    | wp_step)
  show R _ _
  rw [Heap.size_push]
  exact hq
theorem make_X {K : Frag} {R : Result → Shared → Prop} {rest : List Value} {fI : Addr} (KX : K.In h) (hk : K.lookup C = some (excClassObj nm q C N bs bm hdct sn sub ab col dd k0 k1 k2 k3 k5 "Exception.__new__"))
    (hB : bm.contains (.type "Exception") = true) (hA : bm.contains (.type "AttributeError") = false) (hN : bm.contains (.type "NameError") = false)
    (hc : specialIn K (.ref C) "__call__" = some (some (.builtin "type.__call__"))) (hty : instIn K (.ref C) (.type "type") = some true)
    (hi : findIn K (.ref C) "__init__" = some (some (.ref fI))) (hf : typeIn K (.ref fI) = some (.type "function")) (hz : rest.length ≤ sizeLine)
    (hq : codeAny (model prog w) (A.under (.builtin "type.__call__" ⟨.ref C :: rest, []⟩)) (.call (.ref fI) ⟨.ref (h.objs.size + 1) :: rest, []⟩) (InitBack (h.objs.size + 1) R) ⟨(h.push (tupX rest)).push (bornX C h.objs.size), g, d, t, os⟩) :
    codeAny (model prog w) A (.call (.ref C) ⟨rest, []⟩) R ⟨h, g, d, t, os⟩ := by
  have hC := KX _ _ hk
  have F := PySem.F.excBase_Exception
  have call : Looks (model prog w) h (specialOf (.ref C) "__call__") (some (.builtin "type.__call__")) := looks_specialIn KX hc
  have typ : Looks (model prog w) h (isInstance (.ref C) (.type "type")) true := looks_instIn KX hty
  refine codeAny_of_tree ?_
  show wpAny _ _ (callAny (.ref C) _) _ _ _
  refine nd_load hC ?_
  show wpAny _ _ (callAny.viaDunder (.ref C) _) _ _ _
  unfold callAny.viaDunder
  refine wpAny_bind (call.at ?_)
  dsimp only
  rw [tc_bind]
  refine wpAny_bind (wpAny_pure (wpAny_bind (wpAny_pure ?_)))
  refine wpAny_pure (a := Fin.again (.call (.builtin "type.__call__") ⟨.ref C :: rest, []⟩)) (And.intro rfl ?_)
  refine codeAny_call_builtin_at (Code.quiet_builtin _ (by decide +kernel)) entry_typeCall (check_slot tc_kind tc_split typ (tc_args _ _ _) ?_)
  repeat (first
    | with_reducible refine wpAny_loadPart_at hC ?_
    | with_reducible refine wpAny_madeBy_exc hC ?_
    | wp_step)
  refine codeAny_call_builtin_code (Code.quiet_builtin _ F.quiet) (new_check hC hB ?_)
  refine new_X hC hB hA hN hz ?_
  have k : ∀ b o, h.get? b = some o → ((h.push (tupX rest)).push (bornX C h.objs.size)).get? b = some o := fun b o e => Heap.get?_push_of_some _ (Heap.get?_push_of_some _ e)
  have hx : ((h.push (tupX rest)).push (bornX C h.objs.size)).get? (h.objs.size + 1) = some (bornX C h.objs.size) := by heap_get
  have hC1 := k _ _ hC
  have cC : (Value.ref C :: bm).contains (.ref C) = true := by simp
  have t1 : Looks (model prog w) ((h.push (tupX rest)).push (bornX C h.objs.size)) (typeOf (.ref (h.objs.size + 1))) (.ref C) := (Looks.ld hx).andThen .now
  have i1 : Looks (model prog w) ((h.push (tupX rest)).push (bornX C h.objs.size)) (typeLookup (.ref C) "__init__") (some (.ref fI)) := (looks_findIn KX hi).keeps k
  have b1 : Looks (model prog w) ((h.push (tupX rest)).push (bornX C h.objs.size)) (bindSpecial (.ref fI) (.ref (h.objs.size + 1))) (.ref fI, [.ref (h.objs.size + 1)]) := (bind_fn KX _ hf).keeps k
  show wpAny _ _ _ _ _ _
  unfold isInstance callSpecial? specialOf
  repeat (first
    | with_reducible refine wpAny_call ?_
    | (with_reducible refine wpAny_isSubtype_exc hC1 ?_; rw [cC])
    | lk)
  refine codeAny_mono hq fun r s' z => ?_
  rcases r with e | (v | _ | _ | _) <;> first | exact z | exact z.elim | skip
  obtain ⟨rfl, z⟩ := z
  exact wpAny_pure (wpAny_pure z)
end
end LX
set_option Elab.async false
set_option linter.all false
set_option maxRecDepth 100000
set_option maxHeartbeats 4000000
namespace LX
open PySem PySem.Spec PyProof.Rows PySem.W PySem.Builtin PySem.Builtin.ObjectAttr
noncomputable abbrev tailX : List Value := [.type "Exception", .type "BaseException", .type "object"]
structure XCls (K : Frag) (C : Addr) (rs : List Addr) : Prop where
  lk : ∃ (nm q : Str) (N : Addr) (bs : List Value) (sn : List Str) (sub : List Value) (ab : Bool) (col : Option Bool) (dd : Option Addr) (k0 k1 k2 k3 k5 : Option Value),
    K.lookup C = some (excClassObj nm q C N bs (rs.map Value.ref ++ tailX) true sn sub ab col dd k0 k1 k2 k3 k5 "Exception.__new__")
  call : specialIn K (.ref C) "__call__" = some (some (.builtin "type.__call__"))
  typ : instIn K (.ref C) (.type "type") = some true
  sa : findIn K (.ref C) "__setattr__" = some (some (.builtin "object.__setattr__"))
  ga : findIn K (.ref C) "__getattribute__" = some (some (.builtin "BaseException.__getattribute__"))
  gn : findIn K (.ref C) "__getattr__" = some none
theorem has_tail (v : Value) (rs : List Addr) (h : tailX.contains v = true) : (rs.map Value.ref ++ tailX).contains v = true := by
  rw [List.contains_iff_mem] at h ⊢
  exact List.mem_append_right _ h
theorem no_tail (n : String) (rs : List Addr) (h : tailX.contains (.type n) = false) : (rs.map Value.ref ++ tailX).contains (.type n) = false := by
  cases q : (rs.map Value.ref ++ tailX).contains (.type n) with
  | false => rfl
  | true =>
    rw [List.contains_iff_mem] at q
    rcases List.mem_append.mp q with z | z
    · obtain ⟨a, _, e⟩ := List.mem_map.mp z
      cases e
    · rw [← List.contains_iff_mem, h] at z
      cases z
theorem refuse_X (self : Value) (C : Addr) (rs : List Addr) : refuseLoop self "__setattr__" (.ref C :: (rs.map Value.ref ++ tailX)) = pure () := by
  rw [refuseLoop_ref]
  induction rs with
  | nil => exact PySem.F.store_Exception.passes self
  | cons c r ih =>
    rw [List.map_cons, List.cons_append, refuseLoop_ref]
    exact ih
theorem XCls.cls {K : Frag} {C : Addr} {rs : List Addr} (X : XCls K C rs) : ∃ cd, clsIn K C = some cd ∧ cd.mro = .ref C :: (rs.map Value.ref ++ tailX) ∧ cd.hasDict = true := by
  obtain ⟨nm, q, N, bs, sn, sub, ab, col, dd, k0, k1, k2, k3, k5, e⟩ := X.lk
  have c : clsIn K C = (match List.lookup C K with | some ⟨_, _, .cls cd, _⟩ => some cd | _ => none) := rfl
  rw [e] at c
  exact ⟨_, c, rfl, rfl⟩
theorem XCls.isx {K : Frag} {M : Model} {h : Heap} {C : Addr} {rs : List Addr} (X : XCls K C rs) (KX : K.In h) (v : Value) : Looks M h (isSubtype (.ref C) v) ((Value.ref C :: (rs.map Value.ref ++ tailX)).contains v) := by
  obtain ⟨cd, hc, hm, _⟩ := X.cls
  refine looks_mroIn KX ?_
  unfold mroIn
  rw [hc, Option.bind_some, hm]
  rfl
section
variable {prog : Program} {w : World} {A : Around} {E : Value → Shared → Prop} {s : Shared} {K : Frag} {x C : Addr} {rs : List Addr} {o : Obj} {mA : Str → Option Value} {name : Str} {v : Value}
theorem get_X {expr : Bool} {dx : Addr} {Q : Value → Shared → Prop} (KX : K.In s.heap) (X : XCls K C rs) (hx : s.heap.get? x = some o) (hc : o.cls = .ref C) (hno : notCls o = true) (hd : o.dict = some dx) (hn : s.heap.Ns1 dx mA)
    (ha : findIn K (.ref C) name = some none) (hv : mA name = some v) (hv' : handedIn v = true) (h : Q v { s with toks := s.toks + 1 }) :
    wpAny (model prog w) A (getAttr (.ref x) name expr) Q E s := by
  obtain ⟨od, hod, hl⟩ := L2.lookIn_ns hn
  obtain ⟨cd, h1, _, h3⟩ := X.cls
  have J : InstAt s.heap x o C (some od) := ⟨hx, hc, hno, by rw [hd]; exact hod⟩
  have hh : hasDictIn K C = true := by
    unfold hasDictIn
    rw [h1]
    exact h3
  have hf : findObj K C (some od) name = some (.value v) := findObj_own hh ha rfl (by rw [hl, hv])
  have sub : Looks (model prog w) s.heap (isInstance (.ref x) (.type "BaseException")) true := by
    have ty : Looks (model prog w) s.heap (typeOf (.ref x)) (.ref C) := by
      rw [← hc]
      exact (Looks.ld hx).andThen .now
    have q := ty.andThen (f := fun t => isSubtype t (.type "BaseException")) (X.isx KX (.type "BaseException"))
    have c : (Value.ref C :: (rs.map Value.ref ++ tailX)).contains (.type "BaseException") = true := by
      rw [List.contains_cons, has_tail _ _ (by decide +kernel)]
      exact Bool.or_true _
    rw [c] at q
    exact q
  obtain ⟨hp, g, d, t, os⟩ := s
  have L0 := J.type (M := model prog w)
  have L1 := looks_findIn (M := model prog w) KX X.ga
  have L2 := looks_findIn (M := model prog w) KX X.gn
  have LF := looks_find (M := model prog w) KX J hf
  have FB := PySem.F.attr_Exception
  have hx2 : (Value.builtin "BaseException.__getattribute__" == Value.builtin "object.__getattribute__") = false := by decide +kernel
  unfold getAttr getAttrBy
  refine wpAny_bind (wpAny_mkText (wpAny_holding (wpAny_bind (L0.at (wpAny_bind (L1.at ?_))))))
  show wpAny _ _ (if (onTheHeap (Value.ref C) && Value.builtin "BaseException.__getattribute__" == Value.builtin "object.__getattribute__") = true then _ else getAttrByItsOwn (.ref x) (.str name t) (.ref C) (.builtin "BaseException.__getattribute__") true expr) _ _ _
  rw [hx2, Bool.and_false, if_neg (by decide)]
  unfold getAttrByItsOwn hookBefore
  rw [if_pos (show onTheHeap (Value.ref C) = true from rfl)]
  refine wpAny_bind (L2.at ?_)
  refine wpAny_bind (wpAny_attempt (wpAny_holding ?_))
  unfold callGetattribute
  rw [if_neg (by cases expr <;> simp [onTheHeap])]
  unfold boundAndCalled
  refine wpAny_bind (wpAny_of_eq (FB.ga.bind (.ref x)) ?_)
  have hk : builtinKind "BaseException.__getattribute__" = some .slot := by decide +kernel
  have hsplit : splitId "BaseException.__getattribute__" = some ("BaseException", "__getattribute__") := by decide +kernel
  have hargs := PySem.F.args_bexc_ga (.ref x) (.str name t)
  refine wpAny_call ?_
  show codeAny _ _ (.call (.builtin "BaseException.__getattribute__") ⟨[.ref x, .str name t], []⟩) _ _
  refine codeAny_call_builtin FB.ga.plain PySem.F.entry_bexc_ga (@check_slot (model prog w) _ _ ⟨hp, g, d, t + 1, os⟩ "BaseException.__getattribute__" "BaseException" "__getattribute__" (.ref x) [.str name t] [] _ hk hsplit sub hargs ?_)
  unfold Builtin.«object.__getattribute__»
  refine wpAny_bind (wpAny_pure (wpAny_bind (wpAny_pure (wpAny_bind (L0.at (wpAny_bind (LF.at ?_)))))))
  refine wpAny_pure ?_
  show wpAny _ _ (handedOut v) _ _ _
  rw [handedOut_of hv']
  exact wpAny_pure h
theorem set_X {ns : List Str} {Q : Unit → Shared → Prop} (KX : K.In s.heap) (X : XCls K C rs) (hx : s.heap.get? x = some o) (hc : o.cls = .ref C) {vs : Array Value} (hda : o.data = .fields vs)
    (hd : (o.dict = none ∧ ∀ n, mA n = none) ∨ ∃ dx, o.dict = some dx ∧ dx ≠ x ∧ s.heap.Ns1 dx mA) (ht : takerIn K C name = some none) (hw : Within mA ns) (hsz : ns.length ≤ 1000)
    (h : ∀ h' t' dx, h'.get? x = some { o with dict := some dx } → h'.Ns1 dx (fun y => if y = name then some v else mA y) → dx ≠ x → (∀ b u, b ≠ x → b ≠ dx → s.heap.get? b = some u → h'.get? b = some u) →
      ((o.dict = none ∧ s.heap.objs.size ≤ dx) ∨ o.dict = some dx) → Q () { s with heap := h', toks := t' }) :
    wpAny (model prog w) A (setAttr (.ref x) name v) Q E s := by
  obtain ⟨cd, h1, h2, h3⟩ := X.cls
  have hno : notCls o = true := by
    unfold notCls
    rw [hda]
  have ty : Looks (model prog w) s.heap (typeOf (.ref x)) (.ref C) := by
    rw [← hc]
    exact (Looks.ld hx).andThen .now
  have SF := PySem.F.store_object
  obtain ⟨od, J⟩ : ∃ od, InstAt s.heap x o C od := by
    rcases hd with ⟨e, _⟩ | ⟨dx, e, _, hn⟩
    · exact ⟨none, hx, hc, hno, by rw [e]; trivial⟩
    · obtain ⟨od, hod, _⟩ := L2.lookIn_ns hn
      exact ⟨some od, hx, hc, hno, by rw [e]; exact hod⟩
  have sub : Looks (model prog w) s.heap (isInstance (.ref x) (.type "object")) true := by
    have q := ty.andThen (f := fun t => isSubtype t (.type "object")) (X.isx KX (.type "object"))
    have c : (Value.ref C :: (rs.map Value.ref ++ tailX)).contains (.type "object") = true := by
      rw [List.contains_cons, has_tail _ _ (by decide +kernel)]
      exact Bool.or_true _
    rw [c] at q
    exact q
  refine set_plain KX J X.sa ?_
  refine codeAny_call_builtin SF.slot.plain SF.entry (@check_slot (model prog w) _ _ { s with toks := s.toks + 1 } "object.__setattr__" "object" "__setattr__" (.ref x) [.str name s.toks, v] [] _ SF.kind SF.split sub (SF.args (.ref x) (.str name s.toks) v) ?_)
  obtain ⟨attr, ha, hr⟩ := Option.bind_eq_some_iff.mp ht
  have hm : Looks (model prog w) s.heap (mroOf (.ref C)) cd.mro := (looks_clsIn KX h1).andThen .now
  have L3 : Looks (model prog w) s.heap (storeTaker? attr) none := by
    cases attr with
    | none => cases hr; exact .now
    | some a =>
      obtain ⟨b, hb, e⟩ := Option.map_eq_some_iff.mp hr
      cases b with
      | true => cases e
      | false => exact (looks_takesIn KX hb).andThen .now
  rw [osa_eq, refuse_eq]
  refine wpAny_bind (wpAny_bind (Looks.here (s := { s with toks := s.toks + 1 }) ty (wpAny_bind (Looks.here (s := { s with toks := s.toks + 1 }) hm ?_))))
  rw [h2, refuse_X]
  refine wpAny_pure (wpAny_bind (Looks.here (s := { s with toks := s.toks + 1 }) ty (wpAny_bind (Looks.here (s := { s with toks := s.toks + 1 }) (looks_findIn KX ha) (wpAny_bind (Looks.here (s := { s with toks := s.toks + 1 }) L3 ?_))))))
  dsimp only
  rcases hd with ⟨e, hmA⟩ | ⟨dx, e, hne, hn⟩
  · have hx' : s.heap.get? x = some ⟨.ref C, none, .fields vs, o.slots⟩ := by
      rw [hx, ← hc, ← e, ← hda]
    refine wpAny_bind (wpAny_pure (wpAny_bind (wpAny_bind (wpAny_loadPart hx' (wpAny_bind (Looks.here (s := { s with toks := s.toks + 1 }) (looks_clsIn KX h1) ?_))))))
    rw [h3]
    have nxs : x ≠ s.heap.objs.size := Nat.ne_of_lt (Heap.lt_size hx)
    show wpAny _ _ ((alloc { cls := Value.type "dict", data := Data.dict #[] }) >>= _) _ _ _
    refine wpAny_bind (wpAny_alloc ?_)
    have hx1 := Heap.get?_push_of_some (h := s.heap) { cls := Value.type "dict", data := Data.dict #[] } hx
    refine wpAny_bind (wpAny_update hx1 ?_)
    refine wpAny_pure (a := some s.heap.objs.size) ?_
    show wpAny _ _ (storeInDict s.heap.objs.size (Value.str name s.toks) name v) _ _ _
    have hgd : ((s.heap.push { cls := Value.type "dict", data := Data.dict #[] }).update x fun o => { cls := o.cls, dict := some s.heap.objs.size, data := o.data, slots := o.slots }).get? s.heap.objs.size
        = some { cls := .type "dict", data := .dict #[] } := (Heap.get?_update_other _ _ nxs).trans (Heap.get?_push_size _ rfl)
    have hgx : ((s.heap.push { cls := Value.type "dict", data := Data.dict #[] }).update x fun o => { cls := o.cls, dict := some s.heap.objs.size, data := o.data, slots := o.slots }).get? x
        = some { o with dict := some s.heap.objs.size } := Heap.get?_update_self _ hx1 (Obj.isFreed_of_fields (o := { o with dict := some s.heap.objs.size }) (vs := vs) hda)
    have hnd : ((s.heap.push { cls := Value.type "dict", data := Data.dict #[] }).update x fun o => { cls := o.cls, dict := some s.heap.objs.size, data := o.data, slots := o.slots }).Ns s.heap.objs.size (fun _ => none) :=
      ⟨_, #[], _, hgd, rfl, fun e he => absurd he (by simp), fun _ => rfl⟩
    unfold storeInDict newKeyGuard
    refine wpAny_bind (wpAny_pure (wpAny_bind (wpAny_nsSet1 (Heap.Ns1.of_empty hnd) fun h' hn2 hs2 => ?_)))
    obtain ⟨oD, esD, epD, hoD, hdD, hcD⟩ := hn2.count (Within.cons name v Within.nil)
    refine wpAny_bind (wpAny_lookBehind hoD (by rw [hdD]; exact pastItsLine_dict (Nat.le_trans hcD (by rw [List.length_cons, List.length_nil, sizeLine_eq]; omega))) ?_)
    refine wpAny_pure ?_
    refine h _ _ s.heap.objs.size ((hs2.2 x nxs).trans hgx) ?_ (Ne.symm nxs) (fun b u hb hb2 q => (hs2.2 b hb2).trans ((Heap.get?_update_other _ _ (Ne.symm hb)).trans (Heap.get?_push_of_some _ q))) (.inl ⟨e, Nat.le_refl _⟩)
    obtain ⟨o', es, ep, e1, e2, e3, eu, e4⟩ := hn2
    refine ⟨o', es, ep, e1, e2, e3, eu, fun y => ?_⟩
    rw [e4 y]
    show (if y = name then some v else none) = if y = name then some v else mA y
    rw [hmA y]
  · have hx' : s.heap.get? x = some ⟨.ref C, some dx, .fields vs, o.slots⟩ := by
      rw [hx, ← hc, ← e, ← hda]
    refine wpAny_bind (wpAny_pure (wpAny_bind (wpAny_bind (wpAny_loadPart hx' (wpAny_bind (Looks.here (s := { s with toks := s.toks + 1 }) (looks_clsIn KX h1) ?_))))))
    rw [h3]
    refine wpAny_pure (a := some dx) (wpAny_bind (wpAny_pure (wpAny_bind ?_)))
    refine wpAny_nsSet1 (s := { s with toks := s.toks + 1 }) hn fun h' hn2 hs2 => ?_
    obtain ⟨oD, esD, epD, hoD, hdD, hcD⟩ := hn2.count (Within.cons name v hw)
    refine wpAny_bind (wpAny_lookBehind hoD (by rw [hdD]; exact pastItsLine_dict (Nat.le_trans hcD (by rw [List.length_cons, sizeLine_eq]; omega))) ?_)
    refine wpAny_pure ?_
    refine h _ _ dx ?_ hn2 hne (fun b u _ hb q => (hs2.2 b hb).trans q) (.inr e)
    rw [← e]
    exact (hs2.2 x (Ne.symm hne)).trans hx
end
end LX
set_option Elab.async false
set_option linter.all false
set_option maxRecDepth 100000
set_option maxHeartbeats 4000000
namespace LX
open PySem PySem.Spec PyProof.Rows L2
open PySem.W (Frag findIn specialIn instIn typeIn)
noncomputable def XO (x C : Addr) (dx : Option Addr) : HO := .ext fun h => Exc h x C dx []
noncomputable def XH (x C : Addr) (dx : Option Addr) : HO := .ext fun h => ∃ oe vs, h.get? x = some oe ∧ oe.cls = .ref C ∧ oe.dict = dx ∧ oe.data = .fields vs
noncomputable def XD (d : Addr) (fs : List (Str × V)) : HO := .ext fun h => ∃ mA, h.Ns1 d mA ∧ (∀ f, RelO (fs.lookup f) (mA f)) ∧ PySem.Within mA (fs.map (·.1))
section
variable {P : Program} {w : World} {H : Hp} {h : Heap} {x C d : Addr} {dx : Option Addr} {fs : List (Str × V)}
theorem xo_ok (e : Exc h x C dx []) : ObjOk P w H h x (XO x C dx) := by
  refine ⟨e, ?_, fun h1 h2 q k => ?_⟩
  · obtain ⟨oe, _, g, _⟩ := e
    exact ⟨oe, g⟩
  · obtain ⟨oe, vs, g, c, dd, da, ⟨_, z⟩ | ⟨T, _, _, z, _⟩⟩ := q
    · exact ⟨oe, vs, k _ g, c, dd, da, .inl ⟨rfl, z⟩⟩
    · cases z
theorem xo_get (e : ObjOk P w H h x (XO x C dx)) : Exc h x C dx [] := e.1
theorem xh_ok {oe : Obj} {vs : Array Value} (g : h.get? x = some oe) (c : oe.cls = .ref C) (dd : oe.dict = dx) (da : oe.data = .fields vs) : ObjOk P w H h x (XH x C dx) := by
  refine ⟨⟨oe, vs, g, c, dd, da⟩, ⟨oe, g⟩, fun h1 h2 q k => ?_⟩
  obtain ⟨oe, vs, g, r⟩ := q
  exact ⟨oe, vs, k _ g, r⟩
theorem xh_get (e : ObjOk P w H h x (XH x C dx)) : ∃ oe vs, h.get? x = some oe ∧ oe.cls = .ref C ∧ oe.dict = dx ∧ oe.data = .fields vs := e.1
theorem xd_ok {mA : Str → Option Value} (n : h.Ns1 d mA) (r : ∀ f, RelO (fs.lookup f) (mA f)) (wi : PySem.Within mA (fs.map (·.1))) : ObjOk P w H h d (XD d fs) := by
  refine ⟨⟨mA, n, r, wi⟩, ?_, fun h1 h2 q k => ?_⟩
  · obtain ⟨o, _, _, e, _⟩ := n
    exact ⟨o, e⟩
  · obtain ⟨mA, n, r, wi⟩ := q
    exact ⟨mA, n.at k, r, wi⟩
theorem xd_get (e : ObjOk P w H h d (XD d fs)) : ∃ mA, h.Ns1 d mA ∧ (∀ f, RelO (fs.lookup f) (mA f)) ∧ PySem.Within mA (fs.map (·.1)) := e.1
end
noncomputable def del (H : Hp) (x : Addr) : Hp := fun b => if b = x then none else H b
theorem del_same {H : Hp} {x : Addr} : del H x x = none := by unfold del; rw [if_pos rfl]
theorem del_ne {H : Hp} {x b : Addr} (h : b ≠ x) : del H x b = H b := by unfold del; rw [if_neg h]
section
variable {X : Cx} {pins : List (Addr × Obj)} {σ : L2.St} {H H' : Hp} {s : Shared} {h' : Heap}
theorem Inv.many {ch : List Addr} {t' : Nat} (I : Inv X pins σ H s) (k : ∀ b o, b ∉ ch → s.heap.get? b = some o → h'.get? b = some o) (hc : ∀ b ∈ ch, Mut (H b) ∨ s.heap.objs.size ≤ b)
    (same : ∀ b, b ∉ ch → H' b = H b) (there : ∀ b ∈ ch, ∃ o, h'.get? b = some o) (new : ∀ b ∈ ch, ∀ u, H' b = some u → ObjOk X.prog X.w H' h' b u) : Inv X pins σ H' { s with heap := h', toks := t' } := by
  have fresh : ∀ b, s.heap.objs.size ≤ b → H b = none := fun b z => I.hok.fresh z
  have nold : ∀ b u, H b = some u → ¬ Mut (some u) → b ∉ ch := fun b u e n hb => by
    rcases hc b hb with z | z
    · rw [e] at z; exact n z
    · rw [fresh b z] at e; cases e
  have ncl : ∀ b o, s.heap.get? b = some o → H b = none → b ∉ ch := fun b o e n hb => by
    rcases hc b hb with z | z
    · rw [n] at z; exact z
    · exact absurd (Nat.lt_of_lt_of_le (Heap.lt_size e) z) (Nat.lt_irrefl _)
  refine I.un (u := ⟨fun b o e n _ _ => k b o (ncl b o e n) e, fun b o e n _ _ => ⟨o.slots, k b o (ncl b o e n) e⟩, fun b o e n _ => by rw [same b (ncl b o e n)]; exact n, fun b o e _ => ?_, fun b xs e => ?_, fun b o u e => ?_, fun b ps e => ⟨#[], ?_⟩⟩) (hok := fun b u e => ?_)
  · by_cases hb : b ∈ ch
    · exact there b hb
    · exact ⟨o, k b o hb e⟩
  · rw [same b (nold b _ e fun z => z)]; exact e
  · rw [same b (nold b _ e fun z => z)]; exact e
  · rw [same b (nold b _ e fun z => z), e]; simp
  · by_cases hb : b ∈ ch
    · exact new b hb u e
    · rw [same b hb] at e
      refine (I.hok b u e).stay (fun c v hcc q => k c v ?_ q) (fun c q => by rw [same c (nold c _ q fun z => z)]; exact q) fun c xs q => by rw [same c (nold c _ q fun z => z)]; exact q
      rcases hcc with rfl | hcc
      · exact hb
      · exact nold c _ hcc fun z => z
theorem Inv.drop {x : Addr} {φ : Heap → Prop} (I : Inv X pins σ H s) (e : H x = some (.ext φ)) : Inv X pins σ (del H x) s := by
  have nx : ∀ b u, H b = some u → (∀ ψ, u ≠ .ext ψ) → b ≠ x := fun b u q n z => by
    rw [z, e] at q
    exact n φ (Option.some.inj q).symm
  refine I.un (t' := s.toks) (u := ⟨fun b o q _ _ _ => q, fun b o q _ _ _ => ⟨o.slots, q⟩, fun b o q n _ => ?_, fun b o q _ => ⟨o, q⟩, fun b xs q => ?_, fun b o u q => ?_, fun b ps q => ⟨#[], ?_⟩⟩) (hok := fun b u q => ?_)
  · unfold del
    split
    · rfl
    · exact n
  · rw [del_ne (nx b _ q fun ψ z => nomatch z)]; exact q
  · rw [del_ne (nx b _ q fun ψ z => nomatch z)]; exact q
  · rw [del_ne (nx b _ q fun ψ z => nomatch z), q]; simp
  · have hb : b ≠ x := fun z => by
      rw [z, del_same] at q
      cases q
    rw [del_ne hb] at q
    exact (I.hok b u q).stay (fun c v _ z => z) (fun c z => by rw [del_ne (nx c _ z fun ψ y => nomatch y)]; exact z) fun c xs z => by rw [del_ne (nx c _ z fun ψ y => nomatch y)]; exact z
theorem Inv.track {x : Addr} {o : HO} (I : Inv X pins σ H s) (hx : H x = none) (nx : X.s_0.heap.objs.size ≤ x) (hL : x ≠ X.env.locals) (hC : ∀ y c, X.env.cells.lookup y = some c → c ≠ x) (hp : ∀ p ∈ X.pn ++ pins, p.1 ≠ x)
    (ok : ObjOk X.prog X.w (upd H x o) s.heap x o) : Inv X pins σ (upd H x o) s := by
  have nb : ∀ b u, H b = some u → b ≠ x := fun b u q z => by
    rw [z, hx] at q
    cases q
  have old : ∀ b ob, X.s_0.heap.get? b = some ob → b ≠ x := fun b ob q z => absurd (Nat.lt_of_lt_of_le (Heap.lt_size q) nx) (by rw [z]; exact Nat.lt_irrefl _)
  have U := I.base
  refine ⟨I.ok, I.os, I.bare, ⟨U.keep, U.slot, fun b ob q n z => ?_, U.there, fun b xs q => ?_, fun b ob u q => ?_, fun b ps q => ?_⟩, I.loc, I.cell, ?_, fun y c q => ?_, fun p hpp => ?_, fun b u q => ?_, I.len⟩
  · rw [upd_ne (old b ob q)]; exact U.free b ob q n z
  · have z := U.tups b xs q
    rw [upd_ne (nb b _ z)]; exact z
  · have z := U.frzs b ob u q
    rw [upd_ne (nb b _ z)]; exact z
  · obtain ⟨more, z⟩ := U.tbls b ps q
    exact ⟨more, by rw [upd_ne (nb b _ z)]; exact z⟩
  · rw [upd_ne (Ne.symm hL)]; exact I.free
  · rw [upd_ne (hC y c q)]; exact I.freeC y c q
  · obtain ⟨a, b, c⟩ := I.pin p hpp
    exact ⟨a, by rw [upd_ne (hp p hpp)]; exact b, c⟩
  · by_cases hb : b = x
    · subst hb
      rw [upd_same] at q
      cases q
      exact ok
    · rw [upd_ne hb] at q
      exact (I.hok b u q).stay (fun c v _ z => z) (fun c z => by rw [upd_ne (nb c _ z)]; exact z) fun c xs z => by rw [upd_ne (nb c _ z)]; exact z
end
noncomputable def tFldX (K : Frag) (ta : TE) (f : Str) : TE := fun σ H Q => ta σ H fun x H1 => ∃ a C rs dx fs v, x = .ref a ∧ H1 a = some (XH a C (some dx)) ∧ H1 dx = some (XD dx fs) ∧ XCls K C rs ∧ NoAttr K C f ∧ fs.lookup f = some v ∧ Q v H1
noncomputable def sFldX (K : Frag) (ta tv : TE) (f : Str) : TS := fun D σ H => tv σ H fun y H1 => ta σ H1 fun x H2 => ∃ a C rs, x = .ref a ∧ XCls K C rs ∧ NoAttr K C f ∧
  ((H2 a = some (XO a C none) ∧ ∀ d, H2 d = none → d ≠ a → D.nx σ (upd (upd H2 d (XD d [(f, y)])) a (XO a C (some d)))) ∨
   ∃ d fs, H2 a = some (XO a C (some d)) ∧ H2 d = some (XD d fs) ∧ d ≠ a ∧ fs.length < 1000 ∧ D.nx σ (upd H2 d (XD d (putF f y fs))))
section
variable {X : Cx} {o e value : Expr} {f : Str} {pos pos' : Pos} {ta tv : TE}
theorem pe_fldX (he : PE X e ta) (hb : attributeBase e f X.env (eval e X.env) = eval e X.env) : PE X (.Attribute e f pos) (tFldX X.K ta f) := by
  intro pins s σ H Q I h
  refine attr_of hb (thn (he pins s σ H _ I h) fun u s1 ⟨x, H1, I1, rx, a, C, rs, dx, fs, v, ex, ea, ed, c, n, l, q⟩ => ?_)
  subst ex
  obtain rfl : u = Value.ref a := rx
  obtain ⟨oe, vs, g1, g2, g3, g4⟩ := xh_get (I1.hok _ _ ea)
  obtain ⟨mA, hn, hr, _⟩ := xd_get (I1.hok _ _ ed)
  obtain ⟨u, hu, ru⟩ := RelO.some_of (v := v) (o := mA f) (by rw [← l]; exact hr f)
  have hno : PySem.W.notCls oe = true := by
    unfold PySem.W.notCls
    rw [g4]
  exact get_X I1.kIn c g1 g2 hno g3 hn n hu (handed_of ru) ⟨v, H1, I1.tok _, ru, q⟩
theorem ps_fldX (ha : PE X o ta) (hv : PE X value tv) (hs : swapsWith value (some (.Attribute o f pos')) pos.line X.env = pure false) : PS X (.Assign [.Attribute o f pos'] value pos) (sFldX X.K ta tv f) := by
  intro pins s σ H D I h
  refine plainObj_wpAny_Assign_Attribute (thn (hv pins s σ H _ I h) fun u s1 ⟨y, H1, I1, ry, q⟩ => thn (ha pins s1 σ H1 _ I1 q) fun ov s2 ⟨x, H2, I2, rx, a, C, rs, ex, c, n, q2⟩ => ?_) hs
  subst ex
  obtain rfl : ov = Value.ref a := rx
  rcases q2 with ⟨ea, q2⟩ | ⟨d, fs, ea, ed, nd, hl, q2⟩
  · obtain ⟨oe, vs, g1, g2, g3, g4, ⟨_, g5⟩ | ⟨T, _, _, z, _⟩⟩ := xo_get (I2.hok _ _ ea)
    case inr => cases z
    refine set_X (mA := fun _ => none) (ns := []) I2.kIn c g1 g2 g4 (.inl ⟨g3, fun _ => rfl⟩) n.taker (fun y hy => absurd rfl hy) (Nat.zero_le _) fun h' t' dx k1 k2 k3 k4 k5 => ?_
    have hf : s2.heap.objs.size ≤ dx := by
      rcases k5 with ⟨_, z⟩ | z
      · exact z
      · rw [g3] at z; cases z
    refine ⟨σ, _, Inv.many (ch := [a, dx]) I2 (fun b ob hb z => k4 b ob (fun q => hb (by simp [q])) (fun q => hb (by simp [q])) z) (fun b hb => ?_) (fun b hb => ?_) (fun b hb => ?_) (fun b hb u' z => ?_), q2 dx (I2.hok.fresh hf) k3⟩
    · rcases List.mem_cons.mp hb with rfl | hb
      · rw [ea]; exact .inl trivial
      · rw [List.mem_singleton.mp hb]; exact .inr hf
    · rw [upd_ne (fun q => hb (by simp [q])), upd_ne (fun q => hb (by simp [q]))]
    · rcases List.mem_cons.mp hb with rfl | hb
      · exact ⟨_, k1⟩
      · obtain ⟨od, _, _, z, _⟩ := k2
        rw [List.mem_singleton.mp hb]; exact ⟨od, z⟩
    · rcases List.mem_cons.mp hb with rfl | hb
      · rw [upd_same] at z
        cases z
        exact xo_ok ⟨_, vs, k1, g2, rfl, g4, .inl ⟨rfl, g5⟩⟩
      · have eb := List.mem_singleton.mp hb
        subst eb
        rw [upd_ne k3, upd_same] at z
        cases z
        refine xd_ok k2 (fun g => ?_) fun g hg => ?_
        · show RelO (List.lookup g [(f, y)]) (if g = f then some u else none)
          by_cases q : g = f
          · subst q
            rw [if_pos rfl]
            simp only [List.lookup, beq_self_eq_true]
            exact ry
          · rw [if_neg q]
            have : (g == f) = false := beq_eq_false_iff_ne.mpr q
            simp only [List.lookup, this]
            trivial
        · by_cases q : g = f
          · simp [q]
          · exact absurd (if_neg q) hg
  · obtain ⟨oe, vs, g1, g2, g3, g4, ⟨_, g5⟩ | ⟨T, _, _, z, _⟩⟩ := xo_get (I2.hok _ _ ea)
    case inr => cases z
    obtain ⟨mA, hn, hr, wi⟩ := xd_get (I2.hok _ _ ed)
    refine set_X (mA := mA) (ns := fs.map (·.1)) I2.kIn c g1 g2 g4 (.inr ⟨d, g3, nd, hn⟩) n.taker wi (by rw [List.length_map]; omega) fun h' t' dx k1 k2 k3 k4 k5 => ?_
    have edx : dx = d := by
      rcases k5 with ⟨z, _⟩ | z
      · rw [g3] at z; cases z
      · rw [g3] at z; exact (Option.some.inj z).symm
    subst edx
    have eoe : ({ oe with dict := some dx } : Obj) = oe := by rw [← g3]
    rw [eoe] at k1
    refine ⟨σ, _, Inv.many (ch := [dx]) I2 (fun b ob hb z => ?_) (fun b hb => ?_) (fun b hb => ?_) (fun b hb => ?_) (fun b hb u' z => ?_), q2⟩
    · by_cases q : b = a
      · subst q
        rw [g1] at z
        cases z
        exact k1
      · exact k4 b ob q (fun q => hb (by simp [q])) z
    · rw [List.mem_singleton.mp hb, ed]; exact .inl trivial
    · rw [upd_ne (fun q => hb (by simp [q]))]
    · obtain ⟨od, _, _, z, _⟩ := k2
      rw [List.mem_singleton.mp hb]; exact ⟨od, z⟩
    · have eb := List.mem_singleton.mp hb
      subst eb
      rw [upd_same] at z
      cases z
      refine xd_ok k2 (fun g => ?_) fun g hg => ?_
      · show RelO ((putF f y fs).lookup g) (if g = f then some u else mA g)
        rw [lookup_putF]
        by_cases q : g = f
        · rw [if_pos q, if_pos q]; exact ry
        · rw [if_neg q, if_neg q]; exact hr g
      · by_cases q : g = f
        · rw [q]; exact (keys_putF f y fs).1
        · refine (keys_putF f y fs).2 g (wi g fun z => hg ?_)
          show (if g = f then some u else mA g) = none
          rw [if_neg q]; exact z
end
end LX
set_option Elab.async false
set_option linter.all false
set_option maxRecDepth 100000
set_option maxHeartbeats 4000000
namespace LX
open PySem PySem.Spec PyProof.Rows L2
open PySem.W (Frag findIn specialIn instIn typeIn keepIn readsIn findCls isFn)
noncomputable def tMakeX (n : Nat) (C : Addr) (sp : Sp) (dvs : List V) (E : XK) (t : TA) : TE := fun σ H Q => t σ H fun vs H1 => ∀ x, H1 x = none → n ≤ x →
  sp (.ref x :: (vs ++ dvs)) (upd H1 x (XO x C none)) (fun v H2 => v = .non ∧ Q (.ref x) H2) E
structure MkX (K : Frag) (C f : Addr) : Prop where
  init : findIn K (.ref C) "__init__" = some (some (.ref f))
  fn : isFn K (.ref f) = true
  kp : keepIn K (.ref C) = true
section
variable {X : Cx} {CX : CXT} {k : Nat} {f C : Addr} {fd : FuncData} {ps : List Str} {sp : Sp} {dvs : List V} {ds : List Value} {E : XK} {x m : Str} {p pos apos : Pos} {e o : Expr} {es : List Expr} {ta : TE} {t : TA} {rs : List Addr}
theorem invBorn {pins : List (Addr × Obj)} {σ : L2.St} {H : Hp} {s : Shared} (I : Inv X pins σ H s) (us : List Value) :
    Inv X pins σ (upd H (s.heap.objs.size + 1) (XO (s.heap.objs.size + 1) C none)) { s with heap := (s.heap.push (tupX us)).push (bornX C s.heap.objs.size) } := by
  have g : ((s.heap.push (tupX us)).push (bornX C s.heap.objs.size)).get? (s.heap.objs.size + 1) = some (bornX C s.heap.objs.size) := by
    have := Heap.get?_push_size (s.heap.push (tupX us)) (o := bornX C s.heap.objs.size) rfl
    rwa [Heap.size_push] at this
  refine I.laid (t' := s.toks) (fun b u q => Heap.get?_push_of_some _ (Heap.get?_push_of_some _ q)) (Nat.le_succ _) (xo_ok ⟨_, _, g, rfl, rfl, rfl, .inl ⟨rfl, rfl⟩⟩)
theorem run_makeX {pins : List (Addr × Obj)} {σ : L2.St} {H : Hp} {s : Shared} {Q : VK} {us : List Value} {vs : List V} (c : XCls X.K C rs) (M : MkX X.K C f) (F : FnOk X.prog X.w X.K X.mg X.base CX k f fd ps sp) (hr : Room (k + 1) X.A) (hb : Binds X.K fd ps ds) (hd : Vals dvs ds)
    (hx : Passes CX X E) (I : Inv X pins σ H s) (r : Vals vs us) (hps : ps.length ≤ 1000)
    (h : ∀ x, H x = none → X.s_0.heap.objs.size ≤ x → sp (.ref x :: (vs ++ dvs)) (upd H x (XO x C none)) (fun v H2 => v = .non ∧ Q (.ref x) H2) E) :
    wpAny (model X.prog X.w) X.A (call (.ref C) us) (EP X pins σ Q) X.xe s := by
  have hq := h (s.heap.objs.size + 1) (I.hok.fresh (Nat.le_succ _)) (Nat.le_trans I.sz (Nat.le_succ _))
  have I2 := invBorn (C := C) I us
  have r2 : Vals (V.ref (s.heap.objs.size + 1) :: (vs ++ dvs)) (Value.ref (s.heap.objs.size + 1) :: (us ++ ds)) := .cons rfl (r.append hd)
  have hl : (Value.ref (s.heap.objs.size + 1) :: us ++ ds).length = ps.length := by
    have e := r2.length
    rw [F.len _ _ _ _ hq] at e
    exact e.symm
  have hus : us.length ≤ sizeLine := by
    have : us.length ≤ ps.length := by
      rw [← hl, List.length_append, List.length_cons]
      omega
    rw [sizeLine_eq]
    omega
  obtain ⟨nm, q, N, bs, sn, sub, ab, col, dd, k0, k1, k2, k3, k5, lk⟩ := c.lk
  obtain ⟨hp, g, d, tk, os⟩ := s
  refine wpAny_call (make_X (fI := f) I.kIn lk (has_tail _ _ (by decide +kernel)) (no_tail _ _ (by decide +kernel)) (no_tail _ _ (by decide +kernel)) c.call c.typ M.init (beq_iff_eq.mp M.fn) hus
    (codeAny_mono (F.run _ X.stack _ _ ⟨Value.ref (hp.objs.size + 1) :: us, []⟩ (Value.ref (hp.objs.size + 1) :: (us ++ ds)) _ _ E (hr.make C us [])
    (I2.env0.make C us []) (hb _ (Value.ref (hp.objs.size + 1) :: us) I2.kIn hl) r2 hq) fun r s' hq' => ?_))
  cases r with
  | error e => exact hx pins σ _ _ e s' I2 hq'
  | ok fl =>
    cases fl with
    | ret u =>
      obtain ⟨v, H', I3, rv, ev, q3⟩ := I2.after hq'
      subst ev
      exact ⟨rv, ⟨V.ref (hp.objs.size + 1), H', I3, rfl, q3⟩⟩
    | next => exact False.elim hq'
    | brk => exact False.elim hq'
    | cont => exact False.elim hq'
theorem pe_makeX (c : XCls X.K C rs) (M : MkX X.K C f) (F : FnOk X.prog X.w X.K X.mg X.base CX k f fd ps sp) (hr : Room (k + 1) X.A) (hg : Gl X x) (hm : X.mg x = some (.ref C)) (hb : Binds X.K fd ps ds) (hd : Vals dvs ds) (hx : Passes CX X E) (hps : ps.length ≤ 1000)
    (ha : PA X (e :: es) t) (hdb : (x == ("__debug__" : Str)) = false := by decide) (he : starEach (e :: es) X.env = (false, eval e X.env) :: starEach es X.env := by rfl) (hpl : (backTo pos (starEach es X.env)).any (·.1) = false := by rfl) :
    PE X (.Call (.Name x p) (e :: es) [] pos) (tMakeX X.s_0.heap.objs.size C sp dvs E t) := by
  intro pins s σ H Q I h
  refine wpAny_Call_Name_kw (ld_glob I hg hm ?_ hdb)
  refine PySem.W.callWith_K (h₀ := X.base) I.ok.mod.kin M.kp (thn (ha pos pins s σ H _ I h) fun us s1 ⟨vs, H1, I1, r, q⟩ => ⟨I1.kIn, ?_⟩) he hpl
  exact run_makeX c M F hr hb hd hx I1 r hps q
theorem pe_makeX0 (c : XCls X.K C rs) (M : MkX X.K C f) (F : FnOk X.prog X.w X.K X.mg X.base CX k f fd ps sp) (hr : Room (k + 1) X.A) (hg : Gl X x) (hm : X.mg x = some (.ref C)) (hb : Binds X.K fd ps ds) (hd : Vals dvs ds) (hx : Passes CX X E) (hps : ps.length ≤ 1000)
    (hdb : (x == ("__debug__" : Str)) = false := by decide) : PE X (.Call (.Name x p) [] [] pos) (tMakeX X.s_0.heap.objs.size C sp dvs E tNil) := by
  intro pins s σ H Q I h
  refine wpAny_Call_Name_kw (ld_glob I hg hm ?_ hdb)
  exact PySem.W.callWith_K0 I.kIn M.kp (run_makeX (us := []) c M F hr hb hd hx I .nil hps h)
structure ClsFn (K : Frag) (B : Addr) (m : Str) (f : Addr) : Prop where
  ga : specialIn K (.ref B) "__getattribute__" = some (some (.builtin "type.__getattribute__"))
  rd : readsIn K B (.type "type") = true
  at_ : findCls K (.ref B) (.type "type") m = some (.val (.ref f))
  kp : keepIn K (.ref f) = true
theorem pe_clsfn {pl : Sem Bool} {B : Addr} (c : ClsFn X.K B m f) (hg : Gl X x) (hm : X.mg x = some (.ref B)) (F : FnOk X.prog X.w X.K X.mg X.base CX k f fd ps sp) (hr : Room k X.A) (hb : Binds X.K fd ps ds) (hd : Vals dvs ds) (hx : Passes CX X E) (ha : PA X (e :: es) t)
    (hdb : (x == ("__debug__" : Str)) = false := by decide) (hst : starEach (e :: es) X.env = (false, eval e X.env) :: starEach es X.env := by rfl) (hpl : (backTo pos (starEach es X.env)).any (·.1) = false := by rfl)
    (ht : eval (.Call (.Attribute (.Name x p) m apos) (e :: es) [] pos) X.env = (do
      let ov ← eval (.Name x p) X.env
      standAt apos.atName
      let (f, first) ← holding [ov] (getMethod ov m pl)
      callWith pos f first (backTo pos (starEach (e :: es) X.env)) (backToKw pos (keywordEach [] X.env))) := by rfl) :
    PE X (.Call (.Attribute (.Name x p) m apos) (e :: es) [] pos) (tCall sp dvs E t) := by
  intro pins s σ H Q I h
  refine PySem.W.methodCall_KW (pl := pl) (ld_glob I hg hm ?_ hdb) ht
  refine PySem.W.method_cls I.kIn c.ga (PySem.W.cls_value I.kIn c.rd c.at_ rfl ?_)
  refine PySem.W.callWith_K (first := []) (h₀ := X.base) I.ok.mod.kin c.kp (thn (ha pos pins _ σ H _ (I.tok _) h) fun us s2 ⟨vs, H2, I2, r, q2⟩ => ⟨I2.kIn, ?_⟩) hst hpl
  exact run_fn F hr hb hd hx I2 r q2
end
theorem flight0 {M : Model} {A : Around} {E : Value → Shared → Prop} {s : Shared} {x C : Addr} {dx : Option Addr} {Q : Unit → Shared → Prop} (hX : Exc s.heap x C dx []) (h : Q () s) : wpAny M A (setFlight (.ref x) none) Q E s := by
  obtain ⟨oe, vs, he, hc, hdi, hd, ⟨_, h1⟩ | ⟨T0, oT, tv, z, _⟩⟩ := hX
  · unfold setFlight
    refine wpAny_bind (wpAny_field he hd h1 ?_)
    rw [if_neg (by decide)]
    exact wpAny_pure h
  · cases z
theorem raise_X {M : Model} {A : Around} {E : Value → Shared → Prop} {env : Env} {s : Shared} {K : Frag} {x : Sem Value} {Q : Flow → Shared → Prop} (hh : A.handled = none)
    (h : wpAny M A x (fun v s₁ => ∃ e C rs dx, v = .ref e ∧ K.In s₁.heap ∧ XCls K C rs ∧ Exc s₁.heap e C dx [] ∧ E (.ref e) s₁) E s) : wpAny M A (raiseStmt env (some x) none) Q E s := by
  unfold raiseStmt
  refine wpAny_bind (wpAny_mono h (fun v s₁ h₁ => ?_) fun _ _ x => x)
  obtain ⟨e, C, rs, dx, rfl, KX, c, hX, hE⟩ := h₁
  have fl := fun (Q : Unit → Shared → Prop) (hq : Q () s₁) => flight0 (M := M) (A := A) (E := E) hX hq
  obtain ⟨⟨oc, od, oda, osl⟩, vs, he, hc, hd, hda, _⟩ := hX
  dsimp only at hc hd hda
  subst hc hd hda
  obtain ⟨nm, q, N, bs, sn, sub, ab, col, dd, k0, k1, k2, k3, k5, lk⟩ := c.lk
  have hC := KX _ _ lk
  have hcB : (Value.ref C :: (rs.map Value.ref ++ tailX)).contains (.type "BaseException") = true := by
    rw [List.contains_cons, has_tail _ _ (by decide +kernel)]
    exact Bool.or_true _
  obtain ⟨hp, g, d, tk, os⟩ := s₁
  repeat (first | with_reducible refine wpAny_loadPart_at he ?_ | with_reducible refine fl _ ?_ | with_reducible refine wpAny_loadPart_at hC ?_ | (with_reducible refine wpAny_isSubtype_exc hC ?_; rw [hcB]) | wp_step)
  exact wpAny_raiseNew_none hh hE
noncomputable def LeavesX (X : Cx) (E : XK) : Prop := ∀ (pins : List (Addr × Obj)) (σ : L2.St) (H : Hp) (s : Shared) (x C : Addr) (dx : Option Addr), Inv X pins σ H s → Exc s.heap x C dx [] → H x = none → X.s_0.heap.objs.size ≤ x → E (.ref C) dx H → X.xe (.ref x) s
theorem leavesX {P : Program} {w : World} {K : Frag} {mg : Str → Option Value} {base : Heap} {N : List Str} {qual : Str} {scope : Scope} {f : Addr} {cd : Value} {A : Around} {outer : List Env} {s : Shared} {H : Hp} {E : XK} :
    LeavesX (cxOf (CX1 P w) P w K mg base N qual scope f cd A outer s H E) E := fun pins σ H1 s1 x C dx I hX hx nx hE =>
  leaveX I hX hx (fun T z => nomatch z) nx (fun T z => nomatch z) hE
noncomputable def tRaise (K : Frag) (n : Nat) (te : TE) (E : XK) : TS := fun _ σ H => te σ H fun v H1 => ∃ x C rs dx, v = .ref x ∧ H1 x = some (XO x C dx) ∧ n ≤ x ∧ XCls K C rs ∧ E (.ref C) dx (del H1 x)
theorem ps_raise {X : Cx} {e : Expr} {te : TE} {pos : Pos} {E : XK} (hc : X.calm = true) (hE : LeavesX X E) (he : PE X e te) : PS X (.Raise (some e) none pos) (tRaise X.K X.s_0.heap.objs.size te E) := by
  intro pins s σ H D I h
  rw [arm_exec_Raise]
  show wpAny _ _ (do standAt pos; raiseStmt X.env (some (do let v ← eval e X.env; standAt pos; pure v)) none) _ _ s
  refine wpAny_bind (wpAny_standAt (raise_X (K := X.K) (I.ok.hd hc) (wpAny_bind (thn (he pins s σ H _ I h) fun u s1 ⟨v, H1, I1, rv, x, C, rs, dx, ev, ex, nx, c, q⟩ => wpAny_bind (wpAny_standAt (wpAny_pure ?_))))))
  subst ev
  obtain rfl : u = Value.ref x := rv
  have hX := xo_get (I1.hok _ _ ex)
  exact ⟨x, C, rs, dx, rfl, I1.kIn, c, hX, hE pins σ _ s1 x C dx (Inv.drop I1 ex) hX del_same nx q⟩
theorem FunX {P : Program} {w : World} {K : Frag} {mg : Str → Option Value} {base : Heap} {x qual : Str} {st : Stmt} {f : Addr} {fd : FuncData} {N ps : List Str} {k : Nat} {sp : Sp} (F : Fun K x qual st f fd) (S : FnScope N ps (defScope st)) (len : ∀ vs H Q E, sp vs H Q E → vs.length = ps.length)
    (hbody : ∀ (cdv : Value) (A : Around) (outer : List Env) (s : Shared) (H : Hp) (vs : List V) (Q : VK) (E : XK), Room k (A.deeper (envOfC qual (defScope st) s.heap.objs.size f cdv)) → sp vs H Q E →
      ∃ t, PSs (cxOf (CX1 P w) P w K mg base N qual (defScope st) f cdv A outer s H E) (defBody st) t ∧ t { nx := fun _ H' => Q .non H', rt := Q } (start N vs) H) : FnOk P w K mg base (CX1 P w) (k + 1) f fd ps sp := by
  obtain ⟨oc, od, kV, doc, pm, an, cdv, ct, osl, rfl, lk, hcd⟩ := F.ex
  exact fn_of lk hcd S len fun A outer s H vs Q E hr hsp => hbody cdv A outer s H vs Q E hr hsp
end LX
set_option Elab.async false
set_option linter.all false
set_option maxRecDepth 100000
set_option maxHeartbeats 4000000
namespace LX
open PySem PySem.Spec PyProof.Rows L2
open PySem.W (Frag findIn specialIn instIn typeIn keepIn readsIn findCls isFn)
noncomputable def blank (n : Nat) : L2.St := List.replicate n none
noncomputable def xeT (X : Cx) (pins : List (Addr × Obj)) (R : XK) (e : Value) (s' : Shared) : Prop :=
  ∃ (x C T : Addr) (dx : Option Addr) (H' : Hp), e = .ref x ∧ Inv X pins (blank X.N.length) H' s' ∧ Exc s'.heap x C dx [T] ∧ H' x = none ∧ H' T = none ∧ X.s_0.heap.objs.size ≤ x ∧ X.s_0.heap.objs.size ≤ T ∧
    (∀ p ∈ X.pn ++ pins, p.1 ≠ x ∧ p.1 ≠ T) ∧ R (.ref C) dx H'
noncomputable abbrev trC (X : Cx) (pins : List (Addr × Obj)) (R : XK) : Cx := { X with pn := X.pn ++ pins, xe := xeT X pins R }
noncomputable abbrev hdC (X : Cx) (x : Addr) : Cx := { X with A := X.A.mark (some (.ref x)), calm := false, xe := fun _ _ => False }
section
variable {X : Cx} {pins pins' : List (Addr × Obj)} {σ : L2.St} {H : Hp} {s : Shared} {R : XK} {x : Addr}
theorem Ok.tr (ok : X.Ok) : (trC X pins R).Ok :=
  ⟨ok.mod, ok.kind, ok.glob, ok.blt, ok.above, ok.inj, ok.has, ok.cab, ok.hd, ok.frames, ok.stk, ok.exf, ok.bs, ok.bsz, ok.noex, ok.exfs, ok.funs, ok.frf⟩
theorem Ok.untr (ok : (trC X pins R).Ok) : X.Ok :=
  ⟨ok.mod, ok.kind, ok.glob, ok.blt, ok.above, ok.inj, ok.has, ok.cab, ok.hd, ok.frames, ok.stk, ok.exf, ok.bs, ok.bsz, ok.noex, ok.exfs, ok.funs, ok.frf⟩
theorem Inv.tr (I : Inv X pins σ H s) : Inv (trC X pins R) [] σ H s :=
  ⟨Ok.tr I.ok, I.os, I.bare, I.base, I.loc, I.cell, I.free, I.freeC, fun p hp => I.pin p (by simpa using hp), I.hok, I.len⟩
theorem Inv.untr (I : Inv (trC X pins R) pins' σ H s) : Inv X pins σ H s :=
  ⟨Ok.untr I.ok, I.os, I.bare, I.base, I.loc, I.cell, I.free, I.freeC, fun p hp => I.pin p (List.mem_append_left _ hp), I.hok, I.len⟩
theorem Ok.hd (ok : X.Ok) : (hdC X x).Ok :=
  ⟨ok.mod, ok.kind, ok.glob, ok.blt, ok.above, ok.inj, ok.has, ok.cab, fun z => (nomatch z), ok.frames, ok.stk, ok.exf, ok.bs, ok.bsz, ok.noex, ok.exfs, ok.funs, ok.frf⟩
theorem Inv.hd (I : Inv X pins σ H s) : Inv (hdC X x) pins σ H s :=
  ⟨Ok.hd I.ok, I.os, I.bare, I.base, I.loc, I.cell, I.free, I.freeC, I.pin, I.hok, I.len⟩
theorem Inv.unhd (ok : X.Ok) (I : Inv (hdC X x) pins σ H s) : Inv X pins σ H s :=
  ⟨ok, I.os, I.bare, I.base, I.loc, I.cell, I.free, I.freeC, I.pin, I.hok, I.len⟩
theorem Inv.blank (I : Inv X pins σ H s) : Inv X pins (blank X.N.length) H s := by
  refine I.weak (by rw [I.len]; exact List.length_replicate) fun i v e => ?_
  unfold LX.blank at e
  rw [List.getElem?_replicate] at e
  split at e <;> cases e
theorem passT : Passes (CX1 X.prog X.w) (trC X pins R) R := by
  rintro pins' σ H1 s1 e s2 I ⟨x, C, T, dx, H2, rfl, os, bare, un, hok, hX, hx, hT, nx, nT, hE⟩
  have I2 := I.call' (ch := []) os un hok bare fun b z => absurd z (by simp)
  have szl : X.s_0.heap.objs.size ≤ s1.heap.objs.size := I.sz
  refine ⟨x, C, T, dx, H2, rfl, Inv.blank (Inv.untr I2), hX, hx, hT, Nat.le_trans szl nx, Nat.le_trans szl nT, fun p hp => ?_, hE⟩
  have lt := Heap.lt_size (I.pin p (List.mem_append_left _ hp)).1
  exact ⟨Nat.ne_of_lt (Nat.lt_of_lt_of_le lt nx), Nat.ne_of_lt (Nat.lt_of_lt_of_le lt nT)⟩
theorem exc_apart (I : Inv X pins σ H s) {C T : Addr} {dx : Option Addr} (hX : Exc s.heap x C dx [T]) : (X.env.locals ≠ x ∧ X.env.locals ≠ T) ∧ ∀ y c, X.env.cells.lookup y = some c → c ≠ x ∧ c ≠ T := by
  obtain ⟨oe, vs, he, hc, hdi, hd, ⟨z, _⟩ | ⟨T0, oT, tv, z, h1, nT, hT, dT, h3⟩⟩ := hX
  · cases z
  cases z
  refine ⟨?_, fun y c e => ?_⟩
  · obtain ⟨m, ⟨o, es, ep, ho, hda, _⟩, _⟩ := I.loc
    constructor
    · intro z
      rw [z, he] at ho
      cases ho
      rw [hd] at hda
      cases hda
    · intro z
      rw [z, hT] at ho
      cases ho
      rw [dT] at hda
      cases hda
  · obtain ⟨v, o, ho, hda⟩ := I.cell y c e
    constructor
    · intro z
      rw [z, he] at ho
      cases ho
      rw [hd] at hda
      cases hda
    · intro z
      rw [z, hT] at ho
      cases ho
      rw [dT] at hda
      cases hda
theorem flightX {M : Model} {A : Around} {E : Value → Shared → Prop} {C T : Addr} {dx : Option Addr} {Q : Unit → Shared → Prop} (hX : Exc s.heap x C dx [T])
    (h : ∀ h', Exc h' x C dx [T] → (∀ b o, b ≠ T → s.heap.get? b = some o → h'.get? b = some o) → Q () { s with heap := h' }) : wpAny M A (setFlight (.ref x) none) Q E s := by
  obtain ⟨oe, vs, he, hc, hdi, hd, ⟨z, _⟩ | ⟨T0, oT, tv, z, h1, nT, hT, dT, h3⟩⟩ := hX
  · cases z
  cases z
  refine wpAny_setFlight_none he hd h1 hT dT (Array.getElem?_eq_some_iff.mp h3).1 ?_
  have d3 := Obj.data_mapFields dT (·.setIfInBounds 3 Value.none)
  refine h _ ⟨oe, vs, (Heap.get?_update_other _ _ nT).trans he, hc, hdi, hd, .inr ⟨T, _, _, rfl, h1, nT, Heap.get?_update_self _ hT (Obj.isFreed_of_fields d3), d3, ?_⟩⟩ fun b o hb e => (Heap.get?_update_other _ _ (Ne.symm hb)).trans e
  simp [(Array.getElem?_eq_some_iff.mp h3).1]
theorem match_X {M : Model} {A : Around} {E : Value → Shared → Prop} {K : Frag} {C D : Addr} {rs rs' : List Addr} {oe : Obj} {Q : Bool → Shared → Prop} (KX : K.In s.heap) (c : XCls K C rs) (c' : XCls K D rs') (he : s.heap.get? x = some oe) (hc : oe.cls = .ref C)
    (hq : Q (decide (D ∈ C :: rs)) s) : wpAny M A (excMatches (.ref x) (.ref D)) Q E s := by
  have hcD : (Value.ref C :: (rs.map Value.ref ++ tailX)).contains (.ref D) = decide (D ∈ C :: rs) := by
    rw [Bool.eq_iff_iff, List.contains_iff_mem, decide_eq_true_iff, List.mem_cons, List.mem_cons, List.mem_append, List.mem_map]
    constructor
    · rintro (z | ⟨a, ha, z⟩ | z)
      · cases z; exact .inl rfl
      · cases z; exact .inr ha
      · simp [tailX] at z
    · rintro (rfl | z)
      · exact .inl rfl
      · exact .inr (.inl ⟨D, z, rfl⟩)
  obtain ⟨nm, q, N, bs, sn, sub, ab, col, dd, k0, k1, k2, k3, k5, lk⟩ := c.lk
  obtain ⟨nm', q', N', bs', sn', sub', ab', col', dd', k0', k1', k2', k3', k5', lk'⟩ := c'.lk
  have hC := KX _ _ lk
  have hD := KX _ _ lk'
  have hcB : (Value.ref D :: (rs'.map Value.ref ++ tailX)).contains (.type "BaseException") = true := by
    rw [List.contains_cons, has_tail _ _ (by decide +kernel)]
    exact Bool.or_true _
  have f := tc_notTuple
  obtain ⟨hp, g, d, tk, os⟩ := s
  obtain ⟨oc, od, oda, osl⟩ := oe
  dsimp only at hc
  subst hc
  unfold excMatches
  repeat (first | with_reducible refine wpAny_loadPart_at he ?_ | with_reducible refine wpAny_loadPart_at hD ?_ | (with_reducible refine wpAny_isSubtype_exc hD ?_; rw [hcB]) | (with_reducible refine wpAny_isSubtype_exc hC ?_; rw [hcD]) | wp_step)
  cases hb : decide (D ∈ C :: rs) <;> (rw [hb] at hq; wp_walk; exact hq)
theorem goes_ok {M : Model} {A : Around} {E : Value → Shared → Prop} {n : Str} {pos : Pos} {Q : Unit → Shared → Prop} (I : Inv X pins σ H s) (hl : X.env.scope.names.lookup n = some .local)
    (h : ∀ s', Inv X pins (LX.blank X.N.length) H s' → Q () s') : wpAny M A (do bindName X.env n .none; unbindBehindTheSuite X.env n pos) Q E s := by
  have hcls : (X.env.scope.kind == .class || (X.env.scope.kind == .module && X.env.locals != X.env.globals)) = false := by rw [I.ok.kind]; rfl
  obtain ⟨m, hn, _⟩ := id I.loc
  refine wpAny_nameGoes hl hn hcls fun h' m' hn' hs => h _ ?_
  obtain ⟨oL, _, _, hoL, _⟩ := id hn
  have ltL : ∀ b o, X.s_0.heap.get? b = some o → b ≠ X.env.locals := fun b o e => Nat.ne_of_lt (Nat.lt_of_lt_of_le (Heap.lt_size e) I.ok.above)
  refine ⟨I.ok, I.os, I.bare, ⟨fun b o e n hb hx => ?_, fun b o e n hb hx => ?_, I.base.free, fun b o e hx => ?_, I.base.tups, I.base.frzs, I.base.tbls⟩, ⟨m', hn', fun j y v' e1 e2 e3 => ?_⟩, fun y c e => ?_, I.free, I.freeC, fun p hp => ?_, fun b ob e => ?_, by exact List.length_replicate⟩
  · exact (hs.2 b (ltL b o e)).trans (I.base.keep b o e n hb hx)
  · obtain ⟨sl, e1⟩ := I.base.slot b o e n hb hx
    exact ⟨sl, (hs.2 b (ltL b o e)).trans e1⟩
  · obtain ⟨o', e1⟩ := I.base.there b o e hx
    exact ⟨o', (hs.2 b (ltL b o e)).trans e1⟩
  · unfold LX.blank at e2
    rw [List.getElem?_replicate] at e2
    split at e2 <;> cases e2
  · obtain ⟨w', z⟩ := I.cell y c e
    exact ⟨w', z.sameBut hs (I.cne y c e)⟩
  · obtain ⟨e, n, ne, nf, d⟩ := I.pin p hp
    exact ⟨(hs.2 p.1 ne).trans e, n, ne, nf, d⟩
  · refine (I.hok b ob e).stay (fun c w' hc q => (hs.2 c ?_).trans q) (fun _ q => q) fun _ _ q => q
    rintro rfl
    rcases hc with rfl | hc
    · rw [I.free] at e; cases e
    · rw [I.free] at hc; cases hc
end
inductive Hs (X : Cx) : List ExceptHandler → List (Addr × Nat × TS) → Prop
  | nil : Hs X [] []
  | cons {cn n : Str} {np pos : Pos} {b0 : Stmt} {suite : List Stmt} {rest : List ExceptHandler} {Ch : Addr} {rs : List Addr} {i : Nat} {t : TS} {l : List (Addr × Nat × TS)} (hg : Gl X cn) (hm : X.mg cn = some (.ref Ch)) (hdb : (cn == ("__debug__" : Str)) = false) (hc : XCls X.K Ch rs) (hN : X.N.Nodup) (hi : X.N[i]? = some n)
      (hn : X.env.scope.names.lookup n = some .local) (hb : ∀ x, PSs (hdC X x) (b0 :: suite) t) (hr : Hs X rest l) :
      Hs X (.ExceptHandler (some (.Name cn np)) (some n) (b0 :: suite) pos :: rest) ((Ch, i, t) :: l)
noncomputable def tHs (N : Nat) (D : Ends) (x : Addr) (cs : List Addr) : List (Addr × Nat × TS) → Hp → Prop
  | [], _ => False
  | (Ch, i, t) :: l, H => if Ch ∈ cs then t { nx := fun _ H' => D.nx (blank N) H', rt := D.rt } ((blank N).set i (some (.ref x))) H else tHs N D x cs l H
theorem hs_ok {X : Cx} {pins : List (Addr × Obj)} {D : Ends} {x C : Addr} {dx : Option Addr} {rs : List Addr} (c : XCls X.K C rs) (nx : X.s_0.heap.objs.size ≤ x) (hex : X.ex = []) (hst : X.stack = X.env :: X.outer) (px : ∀ p ∈ X.pn ++ pins, p.1 ≠ x) :
    ∀ {hs : List ExceptHandler} {l : List (Addr × Nat × TS)}, Hs X hs l → ∀ {s : Shared} {H : Hp} {T : Addr}, Inv X pins (blank X.N.length) H s → Exc s.heap x C dx [T] → H x = none → H T = none → X.s_0.heap.objs.size ≤ T → (∀ p ∈ X.pn ++ pins, p.1 ≠ T) →
      tHs X.N.length D x (C :: rs) l (upd H x (XH x C dx)) → wpAny (model X.prog X.w) X.A (handleBy (.ref x) X.env hs) (SP X pins D) X.xe s := by
  intro hs l h
  induction h with
  | nil => intro s H T I hX hx hT nT pT q; exact q.elim
  | @cons cn n np pos b0 suite rest Ch rs' i t l hg hm hdb hc hN hi hn hb hr ih =>
    intro s H T I hX hx hT nT pT q
    refine wpAny_handleBy_cons (codeAny_handlers_test (ld_glob (X := hdC X x) (Inv.hd I) hg hm ?_ hdb)) (by intro q; cases q)
    obtain ⟨oe, vs, he, hcl, _⟩ := id hX
    refine match_X I.kIn c hc he hcl ?_
    unfold tHs at q
    by_cases hin : Ch ∈ C :: rs
    · rw [if_pos hin] at q
      rw [decide_eq_true hin]
      refine codeAny_handlers_suite_as (flightX hX fun h' hX' k => ?_)
      obtain ⟨⟨aL, aT⟩, aC⟩ := exc_apart I hX
      have I2 : Inv X pins (blank X.N.length) H { s with heap := h' } :=
        I.turned (it := T) (t' := s.toks) (fun b o hb e => k b o hb e) hT (Ne.symm aT) (.inr nT) (fun y c e => (aC y c e).2) fun p hp => pT p hp
      obtain ⟨oe', vs', he', hcl', hdi', hda', _⟩ := id hX'
      have I3 := Inv.track (o := XH x C dx) I2 hx nx (Ne.symm aL) (fun y c e => (aC y c e).1) px (xh_ok he' hcl' hdi' hda')
      refine store_ok (X := X) I3 hN hi (.inl hn) (v := .ref x) rfl (fun s3 I4 => ?_) (.inr hn)
      refine wpAny_mono (hb x pins s3 _ _ _ (Inv.hd I4) q) (fun f s4 hf => ?_) fun _ _ z => z.elim
      dsimp only
      cases f with
      | next =>
        obtain ⟨σ', H', I5, q5⟩ := hf
        exact goes_ok (Inv.unhd I.ok I5) hn fun s5 I6 => ⟨_, H', I6, q5⟩
      | ret u =>
        obtain ⟨v, σ', H', I5, rv, q5⟩ := hf
        exact goes_ok (Inv.unhd I.ok I5) hn fun s5 I6 => ⟨v, _, H', I6, rv, q5⟩
      | brk =>
        obtain ⟨_, _, _, q5⟩ := hf
        exact q5.elim
      | cont =>
        obtain ⟨_, _, _, q5⟩ := hf
        exact q5.elim
    · rw [if_neg hin] at q
      rw [decide_eq_false hin]
      exact ih I hX hx hT nT pT q
noncomputable def tTry (K : Frag) (N : Nat) (tb : XK → TS) (l : List (Addr × Nat × TS)) : TS := fun D σ H =>
  tb (fun Cv dx H' => ∃ C rs, Cv = .ref C ∧ XCls K C rs ∧ ∀ x, H' x = none → tHs N D x (C :: rs) l (upd H' x (XH x C dx))) D σ H
theorem ps_try {X : Cx} {body : List Stmt} {h0 : ExceptHandler} {hs : List ExceptHandler} {pos : Pos} {tb : XK → TS} {l : List (Addr × Nat × TS)} (hst : X.stack = X.env :: X.outer) (hex : X.ex = []) (hb : ∀ pins R, PSs (trC X pins R) body (tb R)) (hh : Hs X (h0 :: hs) l) :
    PS X (.Try body (h0 :: hs) [] [] pos) (tTry X.K X.N.length tb l) := by
  intro pins s σ H D I h
  refine wpAny_Try_except (wpAny_mono (hb pins _ [] s σ H D (Inv.tr I) h) (fun f s1 h1 => ?_) fun e s1 h1 => ?_)
  · cases f with
    | next =>
      obtain ⟨σ', H', I1, q⟩ := h1
      exact wpAny_execs_nil ⟨σ', H', Inv.untr I1, q⟩
    | ret u =>
      obtain ⟨v, σ', H', I1, rv, q⟩ := h1
      exact ⟨v, σ', H', Inv.untr I1, rv, q⟩
    | brk =>
      obtain ⟨σ', H', I1, q⟩ := h1
      exact ⟨σ', H', Inv.untr I1, q⟩
    | cont =>
      obtain ⟨σ', H', I1, q⟩ := h1
      exact ⟨σ', H', Inv.untr I1, q⟩
  · obtain ⟨x, C, T, dx, H', rfl, I1, hX, hx, hT, nx, nT, px, C', rs, eC, c, q⟩ := h1
    cases eC
    have fr : X.A.frames = some (X.env :: X.outer) := by rw [← hst]; exact I1.ok.frames
    have fs : s1.heap.FunFrames X.base (X.env :: X.outer) := by rw [← hst]; exact I1.stack
    obtain ⟨⟨aL, aT⟩, aC⟩ := exc_apart I1 hX
    refine noteX (base := X.base) fr fs (frame_own I1 hst) hX fun h2 T2 z1 z2 z3 z4 => ?_
    have z3' : ∀ b o, b ∉ frs X.stack → b ≠ x → b ∉ [T] → s1.heap.get? b = some o → h2.get? b = some o := by rw [hst]; exact z3
    have z4' : ∀ b o, b ∈ frs X.stack → s1.heap.get? b = some o → ∃ sl, h2.get? b = some { o with slots := sl } := by rw [hst]; exact z4
    have I2 := Inv.noted (ts := [T]) I1 hx (fun T' z => by rw [List.mem_singleton.mp z]; exact hT) nx (fun T' z => by rw [List.mem_singleton.mp z]; exact nT) hex (fun p hp => ⟨(px p hp).1, fun z => (px p hp).2 (List.mem_singleton.mp z)⟩) hst
      (fun y c e => ⟨(aC y c e).1, fun z => (aC y c e).2 (List.mem_singleton.mp z)⟩) ⟨aL, fun z => aT (List.mem_singleton.mp z)⟩ z3' z4'
    exact hs_ok c nx hex hst (fun p hp => (px p hp).1) hh I2 z1 hx (I1.hok.fresh z2) (Nat.le_trans I1.sz z2) (fun p hp => Nat.ne_of_lt (Nat.lt_of_lt_of_le (Heap.lt_size (I1.pin p hp).1) z2)) (q x hx)
end LX
set_option Elab.async false
set_option linter.all false
set_option maxRecDepth 100000
set_option maxHeartbeats 4000000
namespace Lu
open PySem PySem.Spec PyProof.Rows L2 LX
open PySem.W (Frag findIn specialIn instIn typeIn keepIn readsIn findCls isFn)
section
variable (P : Program) (w : World) (K : Frag) (mg : Str → Option Value) (base : Heap)
noncomputable def HasFn (k : Nat) (x : Str) (ps : List Str) (sp : Sp) : Prop := ∃ f fd, mg x = some (.ref f) ∧ keepIn K (.ref f) = true ∧ Binds K fd ps [] ∧ FnOk P w K mg base (CX1 P w) k f fd ps sp
noncomputable def HasMeth (k : Nat) (C : Addr) (m : Str) (ps : List Str) (sp : Sp) : Prop := ∃ f fd, Meth K C m f ∧ Binds K fd ps [] ∧ FnOk P w K mg base (CX1 P w) k f fd ps sp
noncomputable def HasMk (k : Nat) (C : Addr) (x : Str) (ps : List Str) (sp : Sp) : Prop := ∃ f fd, mg x = some (.ref C) ∧ Mk K C f ∧ Binds K fd ps [] ∧ FnOk P w K mg base (CX1 P w) k f fd ps sp
noncomputable def HasMkX (k : Nat) (C : Addr) (x : Str) (ps : List Str) (sp : Sp) : Prop := ps.length ≤ 1000 ∧ (∃ rs, XCls K C rs) ∧ ∃ f fd, mg x = some (.ref C) ∧ MkX K C f ∧ Binds K fd ps [] ∧ FnOk P w K mg base (CX1 P w) k f fd ps sp
end
section
variable {X : Cx} {k j : Nat} {C : Addr} {x m : Str} {ps : List Str} {sp : Sp} {E : XK} {p pos apos : Pos} {e o : Expr} {es : List Expr} {ta : TE} {t : TA}
theorem pe_fn (G : HasFn X.prog X.w X.K X.mg X.base k x ps sp) (hr : Room k X.A) (hg : Gl X x) (hx : Passes (CX1 X.prog X.w) X E) (ha : PA X (e :: es) t) (hdb : (x == ("__debug__" : Str)) = false := by decide)
    (he : starEach (e :: es) X.env = (false, eval e X.env) :: starEach es X.env := by rfl) (hpl : (backTo pos (starEach es X.env)).any (·.1) = false := by rfl) : PE X (.Call (.Name x p) (e :: es) [] pos) (tCall sp [] E t) := by
  obtain ⟨f, fd, hm, hk, hb, F⟩ := G
  exact pe_call F hr hg hm hk hb .nil hx ha hdb he hpl
theorem pe_me {pl : Sem Bool} (c : Cls X.K C) (G : HasMeth X.prog X.w X.K X.mg X.base k C m ps sp) (hr : Room k X.A) (hx : Passes (CX1 X.prog X.w) X E) (ho : PE X o ta) (ha : PA X (e :: es) t)
    (hst : starEach (e :: es) X.env = (false, eval e X.env) :: starEach es X.env := by rfl) (hpl : (backTo pos (starEach es X.env)).any (·.1) = false := by rfl)
    (ht : eval (.Call (.Attribute o m apos) (e :: es) [] pos) X.env = (do
      let ov ← eval o X.env
      standAt apos.atName
      let (f, first) ← holding [ov] (getMethod ov m pl)
      callWith pos f first (backTo pos (starEach (e :: es) X.env)) (backToKw pos (keywordEach [] X.env))) := by rfl) : PE X (.Call (.Attribute o m apos) (e :: es) [] pos) (tMeth C m sp [] E ta t) := by
  obtain ⟨f, fd, hm, hb, F⟩ := G
  exact pe_meth ho c hm F hr hb .nil hx ha hst hpl ht
theorem pe_me0 {pl : Sem Bool} (c : Cls X.K C) (G : HasMeth X.prog X.w X.K X.mg X.base k C m ps sp) (hr : Room k X.A) (hx : Passes (CX1 X.prog X.w) X E) (ho : PE X o ta)
    (ht : eval (.Call (.Attribute o m apos) [] [] pos) X.env = (do
      let ov ← eval o X.env
      standAt apos.atName
      let (f, first) ← holding [ov] (getMethod ov m pl)
      callWith pos f first (backTo pos (starEach [] X.env)) (backToKw pos (keywordEach [] X.env))) := by rfl) : PE X (.Call (.Attribute o m apos) [] [] pos) (tMeth C m sp [] E ta tNil) := by
  obtain ⟨f, fd, hm, hb, F⟩ := G
  exact pe_meth0 ho c hm F hr hb .nil hx ht
theorem pe_mk (G : HasMk X.prog X.w X.K X.mg X.base k C x ps sp) (hr : Room (k + 1) X.A) (hg : Gl X x) (hx : Passes (CX1 X.prog X.w) X E) (ha : PA X (e :: es) t) (hdb : (x == ("__debug__" : Str)) = false := by decide)
    (he : starEach (e :: es) X.env = (false, eval e X.env) :: starEach es X.env := by rfl) (hpl : (backTo pos (starEach es X.env)).any (·.1) = false := by rfl) : PE X (.Call (.Name x p) (e :: es) [] pos) (tMake C sp [] E t) := by
  obtain ⟨f, fd, hm, hk, hb, F⟩ := G
  exact pe_make hk F hr hg hm hb .nil hx ha hdb he hpl
theorem pe_mkX (G : HasMkX X.prog X.w X.K X.mg X.base k C x ps sp) (hr : Room (k + 1) X.A) (hg : Gl X x) (hx : Passes (CX1 X.prog X.w) X E) (ha : PA X (e :: es) t) (hdb : (x == ("__debug__" : Str)) = false := by decide)
    (he : starEach (e :: es) X.env = (false, eval e X.env) :: starEach es X.env := by rfl) (hpl : (backTo pos (starEach es X.env)).any (·.1) = false := by rfl) : PE X (.Call (.Name x p) (e :: es) [] pos) (tMakeX X.s_0.heap.objs.size C sp [] E t) := by
  obtain ⟨hps, ⟨rs, c⟩, f, fd, hm, hk, hb, F⟩ := G
  exact pe_makeX c hk F hr hg hm hb .nil hx hps ha hdb he hpl
theorem pe_mkX0 (G : HasMkX X.prog X.w X.K X.mg X.base k C x ps sp) (hr : Room (k + 1) X.A) (hg : Gl X x) (hx : Passes (CX1 X.prog X.w) X E) (hdb : (x == ("__debug__" : Str)) = false := by decide) :
    PE X (.Call (.Name x p) [] [] pos) (tMakeX X.s_0.heap.objs.size C sp [] E tNil) := by
  obtain ⟨hps, ⟨rs, c⟩, f, fd, hm, hk, hb, F⟩ := G
  exact pe_makeX0 c hk F hr hg hm hb .nil hx hps hdb
end
section
variable {X : Cx} {x : Str} {pos : Pos}
theorem pe_gI {i : Int} (h : ∃ t, X.mg x = some (.int i t)) (hg : Gl X x) (hd : (x == ("__debug__" : Str)) = false := by decide) : PE X (.Name x pos) (tC (.int i)) := by
  obtain ⟨t, h⟩ := h
  exact pe_glob hg h ⟨t, rfl⟩ hd
theorem pe_gS {z : Str} (h : ∃ t, X.mg x = some (.str z t)) (hg : Gl X x) (hd : (x == ("__debug__" : Str)) = false := by decide) : PE X (.Name x pos) (tC (.str z)) := by
  obtain ⟨t, h⟩ := h
  exact pe_glob hg h ⟨t, rfl⟩ hd
theorem pe_gR {a : Addr} (h : X.mg x = some (.ref a)) (hg : Gl X x) (hd : (x == ("__debug__" : Str)) = false := by decide) : PE X (.Name x pos) (tC (.ref a)) := pe_glob hg h rfl hd
end
noncomputable def Raises (E : XK) (C : Addr) (fs : List (Str × V)) : Prop := ∀ d H', H' d = some (XD d fs) → E (.ref C) (some d) H'
noncomputable def InitX (K : Frag) (C : Addr) (ok : List V → List (Str × V) → Prop) : Sp := fun vs H Q _ => ∃ x ws fs, vs = .ref x :: ws ∧ ok ws fs ∧ H x = some (XO x C none) ∧
  ∀ d H', H' x = some (XO x C (some d)) → H' d = some (XD d fs) → d ≠ x → (∀ b, b ≠ x → b ≠ d → H' b = H b) → Q .non H'
theorem raise_of {K : Frag} {n : Nat} {C : Addr} {ok : List V → List (Str × V) → Prop} {E E' : XK} {t : TA} {D : Ends} {σ : L2.St} {H : Hp} {rs : List Addr} (c : XCls K C rs) (h : t σ H fun vs _ => ∃ fs, ok vs fs ∧ Raises E C fs) :
    (∀ (Q Q' : List V → Hp → Prop), (∀ vs H, Q vs H → Q' vs H) → t σ H Q → t σ H Q') → tRaise K n (tMakeX n C (InitX K C ok) [] E' t) E D σ H := fun mono => by
  refine mono _ _ (fun vs H1 hq => ?_) h
  obtain ⟨fs, h1, h2⟩ := hq
  intro x hx nx
  refine ⟨x, vs ++ [], fs, rfl, by rw [List.append_nil]; exact h1, upd_same, fun d H' e1 e2 nd _ => ⟨rfl, x, C, rs, some d, rfl, e1, nx, c, h2 d _ ?_⟩⟩
  rw [del_ne nd]
  exact e2
noncomputable def TupC (K : Frag) (a : Addr) (xs : List V) : Prop := ∀ H, SqT K H a xs
theorem vals_abs : ∀ {us : List Value} {xs : List V}, us.mapM absV = some xs → Vals xs us
  | [], xs, h => by
    have e : xs = [] := by simpa using h.symm
    subst e
    exact .nil
  | u :: us, xs, h => by
    rw [List.mapM_cons] at h
    cases e1 : absV u with
    | none => rw [e1] at h; cases h
    | some x =>
      rw [e1] at h
      cases e2 : us.mapM absV with
      | none => rw [e2] at h; cases h
      | some ys =>
        rw [e2] at h
        have e : xs = x :: ys := (Option.some.inj h).symm
        subst e
        refine .cons ?_ (vals_abs e2)
        cases u <;> cases e1 <;> first | rfl | exact ⟨_, rfl⟩
theorem tupC_mk {K : Frag} {a : Addr} {xs : List V} {od : Option Addr} {its : List Value} {n : Nat} {sl : Array (Option Value)} (l : List.lookup a K = some ⟨.type "tuple", od, .seq its.toArray n, sl⟩) (v : its.mapM absV = some xs) (hz : its.length ≤ 1000) : TupC K a xs :=
  fun H => .inr ⟨_, its.toArray, n, l, rfl, rfl, by rw [List.size_toArray, sizeLine_eq]; omega, vals_abs v⟩
theorem op_mul_str {X : Cx} : OpR X (binaryOp .Mult) (fun x y H Q => ∃ z n, x = .str z ∧ y = .int n ∧ z.length ≤ 100 ∧ 0 ≤ n ∧ n ≤ 100 ∧ Q (.str (Txt.mul z n)) H) := by
  intro pins s σ H x y v u Q I rx ry h
  obtain ⟨z, n, rfl, rfl, hz, h0, h1, q⟩ := h
  obtain ⟨t, rfl⟩ := rx
  obtain ⟨t', rfl⟩ := ry
  exact SB.mul (mulOk_of 100 100 hz (by omega) (by omega) (by decide) (by decide)) fun t2 k => ⟨.str _, H, I.tok _, ⟨_, rfl⟩, q⟩
theorem lc_str {x : Str} {g : TG} {tt : TT} {te : TE} {vs : List Nat} {σ : L2.St} {H1 : Hp} {D : Addr} {Qd : Hp → Prop} (Pv : Nat → Hp → Prop) (h0 : Pv 0 (upd H1 D (.lst [])))
    (hs : ∀ i c H, x.cps.toList[i]? = some c → Pv i H → g (.str ⟨#[c]⟩) (wipe σ vs) H fun σ2 H2 => wipe σ2 vs = wipe σ vs ∧ tt σ2 H2 fun b H3 =>
      if b = true then te σ2 H3 fun y H4 => ∃ acc, H4 D = some (.lst acc) ∧ acc.length < sizeLine ∧ Pv (i + 1) (upd H4 D (.lst (acc ++ [y]))) else Pv (i + 1) H3) (hd : ∀ H, Pv x.cps.size H → Qd H) :
    ∃ W : Nat → Nat → Hp → Prop, (∃ m, W 0 m (upd H1 D (.lst []))) ∧ ∀ i m H, W i m H →
      ((Its x).stop i H ∧ Qd H) ∨ ((Its x).go i H ∧ ∃ Nx : Hp → Prop, (∀ H', Nx H' → ∃ m', m' < m ∧ W (i + 1) m' H') ∧ ∀ y H', (Its x).yld i H y H' → g y (wipe σ vs) H' fun σ2 H2 => wipe σ2 vs = wipe σ vs ∧ tt σ2 H2 fun b H3 =>
        if b = true then te σ2 H3 fun y H4 => ∃ acc, H4 D = some (.lst acc) ∧ acc.length < sizeLine ∧ Nx (upd H4 D (.lst (acc ++ [y]))) else Nx H3) := by
  refine ⟨fun i m H => m = x.cps.size - i ∧ i ≤ x.cps.size ∧ Pv i H, ⟨x.cps.size, by simp, Nat.zero_le _, h0⟩, ?_⟩
  rintro i m H ⟨rfl, hi, p⟩
  by_cases hlt : i < x.cps.size
  · refine .inr ⟨hlt, Pv (i + 1), fun H' p' => ⟨x.cps.size - (i + 1), by omega, rfl, hlt, p'⟩, fun y H' hy => ?_⟩
    obtain ⟨e, c, hc, ey⟩ := hy
    subst e ey
    exact hs i c _ (by simpa using hc) p
  · have e : i = x.cps.size := by omega
    subst e
    exact .inl ⟨Nat.le_refl _, hd H p⟩
end Lu
set_option linter.all false
namespace Lu
noncomputable def isBeg {α : Type} (S : List (List Int × α)) (w : List Int) : Bool := S.any fun s => w.isPrefixOf s.1
noncomputable def greedy {α : Type} (S : List (List Int × α)) : List Int → List Int → List Int × List Int
  | w, [] => (w, [])
  | w, c :: r => if isBeg S (w ++ [c]) = true then greedy S (w ++ [c]) r else (w, c :: r)
noncomputable def lookS {α : Type} (S : List (List Int × α)) (w : List Int) : Option α := S.foldl (fun acc s => if s.1 = w then some s.2 else acc) none
noncomputable def takeS {α : Type} (S : List (List Int × α)) (u : List Int) : Option (α × List Int) := (lookS S (greedy S [] u).1).map fun a => (a, (greedy S [] u).2)
noncomputable def mTake (b : Int) : List Int → Option (List Int)
  | [] => none
  | c :: r => if c = b then some r else none
noncomputable def codes (s : String) : List Int := s.toList.map fun c => (c.toNat : Int)
noncomputable def kindS : List (List Int × Int) := [(codes "french", 0), (codes "italian", 1), (codes "german", 2)]
noncomputable def lengthS : List (List Int × Int) := [("x", 1), ("t", 2), ("t.", 3), ("s", 4), ("s.", 6), ("e", 8), ("e.", 12), ("q", 16), ("q.", 24), ("h", 32), ("h.", 48), ("w", 64), ("w.", 96)].map fun p => (codes p.1, p.2)
noncomputable def lettersI : List (List Int) := [codes "abcdefghiklmnopq", codes "0123456789xyzvuw"]
noncomputable def bassI : List (List (List Int)) := [["a", "/a", "//a", "///a", "4", "5", "6", "7"].map codes, ["7", "8", "9", "10", "11", "12", "13", "14"].map codes, ["-7", "-8", "-9", "-10", "-11", "-12", "-13", "-14"].map codes]
noncomputable def crossI : List Int := codes "abcdefghiklmnopqrstvxyz&9"
noncomputable def sixthI : List Int := codes "+ABCDEFGHIKLMNOP"
noncomputable def gsignI (c f : Nat) : List Int := if c = 6 then [sixthI.getD f 0] else if f = 0 then [48 + 6 - (c : Int)] else List.replicate ((f - 1) / 5 + 1) (crossI.getD (5 * ((f - 1) % 5) + 5 - c) 0)
noncomputable def rowS (k : Nat) : List (List Int × Option Int) := if k = 2 then [] else ((List.range 16).map fun i => ([(lettersI.getD k []).getD i 0], some (i : Int))) ++ [([46], none)]
noncomputable def stopS (k : Nat) : List (List Int × (Int × Int)) := (if k = 2 then [1, 2, 3, 4, 5, 6].flatMap fun (c : Nat) => (List.range 16).map fun f => (gsignI c f, ((c : Int), (f : Int))) else []) ++
  (List.range 8).map fun n => ((bassI.getD k []).getD n [], (7 + (n : Int), 0))
noncomputable def rowC (k : Nat) : List Int := if k = 0 then [1, 2, 3, 4, 5, 6] else if k = 1 then [6, 5, 4, 3, 2, 1] else []
noncomputable abbrev StopI := Int × Int
noncomputable abbrev LineI := Int × List StopI
noncomputable def addF (c : Int) (f : Option Int) (l : List StopI) : List StopI := match f with
  | some x => (c, x) :: l
  | none => l
noncomputable def mRow (S : List (List Int × Option Int)) : List Int → List Int → Option (List StopI × List Int)
  | [], u => some ([], u)
  | c :: cs, u => match takeS S u with
    | none => none
    | some (f, r) => match mRow S cs r with
      | none => none
      | some (l, z) => some (addF c f l, z)
noncomputable def byC (k : Nat) (l : List StopI) : List StopI := if k = 1 then l.reverse else l
noncomputable def mSingles (S : List (List Int × StopI)) : Nat → List StopI → List Int → Option (List StopI × List Int)
  | 0, _, _ => none
  | f + 1, acc, u => match takeS S u with
    | none => none
    | some (st, r) => if (match acc.getLast? with | some l => decide (st.1 ≤ l.1) | none => false) = true then none else
      if r.headD 256 = 32 then mSingles S f (acc ++ [st]) r.tail else some (acc ++ [st], r)
noncomputable def mStops (k : Nat) (u : List Int) : Option (List StopI × List Int) :=
  if k = 2 then (if u.headD 256 = 46 then some ([], u.tail) else mSingles (stopS k) (u.length + 1) [] u) else match mRow (rowS k) (rowC k) u with
    | none => none
    | some (l, r) => if r.headD 256 = 32 then mSingles (stopS k) (r.length + 1) (byC k l) r.tail else some (byC k l, r)
noncomputable def mLength (before : Int) (u : List Int) : Option (Int × List Int) := if u.headD 256 = 32 ∧ 0 < before then some (before, u.tail) else match takeS lengthS u with
  | none => none
  | some (n, r) => match mTake 32 r with
    | none => none
    | some z => if n = before then none else some (n, z)
noncomputable def mLine (k : Nat) (before : Int) (u : List Int) : Option (LineI × List Int) := if u.headD 256 = 124 then (mTake 10 u.tail).map fun r => ((0, []), r) else match mLength before u with
  | none => none
  | some (n, r) => match mStops k r with
    | none => none
    | some (l, z) => (mTake 10 z).map fun y => ((n, l), y)
noncomputable def mLines (k : Nat) : Nat → Nat → Int → List Int → Option (List LineI)
  | _, _, _, [] => some []
  | 0, _, _, _ :: _ => none
  | f + 1, m, before, c :: r => match mLine k before (c :: r) with
    | none => none
    | some (l, z) => if m = 512 then none else (mLines k f (m + 1) (if 0 < l.1 then l.1 else before) z).map fun ls => l :: ls
noncomputable def mRead (u : List Int) : Option (Nat × List LineI) := match takeS kindS u with
  | none => none
  | some (k, r) => match mTake 10 r with
    | none => none
    | some z => match mLines k.toNat (z.length + 1) 0 0 z with
      | none => none
      | some ls => if ls.any (fun l => decide (0 < l.1)) = true then some (k.toNat, ls) else none
noncomputable def stopI (s : LuteTab.Stop) : StopI := ((s.course : Int), (s.fret : Int))
noncomputable def lineI : LuteTab.Line → LineI
  | .bar => (0, [])
  | .moment n l => ((n : Int), l.map stopI)
end Lu
set_option Elab.async false
set_option linter.all false
set_option maxRecDepth 100000
set_option maxHeartbeats 4000000
namespace Lu
open LuteTab
noncomputable def step {α : Type} (c : Int) (S : List (List Int × α)) : List (List Int × α) := S.filterMap fun s => match s.1 with
  | [] => none
  | x :: w => if x = c then some (w, s.2) else none
noncomputable def look0 {α : Type} (S : List (List Int × α)) : Option α := S.foldl (fun acc s => if s.1 = [] then some s.2 else acc) none
noncomputable def tk {α : Type} : List (List Int × α) → List Int → Option (α × List Int)
  | S, [] => (look0 S).map fun a => (a, [])
  | S, c :: r => match step c S with
    | [] => (look0 S).map fun a => (a, c :: r)
    | s :: S' => tk (s :: S') r
noncomputable def stepW {α : Type} : List Int → List (List Int × α) → List (List Int × α)
  | [], S => S
  | c :: w, S => stepW w (step c S)
theorem stepW_nil {α : Type} : ∀ w : List Int, stepW w ([] : List (List Int × α)) = []
  | [] => rfl
  | c :: w => stepW_nil w
theorem stepW_snoc {α : Type} (c : Int) : ∀ (w : List Int) (S : List (List Int × α)), stepW (w ++ [c]) S = step c (stepW w S)
  | [], S => rfl
  | d :: w, S => stepW_snoc c w (step d S)
theorem step_cons {α : Type} (c x : Int) (w : List Int) (a : α) (S : List (List Int × α)) : step c ((x :: w, a) :: S) = if x = c then (w, a) :: step c S else step c S := by
  unfold step
  by_cases h : x = c
  · rw [List.filterMap_cons, if_pos h]; simp only [h, if_true]
  · rw [List.filterMap_cons, if_neg h]; simp only [h, if_false]
theorem step_e {α : Type} (c : Int) (a : α) (S : List (List Int × α)) : step c (([], a) :: S) = step c S := rfl
theorem stepW_cons {α : Type} : ∀ (w v : List Int) (a : α) (S : List (List Int × α)), stepW w ((v, a) :: S) = (if w.isPrefixOf v = true then [(v.drop w.length, a)] else []) ++ stepW w S
  | [], v, a, S => by simp [stepW, List.isPrefixOf]
  | c :: w, [], a, S => by
    show stepW w (step c (([], a) :: S)) = _
    rw [step_e]
    simp [stepW, List.isPrefixOf]
  | c :: w, x :: v, a, S => by
    show stepW w (step c ((x :: v, a) :: S)) = _
    rw [step_cons]
    by_cases h : x = c
    · subst h
      rw [if_pos rfl, stepW_cons w v a]
      simp [stepW, List.isPrefixOf]
    · rw [if_neg h]
      have : (c :: w).isPrefixOf (x :: v) = false := by
        simp only [List.isPrefixOf]
        have : (c == x) = false := by simpa using fun z => h z.symm
        rw [this]; rfl
      rw [this]
      simp [stepW]
theorem isBeg_step {α : Type} (w : List Int) : ∀ S : List (List Int × α), isBeg S w = !(stepW w S).isEmpty
  | [] => by rw [stepW_nil]; rfl
  | (v, a) :: S => by
    rw [stepW_cons]
    have ih := isBeg_step w S
    unfold isBeg at ih ⊢
    rw [List.any_cons, ih]
    by_cases h : w.isPrefixOf v = true
    · rw [if_pos h, h]; rfl
    · rw [if_neg h, Bool.not_eq_true _ |>.mp h]; rfl
theorem look_step {α : Type} (w : List Int) : ∀ (S : List (List Int × α)) (acc : Option α), S.foldl (fun acc s => if s.1 = w then some s.2 else acc) acc = (stepW w S).foldl (fun acc s => if s.1 = [] then some s.2 else acc) acc
  | [], acc => by rw [stepW_nil]; rfl
  | (v, a) :: S, acc => by
    rw [stepW_cons, List.foldl_cons, List.foldl_append, look_step w S]
    congr 1
    by_cases h : w.isPrefixOf v = true
    · rw [if_pos h]
      obtain ⟨z, rfl⟩ := List.isPrefixOf_iff_prefix.mp h
      cases z with
      | nil => simp
      | cons y z => simp
    · rw [if_neg h]
      have : v ≠ w := fun e => h (by rw [e]; exact List.isPrefixOf_iff_prefix.mpr (List.prefix_refl w))
      simp [this]
theorem lookS_step {α : Type} (w : List Int) (S : List (List Int × α)) : lookS S w = look0 (stepW w S) := look_step w S none
theorem greedy_tk {α : Type} (S : List (List Int × α)) : ∀ (u w : List Int), ((lookS S (greedy S w u).1).map fun a => (a, (greedy S w u).2)) = tk (stepW w S) u
  | [], w => by
    show ((lookS S w).map fun a => (a, [])) = _
    rw [lookS_step]; rfl
  | c :: r, w => by
    have e : greedy S w (c :: r) = if isBeg S (w ++ [c]) = true then greedy S (w ++ [c]) r else (w, c :: r) := rfl
    have e2 : tk (stepW w S) (c :: r) = match step c (stepW w S) with | [] => (look0 (stepW w S)).map fun a => (a, c :: r) | s :: S' => tk (s :: S') r := rfl
    rw [e, e2, isBeg_step, stepW_snoc]
    cases h : step c (stepW w S) with
    | nil =>
      show ((lookS S w).map fun a => (a, c :: r)) = _
      rw [lookS_step]
    | cons s S' =>
      show ((lookS S (greedy S (w ++ [c]) r).1).map fun a => (a, (greedy S (w ++ [c]) r).2)) = tk (s :: S') r
      rw [greedy_tk S r (w ++ [c]), stepW_snoc, h]
theorem take_tk {α : Type} (S : List (List Int × α)) (u : List Int) : takeS S u = tk S u := greedy_tk S u []
theorem tk_nil {α : Type} (S : List (List Int × α)) : tk S [] = (look0 S).map fun a => (a, []) := rfl
theorem tk_stop {α : Type} {S : List (List Int × α)} {c : Int} {r : List Int} (h : step c S = []) : tk S (c :: r) = (look0 S).map fun a => (a, c :: r) := by
  show (match step c S with | [] => (look0 S).map fun a => (a, c :: r) | s :: S' => tk (s :: S') r) = _
  rw [h]
theorem tk_go {α : Type} {S S' : List (List Int × α)} {c : Int} {r : List Int} (h : step c S = S') (n : S' ≠ []) : tk S (c :: r) = tk S' r := by
  show (match step c S with | [] => (look0 S).map fun a => (a, c :: r) | s :: S' => tk (s :: S') r) = _
  rw [h]
  cases S' with
  | nil => exact absurd rfl n
  | cons s S' => rfl
theorem tk_one {α : Type} (a : α) (u : List Int) : tk [([], a)] u = some (a, u) := by
  cases u with
  | nil => rfl
  | cons c r => exact tk_stop rfl
noncomputable def iN (t : Bytes) : List Int := t.map fun c => (c.toNat : Int)
noncomputable def O {α β : Type} (g : α → β) : Rd α → Option (β × List Int)
  | .error _ => none
  | .ok (a, _, v) => some (g a, iN v)
theorem u8all {P : UInt8 → Prop} (h : ∀ n, n < 256 → P (UInt8.ofNat n)) (c : UInt8) : P c := by
  have := h c.toNat c.toNat_lt
  rwa [UInt8.ofNat_toNat] at this
theorem c_inj {c d : UInt8} : ((c.toNat : Int) = (d.toNat : Int)) ↔ c = d := by
  constructor
  · intro h
    exact UInt8.toNat_inj.mp (by omega)
  · intro h; rw [h]
theorem take_want (x : UInt8) (p : Nat) (t : Bytes) : mTake (x.toNat : Int) (iN t) = (match want [x] p t with | .error _ => none | .ok (_, _, v) => some (iN v)) := by
  cases t with
  | nil => rfl
  | cons c r =>
    show (if (c.toNat : Int) = (x.toNat : Int) then some (iN r) else none) = (match (if c = x then Except.ok ((), p + 1, r) else .error p : Rd Unit) with | .error _ => none | .ok (_, _, v) => some (iN v))
    by_cases h : c = x
    · rw [if_pos h, if_pos (c_inj.mpr h)]
    · rw [if_neg h, if_neg (fun z => h (c_inj.mp z))]
theorem want_append : ∀ (a b : Bytes) (p : Nat) (t : Bytes), want (a ++ b) p t = (match want a p t with | .error e => .error e | .ok (_, q, u) => want b q u)
  | [], b, p, t => rfl
  | x :: a, b, p, [] => rfl
  | x :: a, b, p, c :: t => by
    show (if c = x then want (a ++ b) (p + 1) t else .error p) = (match (if c = x then want a (p + 1) t else .error p) with | .error e => .error e | .ok (_, q, u) => want b q u)
    by_cases h : c = x
    · rw [if_pos h, if_pos h, want_append a b]
    · rw [if_neg h, if_neg h]
theorem tk_word {α : Type} (a : α) : ∀ (w : Bytes) (p : Nat) (t : Bytes), tk [(iN w, a)] (iN t) = O (fun _ => a) (want w p t)
  | [], p, t => tk_one a _
  | x :: w, p, [] => rfl
  | x :: w, p, c :: t => by
    show tk [((x.toNat : Int) :: iN w, a)] ((c.toNat : Int) :: iN t) = O (fun _ => a) (if c = x then want w (p + 1) t else .error p)
    by_cases h : c = x
    · subst h
      rw [if_pos rfl, ← tk_word a w (p + 1) t]
      exact tk_go (by rw [step_cons, if_pos rfl]; rfl) (by simp)
    · rw [if_neg h]
      exact tk_stop (by rw [step_cons, if_neg fun z => h (c_inj.mp z.symm)]; rfl)
theorem kind_step (c : UInt8) : step (c.toNat : Int) kindS = if c = 102 then [(iN (ascii "rench"), 0)] else if c = 105 then [(iN (ascii "talian"), 1)] else if c = 103 then [(iN (ascii "erman"), 2)] else [] :=
  u8all (P := fun c => step (c.toNat : Int) kindS = if c = 102 then [(iN (ascii "rench"), 0)] else if c = 105 then [(iN (ascii "talian"), 1)] else if c = 103 then [(iN (ascii "erman"), 2)] else []) (by decide +kernel) c
noncomputable def kindI (k : Kind) : Int := (k.num : Int)
noncomputable def mKind (u : List Int) : Option (Int × List Int) := match takeS kindS u with
  | none => none
  | some (k, r) => (mTake 10 r).map fun z => (k, z)
theorem word_then {a : Int} {w : Bytes} {k : Kind} {c : UInt8} {r : Bytes} (hs : step (c.toNat : Int) kindS = [(iN w, a)]) (hw : k.word = c :: w) (ha : a = kindI k) :
    mKind (iN (c :: r)) = O kindI (match want (k.word ++ [END]) 0 (c :: r) with | .error e => .error e | .ok (_, q, u) => .ok (k, q, u)) := by
  have e1 : takeS kindS (iN (c :: r)) = O (fun _ => a) (want w 1 r) := by
    rw [take_tk, ← tk_word]
    exact tk_go hs (by simp)
  have e2 : want k.word 0 (c :: r) = want w 1 r := by
    rw [hw]
    show (if c = c then want w (0 + 1) r else _) = _
    rw [if_pos rfl]
  rw [want_append, e2]
  unfold mKind
  rw [e1]
  cases want w 1 r with
  | error e => rfl
  | ok x =>
    obtain ⟨_, q, u⟩ := x
    show (mTake ((END : UInt8).toNat : Int) (iN u)).map (fun z => (a, z)) = O kindI (match want [END] q u with | .error e => .error e | .ok (_, q, u) => .ok (k, q, u))
    rw [take_want END q u]
    cases want [END] q u with
    | error e => rfl
    | ok x => rw [ha]; rfl
theorem kind_eq (t : Bytes) : mKind (iN t) = O kindI (kindAt t) := by
  cases t with
  | nil => decide +kernel
  | cons c r =>
    by_cases h1 : c = 102
    · subst h1
      exact word_then (k := .french) (w := ascii "rench") (by rw [kind_step]; rfl) (by decide +kernel) rfl
    · by_cases h2 : c = 105
      · subst h2
        exact word_then (k := .italian) (w := ascii "talian") (by rw [kind_step]; rfl) (by decide +kernel) rfl
      · by_cases h3 : c = 103
        · subst h3
          exact word_then (k := .german) (w := ascii "erman") (by rw [kind_step]; rfl) (by decide +kernel) rfl
        · have e : kindAt (c :: r) = .error 0 := by
            unfold kindAt
            split
            · rename_i h; injection h with h; exact absurd h h1
            · rename_i h; injection h with h; exact absurd h h2
            · rename_i h; injection h with h; exact absurd h h3
            · rfl
          rw [e]
          unfold mKind
          rw [take_tk, show tk kindS (iN (c :: r)) = none from by
            rw [show iN (c :: r) = (c.toNat : Int) :: iN r from rfl, tk_stop (by rw [kind_step, if_neg h1, if_neg h2, if_neg h3]), show look0 kindS = none by decide +kernel]
            rfl]
          rfl
end Lu
set_option Elab.async false
set_option linter.all false
set_option maxRecDepth 100000
set_option maxHeartbeats 4000000
namespace Lu
open LuteTab
noncomputable def lenC : List UInt8 := [120, 116, 115, 101, 113, 104, 119]
noncomputable def natI (n : Nat) : Int := (n : Int)
theorem len_step (c : UInt8) : step (c.toNat : Int) lengthS = match lenC.idxOf? c with
    | none => []
    | some i => if i = 0 then [([], (1 : Int))] else [([], ((2 ^ i : Nat) : Int)), ([46], ((2 ^ i + 2 ^ (i - 1) : Nat) : Int))] :=
  u8all (P := fun c => step (c.toNat : Int) lengthS = match lenC.idxOf? c with
    | none => []
    | some i => if i = 0 then [([], (1 : Int))] else [([], ((2 ^ i : Nat) : Int)), ([46], ((2 ^ i + 2 ^ (i - 1) : Nat) : Int))]) (by decide +kernel) c
theorem len_look : look0 lengthS = none := by decide +kernel
noncomputable def mLen (u : List Int) : Option (Int × List Int) := match takeS lengthS u with
  | none => none
  | some (n, r) => (mTake 32 r).map fun z => (n, z)
theorem tk_pt {α : Type} (a b : α) (c : UInt8) (r : Bytes) : tk [([], a), ([46], b)] (iN (c :: r)) = if c = 46 then some (b, iN r) else some (a, iN (c :: r)) := by
  by_cases h : c = 46
  · subst h
    rw [if_pos rfl]
    show tk _ (46 :: iN r) = _
    rw [tk_go (S' := [([], b)]) rfl (by simp), tk_one]
  · rw [if_neg h]
    have : ¬ ((46 : Int) = (c.toNat : Int)) := fun z => h (c_inj (d := 46) |>.mp z.symm)
    exact tk_stop (by rw [step_e, step_cons, if_neg this]; rfl)
theorem take32 (c : UInt8) (r : Bytes) : mTake 32 (iN (c :: r)) = if c = 32 then some (iN r) else none := by
  show (if (c.toNat : Int) = ((32 : UInt8).toNat : Int) then some (iN r) else none) = _
  by_cases h : c = 32
  · rw [if_pos h, if_pos (c_inj.mpr h)]
  · rw [if_neg h, if_neg fun z => h (c_inj.mp z)]
theorem len_eq (p : Nat) (t : Bytes) : mLen (iN t) = O natI (lengthAt p t) := by
  cases t with
  | nil =>
    show mLen [] = none
    unfold mLen
    rw [take_tk, tk_nil, len_look]
    rfl
  | cons c r =>
    unfold mLen
    rw [take_tk]
    show (match tk lengthS ((c.toNat : Int) :: iN r) with | none => none | some (n, r) => (mTake 32 r).map fun z => (n, z)) = O natI (match lenC.idxOf? c with
      | none => .error p
      | some i => match r with
        | 46 :: 32 :: u => if i = 0 then .error (p + 1) else .ok (2 ^ i + 2 ^ (i - 1), p + 3, u)
        | 46 :: _ => if i = 0 then .error (p + 1) else .error (p + 2)
        | 32 :: u => .ok (2 ^ i, p + 2, u)
        | _ => .error (p + 1))
    have hs := len_step c
    cases hi : lenC.idxOf? c with
    | none =>
      rw [hi] at hs
      rw [tk_stop hs, len_look]
      rfl
    | some i =>
      rw [hi] at hs
      dsimp only at hs
      by_cases h0 : i = 0
      · subst h0
        rw [if_pos rfl] at hs
        rw [tk_go hs (by simp), tk_one]
        dsimp only
        cases r with
        | nil => rfl
        | cons d u =>
          rw [take32]
          by_cases hd : d = 32
          · subst hd
            rfl
          · rw [if_neg hd]
            split
            · rfl
            · rfl
            · rename_i h; injection h with h; exact absurd h hd
            · rfl
      · rw [if_neg h0] at hs
        rw [tk_go hs (by simp)]
        cases r with
        | nil =>
          rw [show tk [([], ((2 ^ i : Nat) : Int)), ([46], ((2 ^ i + 2 ^ (i - 1) : Nat) : Int))] (iN []) = some (((2 ^ i : Nat) : Int), []) from rfl]
          rfl
        | cons d u =>
          rw [tk_pt]
          by_cases hd : d = 46
          · subst hd
            rw [if_pos rfl]
            dsimp only
            cases u with
            | nil =>
              show _ = O natI (if i = 0 then .error (p + 1) else .error (p + 2))
              rw [if_neg h0]
              rfl
            | cons e v =>
              rw [take32]
              by_cases he : e = 32
              · subst he
                show _ = O natI (if i = 0 then .error (p + 1) else .ok (2 ^ i + 2 ^ (i - 1), p + 3, v))
                rw [if_neg h0]
                rfl
              · rw [if_neg he]
                split
                · rename_i h; injection h with _ h; injection h with h; exact absurd h he
                · rw [if_neg h0]; rfl
                · rename_i h; injection h with h; exact absurd h (by decide)
                · rfl
          · rw [if_neg hd]
            dsimp only
            rw [take32]
            by_cases hd2 : d = 32
            · subst hd2
              rfl
            · rw [if_neg hd2]
              split
              · rename_i h; injection h with h; exact absurd h hd
              · rename_i h; injection h with h; exact absurd h hd
              · rename_i h; injection h with h; exact absurd h hd2
              · rfl
theorem len_facts {p : Nat} {t : Bytes} {n q : Nat} {v : Bytes} (h : lengthAt p t = .ok (n, q, v)) : lengths.contains n = true ∧ v.length < t.length := by
  cases t with
  | nil => cases h
  | cons c r =>
    revert h
    have e : lengthAt p (c :: r) = (match lenC.idxOf? c with
      | none => .error p
      | some i => match r with
        | 46 :: 32 :: u => if i = 0 then .error (p + 1) else .ok (2 ^ i + 2 ^ (i - 1), p + 3, u)
        | 46 :: _ => if i = 0 then .error (p + 1) else .error (p + 2)
        | 32 :: u => .ok (2 ^ i, p + 2, u)
        | _ => .error (p + 1)) := rfl
    rw [e]
    clear e
    intro h
    cases hi : lenC.idxOf? c with
    | none => rw [hi] at h; cases h
    | some i =>
      have h7 : i < 7 := u8all (P := fun c => ∀ i, lenC.idxOf? c = some i → i < 7) (by
        intro n hn i h
        have := List.findIdx?_eq_some_iff_findIdx_eq.mp h
        exact this.1) c i hi
      rw [hi] at h
      dsimp only at h
      have hl : ∀ j, j < 7 → lengths.contains (2 ^ j) = true ∧ (j ≠ 0 → lengths.contains (2 ^ j + 2 ^ (j - 1)) = true) := by decide +kernel
      split at h
      · rename_i u
        by_cases h0 : i = 0
        · rw [if_pos h0] at h; cases h
        · rw [if_neg h0] at h
          cases h
          exact ⟨(hl i h7).2 h0, by simp; omega⟩
      · by_cases h0 : i = 0
        · rw [if_pos h0] at h; cases h
        · rw [if_neg h0] at h; cases h
      · cases h
        exact ⟨(hl i h7).1, by simp; omega⟩
      · cases h
noncomputable def fretI (f : Option Nat) : Option Int := f.map natI
theorem fret_step0 (c : UInt8) : step (c.toNat : Int) (rowS 0) = if c = 46 then [([], none)] else match letters.idxOf? c with | some f => [([], some (f : Int))] | none => [] :=
  u8all (P := fun c => step (c.toNat : Int) (rowS 0) = if c = 46 then [([], none)] else match letters.idxOf? c with | some f => [([], some (f : Int))] | none => []) (by decide +kernel) c
theorem fret_step1 (c : UInt8) : step (c.toNat : Int) (rowS 1) = if c = 46 then [([], none)] else match figures.idxOf? c with | some f => [([], some (f : Int))] | none => [] :=
  u8all (P := fun c => step (c.toNat : Int) (rowS 1) = if c = 46 then [([], none)] else match figures.idxOf? c with | some f => [([], some (f : Int))] | none => []) (by decide +kernel) c
theorem fret_eq {S : List (List Int × Option Int)} {sg : Bytes} (hs : ∀ c : UInt8, step (c.toNat : Int) S = if c = 46 then [([], none)] else match sg.idxOf? c with | some f => [([], some (f : Int))] | none => []) (h0 : look0 S = none) (p : Nat) (t : Bytes) :
    takeS S (iN t) = O fretI (fretAt sg p t) := by
  rw [take_tk]
  cases t with
  | nil => show tk S [] = none; rw [tk_nil, h0]; rfl
  | cons c r =>
    show tk S ((c.toNat : Int) :: iN r) = O fretI (if c = 46 then .ok (none, p + 1, r) else match sg.idxOf? c with
      | some f => .ok (some f, p + 1, r)
      | none => .error p)
    have h := hs c
    by_cases hc : c = 46
    · rw [if_pos hc] at h
      rw [if_pos hc, tk_go h (by simp), tk_one]
      rfl
    · rw [if_neg hc] at h
      rw [if_neg hc]
      cases hi : sg.idxOf? c with
      | none =>
        rw [hi] at h
        rw [tk_stop h, h0]
        rfl
      | some f =>
        rw [hi] at h
        rw [tk_go h (by simp), tk_one]
        rfl
theorem fret_len {sg : Bytes} {p : Nat} {t : Bytes} {f : Option Nat} {q : Nat} {v : Bytes} (h : fretAt sg p t = .ok (f, q, v)) : v.length < t.length ∧ (∀ x, f = some x → x < sg.length) := by
  cases t with
  | nil => cases h
  | cons c r =>
    have h : (if c = 46 then .ok (none, p + 1, r) else match sg.idxOf? c with
      | some f => .ok (some f, p + 1, r)
      | none => .error p : Rd (Option Nat)) = .ok (f, q, v) := h
    by_cases hc : c = 46
    · rw [if_pos hc] at h
      cases h
      exact ⟨by simp, fun x hx => by cases hx⟩
    · rw [if_neg hc] at h
      cases hi : sg.idxOf? c with
      | none => rw [hi] at h; cases h
      | some g =>
        rw [hi] at h
        cases h
        refine ⟨by simp, fun x hx => ?_⟩
        cases hx
        exact (List.findIdx?_eq_some_iff_findIdx_eq.mp hi).1
theorem six_eq {S : List (List Int × Option Int)} {sg : Bytes} (hs : ∀ (p : Nat) (t : Bytes), takeS S (iN t) = O fretI (fretAt sg p t)) : ∀ (cs : List Nat) (p : Nat) (t : Bytes), mRow S (cs.map natI) (iN t) = O (fun l => l.map stopI) (sixAt sg cs p t)
  | [], p, t => rfl
  | c :: cs, p, t => by
    show (match takeS S (iN t) with | none => none | some (f, r) => match mRow S (cs.map natI) r with | none => none | some (l, z) => some (addF (natI c) f l, z)) = O _ (match fretAt sg p t with
      | .error e => .error e
      | .ok (f, q, u) => match sixAt sg cs q u with
        | .error e => .error e
        | .ok (s, z, v) => .ok ((match f with
          | some x => (⟨c, x⟩ : Stop) :: s
          | none => s), z, v))
    rw [hs p t]
    cases fretAt sg p t with
    | error e => rfl
    | ok x =>
      obtain ⟨f, q, u⟩ := x
      show (match mRow S (cs.map natI) (iN u) with | none => none | some (l, z) => some (addF (natI c) (fretI f) l, z)) = O _ (match sixAt sg cs q u with
        | .error e => .error e
        | .ok (s, z, v) => .ok ((match f with
          | some x => (⟨c, x⟩ : Stop) :: s
          | none => s), z, v))
      rw [six_eq hs cs q u]
      cases sixAt sg cs q u with
      | error e => rfl
      | ok y =>
        obtain ⟨s, z, v⟩ := y
        cases f with
        | none => rfl
        | some x => rfl
noncomputable def bassI' (b : Nat) : StopI := ((b : Int), 0)
theorem fb_step (c : UInt8) : step (c.toNat : Int) (stopS 0) = if 52 ≤ c ∧ c ≤ 55 then [([], (((c.toNat - 48 + 7 : Nat) : Int), 0))] else if c = 97 then [([], (7, 0))] else if c = 47 then [([97], (8, 0)), ([47, 97], (9, 0)), ([47, 47, 97], (10, 0))] else [] :=
  u8all (P := fun c => step (c.toNat : Int) (stopS 0) = if 52 ≤ c ∧ c ≤ 55 then [([], (((c.toNat - 48 + 7 : Nat) : Int), 0))] else if c = 97 then [([], (7, 0))] else if c = 47 then [([97], (8, 0)), ([47, 97], (9, 0)), ([47, 47, 97], (10, 0))] else []) (by decide +kernel) c
noncomputable def slS : Nat → List (List Int × StopI)
  | 3 => [([97], (10, 0))]
  | 2 => [([97], (9, 0)), ([47, 97], (10, 0))]
  | 1 => [([97], (8, 0)), ([47, 97], (9, 0)), ([47, 47, 97], (10, 0))]
  | _ => []
theorem sl_step (c : UInt8) : ∀ n, n ∈ [1, 2, 3] → step (c.toNat : Int) (slS n) = if c = 97 then [([], (((7 + n : Nat) : Int), 0))] else if c = 47 ∧ n < 3 then slS (n + 1) else [] :=
  u8all (P := fun c => ∀ n, n ∈ [1, 2, 3] → step (c.toNat : Int) (slS n) = if c = 97 then [([], (((7 + n : Nat) : Int), 0))] else if c = 47 ∧ n < 3 then slS (n + 1) else []) (by decide +kernel) c
theorem sl_look : ∀ n, n ∈ [1, 2, 3] → look0 (slS n) = none := by decide +kernel
theorem slashes_other {n p : Nat} {c : UInt8} {r : Bytes} (h1 : c ≠ 47) (h2 : c ≠ 97) : slashes n p (c :: r) = .error p := by
  unfold slashes
  split
  · rename_i h; injection h with h; exact absurd h h1
  · rename_i h; injection h with h; exact absurd h h2
  · rfl
theorem slashes_47 {n p : Nat} {r : Bytes} : slashes n p (47 :: r) = if n < 3 then slashes (n + 1) (p + 1) r else .error p := by
  rw [slashes]
theorem slashes_97 {n p : Nat} {r : Bytes} : slashes n p (97 :: r) = .ok (7 + n, p + 1, r) := by
  rw [slashes]
theorem slashes_nil {n p : Nat} : slashes n p [] = .error p := by
  rw [slashes]
  · intro r h; cases h
  · intro r h; cases h
theorem sl_eq : ∀ (t : Bytes) (n p : Nat), n ∈ [1, 2, 3] → tk (slS n) (iN t) = O bassI' (slashes n p t)
  | [], n, p, hn => by
    show tk (slS n) [] = _
    rw [slashes_nil, tk_nil, sl_look n hn]; rfl
  | c :: r, n, p, hn => by
    have hs := sl_step c n hn
    show tk (slS n) ((c.toNat : Int) :: iN r) = _
    by_cases h1 : c = 97
    · rw [if_pos h1] at hs
      subst h1
      rw [tk_go hs (by simp), tk_one, slashes_97]
      rfl
    · rw [if_neg h1] at hs
      by_cases h2 : c = 47
      · subst h2
        rw [slashes_47]
        by_cases h3 : n < 3
        · rw [if_pos ⟨rfl, h3⟩] at hs
          rw [if_pos h3, ← sl_eq r (n + 1) (p + 1) (by simp at hn ⊢; omega)]
          refine tk_go hs ?_
          have : n = 1 ∨ n = 2 := by simp at hn; omega
          rcases this with rfl | rfl <;> decide
        · rw [if_neg (fun z => h3 z.2)] at hs
          rw [if_neg h3, tk_stop hs, sl_look n hn]
          rfl
      · rw [if_neg (fun z => h2 z.1)] at hs
        rw [slashes_other h2 h1, tk_stop hs, sl_look n hn]
        rfl
theorem fb_eq (p : Nat) (t : Bytes) : takeS (stopS 0) (iN t) = O bassI' (frenchBassAt p t) := by
  rw [take_tk]
  have l0 : look0 (stopS 0) = none := by decide +kernel
  cases t with
  | nil => show tk _ [] = none; rw [tk_nil, l0]; rfl
  | cons c r =>
    have hs := fb_step c
    show tk _ ((c.toNat : Int) :: iN r) = O bassI' (if 52 ≤ c ∧ c ≤ 55 then .ok (c.toNat - 48 + 7, p + 1, r) else slashes 0 p (c :: r))
    by_cases h0 : 52 ≤ c ∧ c ≤ 55
    · rw [if_pos h0] at hs
      rw [if_pos h0, tk_go hs (by simp), tk_one]
      rfl
    · rw [if_neg h0] at hs
      rw [if_neg h0]
      by_cases h1 : c = 97
      · rw [if_pos h1] at hs
        subst h1
        rw [tk_go hs (by simp), tk_one, slashes_97]
        rfl
      · rw [if_neg h1] at hs
        by_cases h2 : c = 47
        · rw [if_pos h2] at hs
          subst h2
          rw [slashes_47, if_pos (by decide), tk_go (S' := slS 1) hs (by decide), sl_eq r 1 (p + 1) (by simp)]
        · rw [if_neg h2] at hs
          rw [slashes_other h2 h1, tk_stop hs, l0]
          rfl
noncomputable def numS : List (List Int × StopI) := stopS 1
noncomputable def oneS : List (List Int × StopI) := [([48], (10, 0)), ([49], (11, 0)), ([50], (12, 0)), ([51], (13, 0)), ([52], (14, 0))]
theorem num_step (c : UInt8) : step (c.toNat : Int) numS = if 55 ≤ c ∧ c ≤ 57 then [([], (((c.toNat - 48 : Nat) : Int), 0))] else if c = 49 then oneS else [] :=
  u8all (P := fun c => step (c.toNat : Int) numS = if 55 ≤ c ∧ c ≤ 57 then [([], (((c.toNat - 48 : Nat) : Int), 0))] else if c = 49 then oneS else []) (by decide +kernel) c
theorem one_step (c : UInt8) : step (c.toNat : Int) oneS = if 48 ≤ c ∧ c ≤ 52 then [([], (((10 + (c.toNat - 48) : Nat) : Int), 0))] else [] :=
  u8all (P := fun c => step (c.toNat : Int) oneS = if 48 ≤ c ∧ c ≤ 52 then [([], (((10 + (c.toNat - 48) : Nat) : Int), 0))] else []) (by decide +kernel) c
theorem num_eq (p : Nat) (t : Bytes) : tk numS (iN t) = O bassI' (numberAt p t) := by
  have l0 : look0 numS = none := by decide +kernel
  have l1 : look0 oneS = none := by decide +kernel
  cases t with
  | nil => show tk _ [] = none; rw [tk_nil, l0]; rfl
  | cons c r =>
    have hs := num_step c
    show tk _ ((c.toNat : Int) :: iN r) = O bassI' (if 55 ≤ c ∧ c ≤ 57 then .ok (c.toNat - 48, p + 1, r) else if c = 49 then (match r with
      | [] => .error (p + 1)
      | d :: u => if 48 ≤ d ∧ d ≤ 52 then .ok (10 + (d.toNat - 48), p + 2, u) else .error (p + 1)) else .error p)
    by_cases h0 : 55 ≤ c ∧ c ≤ 57
    · rw [if_pos h0] at hs
      rw [if_pos h0, tk_go hs (by simp), tk_one]
      rfl
    · rw [if_neg h0] at hs
      rw [if_neg h0]
      by_cases h1 : c = 49
      · rw [if_pos h1] at hs
        rw [if_pos h1, tk_go hs (by decide)]
        cases r with
        | nil => show tk oneS [] = none; rw [tk_nil, l1]; rfl
        | cons d u =>
          have h2 := one_step d
          show tk oneS ((d.toNat : Int) :: iN u) = O bassI' (if 48 ≤ d ∧ d ≤ 52 then .ok (10 + (d.toNat - 48), p + 2, u) else .error (p + 1))
          by_cases hd : 48 ≤ d ∧ d ≤ 52
          · rw [if_pos hd] at h2
            rw [if_pos hd, tk_go h2 (by simp), tk_one]
            rfl
          · rw [if_neg hd] at h2
            rw [if_neg hd, tk_stop h2, l1]
            rfl
      · rw [if_neg h1] at hs
        rw [if_neg h1, tk_stop hs, l0]
        rfl
end Lu
set_option Elab.async false
set_option linter.all false
set_option maxRecDepth 100000
set_option maxHeartbeats 4000000
namespace Lu
open LuteTab
theorem sl_facts : ∀ {t : Bytes} {n p b q : Nat} {v : Bytes}, n ≤ 3 → slashes n p t = .ok (b, q, v) → 7 ≤ b ∧ b ≤ 14 ∧ v.length < t.length
  | [], n, p, b, q, v, hn, h => by rw [slashes_nil] at h; cases h
  | c :: r, n, p, b, q, v, hn, h => by
    by_cases h1 : c = 47
    · subst h1
      rw [slashes_47] at h
      by_cases h3 : n < 3
      · rw [if_pos h3] at h
        have := sl_facts (by omega) h
        exact ⟨this.1, this.2.1, by simp; omega⟩
      · rw [if_neg h3] at h; cases h
    · by_cases h2 : c = 97
      · subst h2
        rw [slashes_97] at h
        cases h
        exact ⟨by omega, by omega, by simp⟩
      · rw [slashes_other h1 h2] at h; cases h
theorem fb_facts {p : Nat} {t : Bytes} {b q : Nat} {v : Bytes} (h : frenchBassAt p t = .ok (b, q, v)) : 7 ≤ b ∧ b ≤ 14 ∧ v.length < t.length := by
  cases t with
  | nil => cases h
  | cons c r =>
    have h : (if 52 ≤ c ∧ c ≤ 55 then .ok (c.toNat - 48 + 7, p + 1, r) else slashes 0 p (c :: r) : Rd Nat) = .ok (b, q, v) := h
    by_cases h0 : 52 ≤ c ∧ c ≤ 55
    · rw [if_pos h0] at h
      have a1 := UInt8.le_iff_toNat_le.mp h0.1
      have a2 := UInt8.le_iff_toNat_le.mp h0.2
      simp at a1 a2
      cases h
      exact ⟨by omega, by omega, by simp⟩
    · rw [if_neg h0] at h
      exact sl_facts (by omega) h
theorem num_facts {p : Nat} {t : Bytes} {b q : Nat} {v : Bytes} (h : numberAt p t = .ok (b, q, v)) : 7 ≤ b ∧ b ≤ 14 ∧ v.length < t.length := by
  cases t with
  | nil => cases h
  | cons c r =>
    revert h
    rw [show numberAt p (c :: r) = (if 55 ≤ c ∧ c ≤ 57 then .ok (c.toNat - 48, p + 1, r) else if c = 49 then (match r with
      | [] => .error (p + 1)
      | d :: u => if 48 ≤ d ∧ d ≤ 52 then .ok (10 + (d.toNat - 48), p + 2, u) else .error (p + 1)) else .error p : Rd Nat) from rfl]
    intro h
    by_cases h0 : 55 ≤ c ∧ c ≤ 57
    · rw [if_pos h0] at h
      have a1 := UInt8.le_iff_toNat_le.mp h0.1
      have a2 := UInt8.le_iff_toNat_le.mp h0.2
      simp at a1 a2
      cases h
      exact ⟨by omega, by omega, by simp⟩
    · rw [if_neg h0] at h
      by_cases h1 : c = 49
      · rw [if_pos h1] at h
        cases r with
        | nil => cases h
        | cons d u =>
          dsimp only at h
          by_cases h2 : 48 ≤ d ∧ d ≤ 52
          · rw [if_pos h2] at h
            have a1 := UInt8.le_iff_toNat_le.mp h2.1
            have a2 := UInt8.le_iff_toNat_le.mp h2.2
            simp at a1 a2
            cases h
            exact ⟨by omega, by omega, by simp; omega⟩
          · rw [if_neg h2] at h; cases h
      · rw [if_neg h1] at h; cases h
theorem ger_step (c : UInt8) : step (c.toNat : Int) (stopS 2) = if 49 ≤ c ∧ c ≤ 53 then [([], (((6 - (c.toNat - 48) : Nat) : Int), 0))] else if c = 45 then numS else match capitals.idxOf? c with
    | some f => [([], (6, (f : Int)))]
    | none => match crossings.idxOf? c with
      | none => []
      | some i => [([], (((5 - i % 5 : Nat) : Int), ((5 * 0 + i / 5 + 1 : Nat) : Int))), ([(c.toNat : Int)], (((5 - i % 5 : Nat) : Int), ((5 * 1 + i / 5 + 1 : Nat) : Int))), ([(c.toNat : Int), (c.toNat : Int)], (((5 - i % 5 : Nat) : Int), ((5 * 2 + i / 5 + 1 : Nat) : Int)))] :=
  u8all (P := fun c => step (c.toNat : Int) (stopS 2) = if 49 ≤ c ∧ c ≤ 53 then [([], (((6 - (c.toNat - 48) : Nat) : Int), 0))] else if c = 45 then numS else match capitals.idxOf? c with
    | some f => [([], (6, (f : Int)))]
    | none => match crossings.idxOf? c with
      | none => []
      | some i => [([], (((5 - i % 5 : Nat) : Int), ((5 * 0 + i / 5 + 1 : Nat) : Int))), ([(c.toNat : Int)], (((5 - i % 5 : Nat) : Int), ((5 * 1 + i / 5 + 1 : Nat) : Int))), ([(c.toNat : Int), (c.toNat : Int)], (((5 - i % 5 : Nat) : Int), ((5 * 2 + i / 5 + 1 : Nat) : Int)))]) (by decide +kernel) c
theorem tk_again {α : Type} (c : UInt8) (g : Nat → α) (r : Bytes) : tk [([], g 0), ([(c.toNat : Int)], g 1), ([(c.toNat : Int), (c.toNat : Int)], g 2)] (iN r) = some (g (again c 2 r), iN (r.drop (again c 2 r))) := by
  cases r with
  | nil => rfl
  | cons d r =>
    show tk _ ((d.toNat : Int) :: iN r) = _
    by_cases h : d = c
    · subst h
      rw [tk_go (S' := [([], g 1), ([(d.toNat : Int)], g 2)]) (by rw [step_e, step_cons, step_cons, if_pos rfl, if_pos rfl]; rfl) (by simp)]
      cases r with
      | nil => simp [again, tk, look0, iN]
      | cons e r =>
        show tk _ ((e.toNat : Int) :: iN r) = _
        by_cases h : e = d
        · subst h
          rw [tk_go (S' := [([], g 2)]) (by rw [step_e, step_cons, if_pos rfl]; rfl) (by simp), tk_one]
          simp [again]
        · rw [tk_stop (by rw [step_e, step_cons, if_neg fun z => h (c_inj.mp z).symm]; rfl)]
          simp [again, h, look0, iN]
    · have n : ¬ ((c.toNat : Int) = (d.toNat : Int)) := fun z => h (c_inj.mp z).symm
      rw [tk_stop (by rw [step_e, step_cons, step_cons, if_neg n, if_neg n]; rfl)]
      simp [again, h, look0, iN]
theorem ger_eq (p : Nat) (t : Bytes) : takeS (stopS 2) (iN t) = O stopI (germanAt p t) := by
  rw [take_tk]
  have l0 : look0 (stopS 2) = none := by decide +kernel
  cases t with
  | nil => show tk _ [] = none; rw [tk_nil, l0]; rfl
  | cons c r =>
    have hs := ger_step c
    show tk _ ((c.toNat : Int) :: iN r) = O stopI (if 49 ≤ c ∧ c ≤ 53 then .ok (⟨6 - (c.toNat - 48), 0⟩, p + 1, r) else if c = 45 then (match numberAt (p + 1) r with
        | .error e => .error e
        | .ok (b, q, u) => .ok (⟨b, 0⟩, q, u)) else match capitals.idxOf? c with
      | some f => .ok (⟨6, f⟩, p + 1, r)
      | none => match crossings.idxOf? c with
        | none => .error p
        | some i => .ok (⟨5 - i % 5, 5 * again c 2 r + i / 5 + 1⟩, p + 1 + again c 2 r, r.drop (again c 2 r)))
    by_cases h0 : 49 ≤ c ∧ c ≤ 53
    · rw [if_pos h0] at hs
      rw [if_pos h0, tk_go hs (by simp), tk_one]
      rfl
    · rw [if_neg h0] at hs
      rw [if_neg h0]
      by_cases h1 : c = 45
      · rw [if_pos h1] at hs
        rw [if_pos h1, tk_go hs (by decide +kernel), num_eq (p + 1) r]
        cases numberAt (p + 1) r with
        | error e => rfl
        | ok x => rfl
      · rw [if_neg h1] at hs
        rw [if_neg h1]
        cases hc : capitals.idxOf? c with
        | some f =>
          rw [hc] at hs
          rw [tk_go hs (by simp), tk_one]
          rfl
        | none =>
          rw [hc] at hs
          dsimp only at hs ⊢
          cases hx : crossings.idxOf? c with
          | none =>
            rw [hx] at hs
            rw [tk_stop hs, l0]
            rfl
          | some i =>
            rw [hx] at hs
            dsimp only at hs ⊢
            rw [tk_go hs (by simp)]
            exact tk_again c (fun m => ((((5 - i % 5 : Nat) : Int), ((5 * m + i / 5 + 1 : Nat) : Int)) : StopI)) r
theorem idx_lt {l : Bytes} {c : UInt8} {i : Nat} (h : l.idxOf? c = some i) : i < l.length := (List.findIdx?_eq_some_iff_findIdx_eq.mp h).1
theorem again_le (c : UInt8) : ∀ (f : Nat) (r : Bytes), again c f r ≤ f
  | 0, _ => Nat.le_refl _
  | f + 1, [] => by simp [again]
  | f + 1, x :: r => by
    show (if x = c then again c f r + 1 else 0) ≤ _
    split
    · exact Nat.succ_le_succ (again_le c f r)
    · omega
theorem ger_facts {p : Nat} {t : Bytes} {s : Stop} {q : Nat} {v : Bytes} (h : germanAt p t = .ok (s, q, v)) : s.ok = true ∧ v.length < t.length := by
  cases t with
  | nil => cases h
  | cons c r =>
    have h : (if 49 ≤ c ∧ c ≤ 53 then .ok (⟨6 - (c.toNat - 48), 0⟩, p + 1, r) else if c = 45 then (match numberAt (p + 1) r with
        | .error e => .error e
        | .ok (b, q, u) => .ok (⟨b, 0⟩, q, u)) else match capitals.idxOf? c with
      | some f => .ok (⟨6, f⟩, p + 1, r)
      | none => match crossings.idxOf? c with
        | none => .error p
        | some i => .ok (⟨5 - i % 5, 5 * again c 2 r + i / 5 + 1⟩, p + 1 + again c 2 r, r.drop (again c 2 r)) : Rd Stop) = .ok (s, q, v) := h
    by_cases h0 : 49 ≤ c ∧ c ≤ 53
    · rw [if_pos h0] at h
      have a1 := UInt8.le_iff_toNat_le.mp h0.1
      have a2 := UInt8.le_iff_toNat_le.mp h0.2
      simp at a1 a2
      cases h
      refine ⟨?_, by simp⟩
      unfold Stop.ok
      simp only [Bool.and_eq_true, decide_eq_true_eq]
      refine ⟨by omega, ?_⟩
      rw [if_pos (by omega)]
      simp
    · rw [if_neg h0] at h
      by_cases h1 : c = 45
      · rw [if_pos h1] at h
        cases hn : numberAt (p + 1) r with
        | error e => rw [hn] at h; cases h
        | ok x =>
          obtain ⟨b, q', u⟩ := x
          rw [hn] at h
          have hf := num_facts hn
          cases h
          refine ⟨?_, by simp; omega⟩
          unfold Stop.ok
          simp only [Bool.and_eq_true, decide_eq_true_eq]
          refine ⟨by omega, ?_⟩
          rw [if_neg (by omega)]
          simp
          omega
      · rw [if_neg h1] at h
        cases hc : capitals.idxOf? c with
        | some f =>
          rw [hc] at h
          have := idx_lt hc
          have e16 : capitals.length = 16 := by decide +kernel
          cases h
          refine ⟨?_, by simp⟩
          unfold Stop.ok
          simp
          omega
        | none =>
          rw [hc] at h
          dsimp only at h
          cases hx : crossings.idxOf? c with
          | none => rw [hx] at h; cases h
          | some i =>
            rw [hx] at h
            have hi := idx_lt hx
            have e25 : crossings.length = 25 := by decide +kernel
            have ha := again_le c 2 r
            cases h
            refine ⟨?_, by simp; omega⟩
            unfold Stop.ok
            simp only [Bool.and_eq_true, decide_eq_true_eq]
            refine ⟨by omega, ?_⟩
            rw [if_pos (by omega)]
            simp
            omega
end Lu
set_option Elab.async false
set_option linter.all false
set_option maxRecDepth 100000
set_option maxHeartbeats 4000000
namespace Lu
open LuteTab
noncomputable def chk (acc : List StopI) (st : StopI) : Bool := match acc.getLast? with | some l => decide (st.1 ≤ l.1) | none => false
noncomputable def tl (S : List (List Int × StopI)) (f : Nat) (acc : List StopI) (u : List Int) : Option (List StopI × List Int) := match (if u.headD 256 = 32 then mSingles S f acc u.tail else some (acc, u)) with
  | none => none
  | some (l, z) => (mTake 10 z).map fun y => (l, y)
noncomputable def gl (S : List (List Int × StopI)) (f : Nat) (acc : List StopI) (u : List Int) : Option (List StopI × List Int) := match mSingles S f acc u with
  | none => none
  | some (l, z) => (mTake 10 z).map fun y => (l, y)
theorem gl_succ (S : List (List Int × StopI)) (f : Nat) (acc : List StopI) (u : List Int) : gl S (f + 1) acc u = match takeS S u with
    | none => none
    | some (st, r) => if chk acc st = true then none else tl S f (acc ++ [st]) r := by
  unfold gl
  show (match (match takeS S u with
    | none => none
    | some (st, r) => if chk acc st = true then none else if r.headD 256 = 32 then mSingles S f (acc ++ [st]) r.tail else some (acc ++ [st], r)) with
    | none => none
    | some (l, z) => (mTake 10 z).map fun y => (l, y)) = _
  cases takeS S u with
  | none => rfl
  | some x =>
    obtain ⟨st, r⟩ := x
    dsimp only
    cases chk acc st with
    | true => rfl
    | false => rfl
theorem tl_cons (S : List (List Int × StopI)) (f : Nat) (acc : List StopI) (c : UInt8) (r : Bytes) : tl S f acc (iN (c :: r)) = if c = 10 then some (acc, iN r) else if c ≠ 32 then none else gl S f acc (iN r) := by
  unfold tl
  show (match (if (c.toNat : Int) = ((32 : UInt8).toNat : Int) then mSingles S f acc (iN r) else some (acc, (c.toNat : Int) :: iN r)) with
    | none => none
    | some (l, z) => (mTake 10 z).map fun y => (l, y)) = _
  by_cases h1 : c = 10
  · subst h1
    rfl
  · rw [if_neg h1]
    by_cases h2 : c = 32
    · rw [if_pos (c_inj.mpr h2), if_neg (by simpa using h2)]
      rfl
    · rw [if_neg fun z => h2 (c_inj.mp z), if_pos h2]
      show (if (c.toNat : Int) = ((10 : UInt8).toNat : Int) then some (iN r) else none).map _ = _
      rw [if_neg fun z => h1 (c_inj.mp z)]
      rfl
noncomputable def Hl (lo : Nat) (acc : List StopI) (last : Nat) : Prop := ∀ b : Nat, lo ≤ b → ∀ f : Int, chk acc ((b : Int), f) = decide (b ≤ last)
theorem Hl.snoc (lo : Nat) (acc : List StopI) (c : Nat) (f : Int) : Hl lo (acc ++ [((c : Int), f)]) c := by
  intro b _ g
  unfold chk
  rw [List.getLast?_concat]
  show decide ((b : Int) ≤ (c : Int)) = _
  rw [decide_eq_decide]
  omega
noncomputable def OS (acc : List StopI) : Rd (List Stop) → Option (List StopI × List Int)
  | .error _ => none
  | .ok (l, _, v) => some (acc ++ l.map stopI, iN v)
theorem bass_eq {S : List (List Int × StopI)} {rd : Nat → Bytes → Rd Nat} (hr : ∀ p t, takeS S (iN t) = O bassI' (rd p t)) (hf : ∀ p t b q v, rd p t = .ok (b, q, v) → 7 ≤ b ∧ b ≤ 14 ∧ v.length < t.length) :
    ∀ (f f' last : Nat) (acc : List StopI) (p : Nat) (t : Bytes), t.length < f → t.length ≤ f' → Hl 7 acc last → tl S f' acc (iN t) = OS acc (bassesAt rd f last p t)
  | 0, f', last, acc, p, t, h1, h2, hl => by omega
  | f + 1, f', last, acc, p, [], h1, h2, hl => rfl
  | f + 1, f', last, acc, p, c :: r, h1, h2, hl => by
    rw [tl_cons]
    show _ = OS acc (if c = 10 then .ok ([], p + 1, r) else if c ≠ 32 then .error p else match rd (p + 1) r with
      | .error e => .error e
      | .ok (b, q, u) => if b ≤ last then .error (p + 1) else match bassesAt rd f b q u with
        | .error e => .error e
        | .ok (l, z, v) => .ok (⟨b, 0⟩ :: l, z, v))
    by_cases c1 : c = 10
    · rw [if_pos c1, if_pos c1]
      show _ = some (acc ++ [], iN r)
      rw [List.append_nil]
    · rw [if_neg c1, if_neg c1]
      by_cases c2 : c ≠ 32
      · rw [if_pos c2, if_pos c2]
        rfl
      · rw [if_neg c2, if_neg c2]
        obtain ⟨g, rfl⟩ : ∃ g, f' = g + 1 := ⟨f' - 1, by simp at h2; omega⟩
        rw [gl_succ, hr (p + 1) r]
        cases e : rd (p + 1) r with
        | error e => rfl
        | ok x =>
          obtain ⟨b, q, u⟩ := x
          obtain ⟨b1, b2, b3⟩ := hf _ _ _ _ _ e
          show (if chk acc ((b : Int), 0) = true then none else tl S g (acc ++ [((b : Int), 0)]) (iN u)) = OS acc (if b ≤ last then .error (p + 1) else match bassesAt rd f b q u with
            | .error e => .error e
            | .ok (l, z, v) => .ok (⟨b, 0⟩ :: l, z, v))
          rw [hl b b1 0]
          by_cases hb : b ≤ last
          · rw [if_pos (by simpa using hb), if_pos hb]
            rfl
          · rw [if_neg (by simpa using hb), if_neg hb, bass_eq hr hf f g b (acc ++ [((b : Int), 0)]) q u (by simp at h1; omega) (by simp at h2; omega) (Hl.snoc 7 acc b 0)]
            cases bassesAt rd f b q u with
            | error e => rfl
            | ok y =>
              obtain ⟨l, z, v⟩ := y
              show some ((acc ++ [((b : Int), 0)]) ++ l.map stopI, iN v) = some (acc ++ ((b : Int), ((0 : Nat) : Int)) :: l.map stopI, iN v)
              rw [List.append_assoc]
              rfl
theorem gst_eq : ∀ (f f' last : Nat) (acc : List StopI) (p : Nat) (t : Bytes), t.length < f → t.length < f' → Hl 1 acc last → gl (stopS 2) f' acc (iN t) = OS acc (germanStops f last p t)
  | 0, f', last, acc, p, t, h1, h2, hl => by omega
  | f + 1, 0, last, acc, p, t, h1, h2, hl => by omega
  | f + 1, g + 1, last, acc, p, t, h1, h2, hl => by
    rw [gl_succ, ger_eq p t]
    show _ = OS acc (match germanAt p t with
      | .error e => .error e
      | .ok (s, q, u) => if s.course ≤ last then .error p else match u with
        | [] => .error q
        | c :: v => if c = 10 then .ok ([s], q + 1, v) else if c ≠ 32 then .error q else match germanStops f s.course (q + 1) v with
          | .error e => .error e
          | .ok (l, z, w) => .ok (s :: l, z, w))
    cases e : germanAt p t with
    | error e => rfl
    | ok x =>
      obtain ⟨s, q, u⟩ := x
      obtain ⟨s1, s2⟩ := ger_facts e
      have s3 : 1 ≤ s.course := by
        unfold Stop.ok at s1
        simp only [Bool.and_eq_true, decide_eq_true_eq] at s1
        exact s1.1
      show (if chk acc ((s.course : Int), (s.fret : Int)) = true then none else tl (stopS 2) g (acc ++ [stopI s]) (iN u)) = OS acc (if s.course ≤ last then .error p else match (generalizing := false) u with
        | [] => .error q
        | c :: v => if c = 10 then .ok ([s], q + 1, v) else if c ≠ 32 then .error q else match germanStops f s.course (q + 1) v with
          | .error e => .error e
          | .ok (l, z, w) => .ok (s :: l, z, w))
      rw [hl s.course s3]
      by_cases hb : s.course ≤ last
      · rw [if_pos (by simpa using hb), if_pos hb]
        rfl
      · rw [if_neg (by simpa using hb), if_neg hb]
        cases u with
        | nil => rfl
        | cons c v =>
          rw [tl_cons]
          dsimp only
          by_cases c1 : c = 10
          · rw [if_pos c1, if_pos c1]
            rfl
          · rw [if_neg c1, if_neg c1]
            by_cases c2 : c ≠ 32
            · rw [if_pos c2, if_pos c2]
              rfl
            · rw [if_neg c2, if_neg c2, gst_eq f g s.course (acc ++ [stopI s]) (q + 1) v (by simp at s2; omega) (by simp at s2; omega) (Hl.snoc 1 acc s.course s.fret)]
              cases germanStops f s.course (q + 1) v with
              | error e => rfl
              | ok y =>
                obtain ⟨l, z, w⟩ := y
                show some ((acc ++ [stopI s]) ++ l.map stopI, iN w) = some (acc ++ stopI s :: l.map stopI, iN w)
                rw [List.append_assoc]
                rfl
theorem six_facts {sg : Bytes} : ∀ {cs : List Nat} {p : Nat} {t : Bytes} {l : List Stop} {q : Nat} {v : Bytes}, sixAt sg cs p t = .ok (l, q, v) → (l.map (·.course)).Sublist cs ∧ (∀ s ∈ l, s.fret < sg.length) ∧ v.length ≤ t.length
  | [], p, t, l, q, v, h => by
    cases h
    exact ⟨List.Sublist.slnil, fun s hs => (by cases hs), Nat.le_refl _⟩
  | c :: cs, p, t, l, q, v, h => by
    have h : (match fretAt sg p t with
      | .error e => .error e
      | .ok (f, q, u) => match sixAt sg cs q u with
        | .error e => .error e
        | .ok (s, z, v) => .ok ((match f with
          | some x => (⟨c, x⟩ : Stop) :: s
          | none => s), z, v) : Rd (List Stop)) = .ok (l, q, v) := h
    cases e1 : fretAt sg p t with
    | error e => rw [e1] at h; cases h
    | ok x =>
      obtain ⟨f, q1, u⟩ := x
      rw [e1] at h
      dsimp only at h
      obtain ⟨l1, l2⟩ := fret_len e1
      cases e2 : sixAt sg cs q1 u with
      | error e => rw [e2] at h; cases h
      | ok y =>
        obtain ⟨s, z, w⟩ := y
        rw [e2] at h
        dsimp only at h
        obtain ⟨i1, i2, i3⟩ := six_facts e2
        cases f with
        | none =>
          cases h
          exact ⟨i1.cons c, i2, by omega⟩
        | some x =>
          cases h
          exact ⟨i1.cons₂ c, fun s' hs => by
            rcases List.mem_cons.mp hs with rfl | hs
            · exact l2 x rfl
            · exact i2 s' hs, by omega⟩
noncomputable def mStopsE (k : Nat) (u : List Int) : Option (List StopI × List Int) := match mStops k u with
  | none => none
  | some (l, z) => (mTake 10 z).map fun y => (l, y)
theorem hl_row {acc : List StopI} (h : ∀ s ∈ acc, s.1 ≤ 6) : Hl 7 acc 6 := by
  intro b hb f
  unfold chk
  cases e : acc.getLast? with
  | none =>
    show false = _
    simp
    omega
  | some l =>
    have := h l (List.mem_of_getLast? e)
    show decide ((b : Int) ≤ l.1) = _
    rw [decide_eq_decide]
    omega
theorem row_stops {k : Nat} {sg : Bytes} {rd : Nat → Bytes → Rd Nat} {cs : List Nat} (hk : ¬ k = 2) (hcs : rowC k = cs.map natI) (h6 : ∀ c ∈ cs, c ≤ 6) (hs : ∀ (p : Nat) (t : Bytes), takeS (rowS k) (iN t) = O fretI (fretAt sg p t)) (hr : ∀ p t, takeS (stopS k) (iN t) = O bassI' (rd p t))
    (hf : ∀ p t b q v, rd p t = .ok (b, q, v) → 7 ≤ b ∧ b ≤ 14 ∧ v.length < t.length) (p : Nat) (t : Bytes) :
    mStopsE k (iN t) = O (fun l => l) (match sixAt sg cs p t with
    | .error e => .error e
    | .ok (l, q, u) => match bassesAt rd (u.length + 1) 6 q u with
      | .error e => .error e
      | .ok (b, z, v) => .ok (byC k (l.map stopI) ++ b.map stopI, z, v)) := by
  unfold mStopsE mStops
  rw [if_neg hk, hcs, six_eq hs cs p t]
  cases e : sixAt sg cs p t with
  | error e => rfl
  | ok x =>
    obtain ⟨l, q, u⟩ := x
    obtain ⟨i1, _, _⟩ := six_facts e
    have hacc : ∀ s ∈ byC k (l.map stopI), s.1 ≤ 6 := by
      intro s hm
      have : s ∈ l.map stopI := by
        unfold byC at hm
        split at hm
        · exact List.mem_reverse.mp hm
        · exact hm
      obtain ⟨s', hs', rfl⟩ := List.mem_map.mp this
      have := h6 _ (i1.subset (List.mem_map.mpr ⟨s', hs', rfl⟩))
      show (s'.course : Int) ≤ 6
      omega
    have hlen : (iN u).length = u.length := by unfold iN; rw [List.length_map]
    have := bass_eq hr hf (u.length + 1) (u.length + 1) 6 (byC k (l.map stopI)) q u (Nat.lt_succ_self _) (Nat.le_succ _) (hl_row hacc)
    unfold tl at this
    show (match (if (iN u).headD 256 = 32 then mSingles (stopS k) ((iN u).length + 1) (byC k (l.map stopI)) (iN u).tail else some (byC k (l.map stopI), iN u)) with
      | none => none
      | some (l, z) => (mTake 10 z).map fun y => (l, y)) = _
    rw [hlen, this]
    dsimp only
    cases bassesAt rd (u.length + 1) 6 q u with
    | error e => rfl
    | ok y => rfl
theorem stops_eq (k : Kind) (p : Nat) (t : Bytes) : mStopsE k.num (iN t) = O (fun l => l.map stopI) (stopsAt k p t) := by
  cases k with
  | french =>
    have := row_stops (k := 0) (sg := letters) (rd := frenchBassAt) (cs := [1, 2, 3, 4, 5, 6]) (by decide) (by decide +kernel) (by decide) (fret_eq fret_step0 (by decide +kernel)) fb_eq (fun p t b q v h => fb_facts h) p t
    show mStopsE 0 (iN t) = _
    rw [this]
    unfold stopsAt
    dsimp only
    cases sixAt letters [1, 2, 3, 4, 5, 6] p t with
    | error e => rfl
    | ok x =>
      obtain ⟨l, q, u⟩ := x
      dsimp only
      cases bassesAt frenchBassAt (u.length + 1) 6 q u with
      | error e => rfl
      | ok y =>
        obtain ⟨b, z, v⟩ := y
        show some (l.map stopI ++ b.map stopI, iN v) = some ((l ++ b).map stopI, iN v)
        rw [List.map_append]
  | italian =>
    have := row_stops (k := 1) (sg := figures) (rd := numberAt) (cs := [6, 5, 4, 3, 2, 1]) (by decide) (by decide +kernel) (by decide) (fret_eq fret_step1 (by decide +kernel)) (fun p t => by rw [take_tk]; exact num_eq p t) (fun p t b q v h => num_facts h) p t
    show mStopsE 1 (iN t) = _
    rw [this]
    unfold stopsAt
    dsimp only
    cases sixAt figures [6, 5, 4, 3, 2, 1] p t with
    | error e => rfl
    | ok x =>
      obtain ⟨l, q, u⟩ := x
      dsimp only
      cases bassesAt numberAt (u.length + 1) 6 q u with
      | error e => rfl
      | ok y =>
        obtain ⟨b, z, v⟩ := y
        show some ((l.map stopI).reverse ++ b.map stopI, iN v) = some ((l.reverse ++ b).map stopI, iN v)
        rw [List.map_append, List.map_reverse]
  | german =>
    show mStopsE 2 (iN t) = _
    unfold mStopsE mStops
    rw [if_pos rfl]
    cases t with
    | nil =>
      have := gst_eq 1 1 0 [] p [] (by decide) (by decide) (fun b hb f => by show false = _; simp; omega)
      show (match mSingles (stopS 2) 1 [] (iN []) with | none => none | some (l, z) => (mTake 10 z).map fun y => (l, y)) = O _ (germanStops 1 0 p [])
      unfold gl at this
      rw [this]
      cases germanStops 1 0 p [] with
      | error e => rfl
      | ok y => rfl
    | cons c r =>
      by_cases hc : c = 46
      · subst hc
        show (mTake (END.toNat : Int) (iN r)).map (fun y => ([], y)) = O _ (match want [END] (p + 1) r with
          | .error e => .error e
          | .ok (_, q, u) => .ok ([], q, u))
        rw [take_want END (p + 1) r]
        cases want [END] (p + 1) r with
        | error e => rfl
        | ok y => rfl
      · have e2 : stopsAt .german p (c :: r) = germanStops ((c :: r).length + 1) 0 p (c :: r) := by
          unfold stopsAt
          dsimp only
          split
          · rename_i h; injection h with h; exact absurd h hc
          · rfl
        rw [e2]
        have hh : ¬ ((iN (c :: r)).headD 256 = 46) := fun z => hc (c_inj (d := 46) |>.mp z)
        have hlen : (iN (c :: r)).length = (c :: r).length := by unfold iN; rw [List.length_map]
        rw [if_neg hh, hlen]
        have := gst_eq ((c :: r).length + 1) ((c :: r).length + 1) 0 [] p (c :: r) (by omega) (by omega) (fun b hb f => by show false = _; simp; omega)
        unfold gl at this
        rw [this]
        cases germanStops ((c :: r).length + 1) 0 p (c :: r) with
        | error e => rfl
        | ok y => rfl
end Lu
set_option Elab.async false
set_option linter.all false
set_option maxRecDepth 100000
set_option maxHeartbeats 4000000
namespace Lu
open LuteTab
theorem bass_len {rd : Nat → Bytes → Rd Nat} (hf : ∀ p t b q v, rd p t = .ok (b, q, v) → 7 ≤ b ∧ b ≤ 14 ∧ v.length < t.length) : ∀ {f last p : Nat} {t : Bytes} {l : List Stop} {q : Nat} {v : Bytes}, bassesAt rd f last p t = .ok (l, q, v) →
    v.length < t.length ∧ (∀ s ∈ l, s.fret = 0 ∧ 7 ≤ s.course ∧ s.course ≤ 14) ∧ (∀ s ∈ l, last < s.course) ∧ (l.map (·.course)).Pairwise (· < ·)
  | 0, last, p, t, l, q, v, h => by cases h
  | f + 1, last, p, [], l, q, v, h => by cases h
  | f + 1, last, p, c :: r, l, q, v, h => by
    have h : (if c = 10 then .ok ([], p + 1, r) else if c ≠ 32 then .error p else match rd (p + 1) r with
      | .error e => .error e
      | .ok (b, q, u) => if b ≤ last then .error (p + 1) else match bassesAt rd f b q u with
        | .error e => .error e
        | .ok (l, z, v) => .ok (⟨b, 0⟩ :: l, z, v) : Rd (List Stop)) = .ok (l, q, v) := h
    by_cases c1 : c = 10
    · rw [if_pos c1] at h
      cases h
      exact ⟨by simp, (fun s hs => (by cases hs)), (fun s hs => (by cases hs)), List.Pairwise.nil⟩
    · rw [if_neg c1] at h
      by_cases c2 : c ≠ 32
      · rw [if_pos c2] at h; cases h
      · rw [if_neg c2] at h
        cases e1 : rd (p + 1) r with
        | error e => rw [e1] at h; cases h
        | ok x =>
          obtain ⟨b, q1, u⟩ := x
          obtain ⟨b1, b2, b3⟩ := hf _ _ _ _ _ e1
          rw [e1] at h
          dsimp only at h
          by_cases hb : b ≤ last
          · rw [if_pos hb] at h; cases h
          · rw [if_neg hb] at h
            cases e2 : bassesAt rd f b q1 u with
            | error e => rw [e2] at h; cases h
            | ok y =>
              obtain ⟨l', z, w⟩ := y
              rw [e2] at h
              obtain ⟨i1, i2, i3, i4⟩ := bass_len hf e2
              cases h
              refine ⟨by simp; omega, fun s hs => ?_, fun s hs => ?_, ?_⟩
              · rcases List.mem_cons.mp hs with rfl | hs
                · exact ⟨rfl, b1, b2⟩
                · exact i2 s hs
              · rcases List.mem_cons.mp hs with rfl | hs
                · show last < b; omega
                · have := i3 s hs; omega
              · rw [List.map_cons]
                refine List.Pairwise.cons (fun a ha => ?_) i4
                obtain ⟨s, hs, rfl⟩ := List.mem_map.mp ha
                exact i3 s hs
theorem gst_len : ∀ {f last p : Nat} {t : Bytes} {l : List Stop} {q : Nat} {v : Bytes}, germanStops f last p t = .ok (l, q, v) →
    v.length < t.length ∧ (∀ s ∈ l, s.ok = true) ∧ (∀ s ∈ l, last < s.course) ∧ (l.map (·.course)).Pairwise (· < ·)
  | 0, last, p, t, l, q, v, h => by cases h
  | f + 1, last, p, t, l, q, v, h => by
    have h : (match germanAt p t with
      | .error e => .error e
      | .ok (s, q, u) => if s.course ≤ last then .error p else match u with
        | [] => .error q
        | c :: v => if c = 10 then .ok ([s], q + 1, v) else if c ≠ 32 then .error q else match germanStops f s.course (q + 1) v with
          | .error e => .error e
          | .ok (l, z, w) => .ok (s :: l, z, w) : Rd (List Stop)) = .ok (l, q, v) := h
    cases e : germanAt p t with
    | error e' => rw [e] at h; cases h
    | ok x =>
      obtain ⟨s, q1, u⟩ := x
      obtain ⟨s1, s2⟩ := ger_facts e
      rw [e] at h
      dsimp only at h
      by_cases hb : s.course ≤ last
      · rw [if_pos hb] at h; cases h
      · rw [if_neg hb] at h
        cases u with
        | nil => cases h
        | cons c w =>
          dsimp only at h
          by_cases c1 : c = 10
          · rw [if_pos c1] at h
            cases h
            refine ⟨by simp at s2; omega, fun s' hs => ?_, fun s' hs => ?_, ?_⟩
            · rcases List.mem_cons.mp hs with rfl | hs
              · exact s1
              · cases hs
            · rcases List.mem_cons.mp hs with rfl | hs
              · omega
              · cases hs
            · exact List.Pairwise.cons (fun a ha => by cases ha) List.Pairwise.nil
          · rw [if_neg c1] at h
            by_cases c2 : c ≠ 32
            · rw [if_pos c2] at h; cases h
            · rw [if_neg c2] at h
              cases e2 : germanStops f s.course (q1 + 1) w with
              | error e => rw [e2] at h; cases h
              | ok y =>
                obtain ⟨l', z, w'⟩ := y
                rw [e2] at h
                obtain ⟨i1, i2, i3, i4⟩ := gst_len e2
                cases h
                refine ⟨by simp at s2; omega, fun s' hs => ?_, fun s' hs => ?_, ?_⟩
                · rcases List.mem_cons.mp hs with rfl | hs
                  · exact s1
                  · exact i2 s' hs
                · rcases List.mem_cons.mp hs with rfl | hs
                  · omega
                  · have := i3 s' hs; omega
                · rw [List.map_cons]
                  refine List.Pairwise.cons (fun a ha => ?_) i4
                  obtain ⟨s', hs, rfl⟩ := List.mem_map.mp ha
                  exact i3 s' hs
theorem want_len {x : UInt8} {p : Nat} {t : Bytes} {a : Unit} {q : Nat} {v : Bytes} (h : want [x] p t = .ok (a, q, v)) : v.length < t.length := by
  cases t with
  | nil => cases h
  | cons c r =>
    have h : (if c = x then .ok ((), p + 1, r) else .error p : Rd Unit) = .ok (a, q, v) := h
    by_cases hc : c = x
    · rw [if_pos hc] at h
      cases h
      simp
    · rw [if_neg hc] at h; cases h
noncomputable def Good (l : List Stop) : Prop := (∀ s ∈ l, s.ok = true) ∧ (l.map (·.course)).Pairwise (· < ·)
theorem stop_ok_row {s : Stop} (h1 : 1 ≤ s.course) (h6 : s.course ≤ 6) (hf : s.fret < 16) : s.ok = true := by
  unfold Stop.ok
  simp only [Bool.and_eq_true, decide_eq_true_eq]
  rw [if_pos h6]
  exact ⟨h1, by simp; omega⟩
theorem stop_ok_bass {s : Stop} (h1 : 7 ≤ s.course) (h6 : s.course ≤ 14) (hf : s.fret = 0) : s.ok = true := by
  unfold Stop.ok
  simp only [Bool.and_eq_true, decide_eq_true_eq]
  rw [if_neg (by omega)]
  exact ⟨by omega, by simp [hf, h6]⟩
theorem good_append {a b : List Stop} (ha : (∀ s ∈ a, 1 ≤ s.course ∧ s.course ≤ 6 ∧ s.fret < 16) ∧ (a.map (·.course)).Pairwise (· < ·)) (hb : (∀ s ∈ b, s.fret = 0 ∧ 7 ≤ s.course ∧ s.course ≤ 14) ∧ (b.map (·.course)).Pairwise (· < ·)) : Good (a ++ b) := by
  refine ⟨fun s hs => ?_, ?_⟩
  · rcases List.mem_append.mp hs with h | h
    · obtain ⟨x1, x2, x3⟩ := ha.1 s h
      exact stop_ok_row x1 x2 x3
    · obtain ⟨x1, x2, x3⟩ := hb.1 s h
      exact stop_ok_bass x2 x3 x1
  · rw [List.map_append, List.pairwise_append]
    refine ⟨ha.2, hb.2, fun x hx y hy => ?_⟩
    obtain ⟨s, hs, rfl⟩ := List.mem_map.mp hx
    obtain ⟨s', hs', rfl⟩ := List.mem_map.mp hy
    have := ha.1 s hs
    have := hb.1 s' hs'
    omega
theorem stops_facts {k : Kind} {p : Nat} {t : Bytes} {l : List Stop} {q : Nat} {v : Bytes} (h : stopsAt k p t = .ok (l, q, v)) : v.length < t.length ∧ Good l := by
  cases k with
  | french =>
    have h : (match sixAt letters [1, 2, 3, 4, 5, 6] p t with
      | .error e => .error e
      | .ok (l, q, u) => match bassesAt frenchBassAt (u.length + 1) 6 q u with
        | .error e => .error e
        | .ok (b, z, v) => .ok (l ++ b, z, v) : Rd (List Stop)) = .ok (l, q, v) := h
    cases e1 : sixAt letters [1, 2, 3, 4, 5, 6] p t with
    | error e => rw [e1] at h; cases h
    | ok x =>
      obtain ⟨a, q1, u⟩ := x
      obtain ⟨i1, i2, i3⟩ := six_facts e1
      have e16 : letters.length = 16 := by decide +kernel
      rw [e1] at h
      dsimp only at h
      cases e2 : bassesAt frenchBassAt (u.length + 1) 6 q1 u with
      | error e => rw [e2] at h; cases h
      | ok y =>
        obtain ⟨b, z, w⟩ := y
        obtain ⟨j1, j2, j3, j4⟩ := bass_len (fun p t b q v h => fb_facts h) e2
        rw [e2] at h
        cases h
        refine ⟨by omega, good_append ⟨fun s hs => ?_, List.Pairwise.sublist i1 (by decide)⟩ ⟨j2, j4⟩⟩
        have := i1.subset (List.mem_map.mpr ⟨s, hs, rfl⟩)
        have h' := i2 s hs
        simp at this
        omega
  | italian =>
    have h : (match sixAt figures [6, 5, 4, 3, 2, 1] p t with
      | .error e => .error e
      | .ok (l, q, u) => match bassesAt numberAt (u.length + 1) 6 q u with
        | .error e => .error e
        | .ok (b, z, v) => .ok (l.reverse ++ b, z, v) : Rd (List Stop)) = .ok (l, q, v) := h
    cases e1 : sixAt figures [6, 5, 4, 3, 2, 1] p t with
    | error e => rw [e1] at h; cases h
    | ok x =>
      obtain ⟨a, q1, u⟩ := x
      obtain ⟨i1, i2, i3⟩ := six_facts e1
      have e16 : figures.length = 16 := by decide +kernel
      rw [e1] at h
      dsimp only at h
      cases e2 : bassesAt numberAt (u.length + 1) 6 q1 u with
      | error e => rw [e2] at h; cases h
      | ok y =>
        obtain ⟨b, z, w⟩ := y
        obtain ⟨j1, j2, j3, j4⟩ := bass_len (fun p t b q v h => num_facts h) e2
        rw [e2] at h
        cases h
        refine ⟨by omega, good_append ⟨fun s hs => ?_, ?_⟩ ⟨j2, j4⟩⟩
        · have hs := List.mem_reverse.mp hs
          have := i1.subset (List.mem_map.mpr ⟨s, hs, rfl⟩)
          have h' := i2 s hs
          simp at this
          omega
        · rw [List.map_reverse, List.pairwise_reverse]
          exact List.Pairwise.sublist i1 (by decide)
  | german =>
    revert h
    unfold stopsAt
    dsimp only
    intro h
    split at h
    · rename_i r
      cases e : want [END] (p + 1) r with
      | error e' => rw [e] at h; cases h
      | ok x =>
        obtain ⟨a, q1, u⟩ := x
        have := want_len e
        rw [e] at h
        cases h
        exact ⟨(by simp; omega), (fun s hs => (by cases hs)), List.Pairwise.nil⟩
    · obtain ⟨i1, i2, i3, i4⟩ := gst_len h
      exact ⟨i1, i2, i4⟩
theorem mline_eq (k : Nat) (before : Int) (u : List Int) : mLine k before u = if u.headD 256 = 124 then (mTake 10 u.tail).map fun r => ((0, []), r) else match mLength before u with
    | none => none
    | some (n, r) => (mStopsE k r).map fun x => ((n, x.1), x.2) := by
  unfold mLine
  congr 1
  cases mLength before u with
  | none => rfl
  | some x =>
    obtain ⟨n, r⟩ := x
    dsimp only
    unfold mStopsE
    cases mStops k r with
    | none => rfl
    | some y =>
      obtain ⟨l, z⟩ := y
      dsimp only
      cases mTake 10 z with
      | none => rfl
      | some w => rfl
theorem mlength_eq (before : Int) (u : List Int) : mLength before u = if u.headD 256 = 32 ∧ 0 < before then some (before, u.tail) else match mLen u with
    | none => none
    | some (n, z) => if n = before then none else some (n, z) := by
  unfold mLength
  congr 1
  unfold mLen
  cases takeS lengthS u with
  | none => rfl
  | some x =>
    obtain ⟨n, r⟩ := x
    dsimp only
    cases mTake 32 r with
    | none => rfl
    | some z => rfl
theorem mlines_cons (k f m : Nat) (bf c : Int) (r : List Int) : mLines k (f + 1) m bf (c :: r) = match mLine k bf (c :: r) with
    | none => none
    | some (l, z) => if m = 512 then none else (mLines k f (m + 1) (if 0 < l.1 then l.1 else bf) z).map fun ls => l :: ls := rfl
noncomputable def anyM (ls : List LineI) : Bool := ls.any fun l => decide (0 < l.1)
noncomputable def fin (last : Nat) : Option (List LineI) → Option (List LineI)
  | none => none
  | some ls => if last ≠ 0 ∨ anyM ls = true then some ls else none
noncomputable def OL : Except Nat Piece → Option (List LineI)
  | .error _ => none
  | .ok x => some (x.map lineI)
theorem OL_map (x : Except Nat Piece) (l : Line) : OL (x.map fun (x : Piece) => l :: x) = (OL x).map fun ls => lineI l :: ls := by
  cases x with
  | error e => rfl
  | ok p => rfl
theorem fin_bar (last : Nat) (o : Option (List LineI)) : fin last (o.map fun ls => ((0, []) : LineI) :: ls) = (fin last o).map fun ls => ((0, []) : LineI) :: ls := by
  cases o with
  | none => rfl
  | some ls =>
    have : anyM (((0, []) : LineI) :: ls) = anyM ls := rfl
    show (if last ≠ 0 ∨ anyM (((0, []) : LineI) :: ls) = true then some (((0, []) : LineI) :: ls) else none) = (if last ≠ 0 ∨ anyM ls = true then some ls else none).map _
    rw [this]
    split
    · rfl
    · rfl
theorem fin_mom (last n : Nat) (hn : 0 < n) (l : List StopI) (o : Option (List LineI)) : fin last (o.map fun ls => (((n : Int), l) : LineI) :: ls) = (fin n o).map fun ls => (((n : Int), l) : LineI) :: ls := by
  cases o with
  | none => rfl
  | some ls =>
    have : anyM (((n : Int), l) :: ls) = true := by
      unfold anyM
      rw [List.any_cons]
      have : decide (0 < ((n : Int), l).1) = true := by simpa using hn
      rw [this]; rfl
    show (if last ≠ 0 ∨ anyM (((n : Int), l) :: ls) = true then some (((n : Int), l) :: ls) else none) = (if n ≠ 0 ∨ anyM ls = true then some ls else none).map _
    rw [if_pos (.inr this), if_pos (.inl (by omega))]
    rfl
theorem len_pos {n : Nat} (h : lengths.contains n = true) : 0 < n := by
  have : n ∈ lengths := by simpa using h
  have h2 : ∀ m ∈ lengths, 0 < m := by decide
  exact h2 n this
theorem lines_eq (k : Kind) : ∀ (f f' last many p : Nat) (t : Bytes), t.length < f → t.length ≤ f' → many ≤ 512 → fin last (mLines k.num f' many (last : Int) (iN t)) = OL (linesAt k f last many p t)
  | 0, f', last, many, p, t, h1, h2, h3 => by omega
  | f + 1, f', last, many, p, [], h1, h2, h3 => by
    have e : mLines k.num f' many (last : Int) (iN []) = some [] := by cases f' <;> rfl
    rw [e]
    show (if last ≠ 0 ∨ anyM [] = true then some [] else none) = OL (if last = 0 then .error p else .ok [])
    by_cases h : last = 0
    · rw [if_pos h, if_neg (by rintro (z | z); exact z h; cases z)]
      rfl
    · rw [if_neg h, if_pos (.inl h)]
      rfl
  | f + 1, 0, last, many, p, c :: r, h1, h2, h3 => by simp at h2
  | f + 1, g + 1, last, many, p, c :: r, h1, h2, h3 => by
    have h1' : r.length < f := by simp at h1; omega
    have h2' : r.length ≤ g := by simp at h2; omega
    show fin last (mLines k.num (g + 1) many (last : Int) ((c.toNat : Int) :: iN r)) = OL (if LINES ≤ many then .error p else
      if c = 124 then (match want [END] (p + 1) r with
        | .error e => .error e
        | .ok (_, q, u) => (linesAt k f last (many + 1) q u).map fun (x : Piece) => .bar :: x)
      else if c = BLANK then (if last = 0 then .error p else match stopsAt k (p + 1) r with
        | .error e => .error e
        | .ok (l, q, u) => (linesAt k f last (many + 1) q u).map fun (x : Piece) => .moment last l :: x)
      else match lengthAt p (c :: r) with
        | .error e => .error e
        | .ok (n, q, u) => if n = last then .error p else match stopsAt k q u with
          | .error e => .error e
          | .ok (l, z, v) => (linesAt k f n (many + 1) z v).map fun (x : Piece) => .moment n l :: x)
    rw [mlines_cons]
    by_cases hm : LINES ≤ many
    · have hm' : many = 512 := Nat.le_antisymm h3 hm
      rw [if_pos hm]
      cases mLine k.num (last : Int) ((c.toNat : Int) :: iN r) with
      | none => rfl
      | some x =>
        obtain ⟨l, z⟩ := x
        dsimp only
        rw [if_pos hm']
        rfl
    · have hm' : ¬ many = 512 := fun z => hm (by rw [z]; exact Nat.le_refl _)
      have hm2 : many + 1 ≤ 512 := by omega
      rw [if_neg hm, mline_eq]
      show fin last (match (if (c.toNat : Int) = ((124 : UInt8).toNat : Int) then (mTake (END.toNat : Int) (iN r)).map fun r => (((0, []) : LineI), r) else match mLength (last : Int) (iN (c :: r)) with
        | none => none
        | some (n, r) => (mStopsE k.num r).map fun (x : List StopI × List Int) => (((n, x.1) : LineI), x.2)) with
        | none => none
        | some (l, z) => if many = 512 then none else (mLines k.num g (many + 1) (if 0 < l.1 then l.1 else (last : Int)) z).map fun ls => l :: ls) = _
      by_cases c1 : c = 124
      · rw [if_pos (c_inj.mpr c1), if_pos c1, take_want END (p + 1) r]
        cases e : want [END] (p + 1) r with
        | error e => rfl
        | ok x =>
          obtain ⟨a, q, u⟩ := x
          have hu := want_len e
          show fin last (if many = 512 then none else (mLines k.num g (many + 1) (last : Int) (iN u)).map fun ls => ((0, []) : LineI) :: ls) = OL ((linesAt k f last (many + 1) q u).map fun (x : Piece) => .bar :: x)
          rw [if_neg hm', fin_bar, OL_map, lines_eq k f g last (many + 1) q u (by omega) (by omega) hm2]
          rfl
      · rw [if_neg fun z => c1 (c_inj.mp z), if_neg c1, mlength_eq]
        show fin last (match (match (if (c.toNat : Int) = ((32 : UInt8).toNat : Int) ∧ 0 < (last : Int) then some ((last : Int), iN r) else match mLen (iN (c :: r)) with
          | none => none
          | some (n, z) => if n = (last : Int) then none else some (n, z)) with
          | none => none
          | some (n, r) => (mStopsE k.num r).map fun (x : List StopI × List Int) => (((n, x.1) : LineI), x.2)) with
          | none => none
          | some (l, z) => if many = 512 then none else (mLines k.num g (many + 1) (if 0 < l.1 then l.1 else (last : Int)) z).map fun ls => l :: ls) = OL (if c = 32 then (if last = 0 then .error p else match stopsAt k (p + 1) r with
            | .error e => .error e
            | .ok (l, q, u) => (linesAt k f last (many + 1) q u).map fun (x : Piece) => .moment last l :: x)
          else match lengthAt p (c :: r) with
            | .error e => .error e
            | .ok (n, q, u) => if n = last then .error p else match stopsAt k q u with
              | .error e => .error e
              | .ok (l, z, v) => (linesAt k f n (many + 1) z v).map fun (x : Piece) => .moment n l :: x)
        by_cases c2 : c = 32
        · rw [if_pos c2]
          by_cases h0 : last = 0
          · rw [if_pos h0, if_neg (by rintro ⟨_, z⟩; omega), len_eq p (c :: r), c2, show lengthAt p (32 :: r) = .error p from rfl]
            rfl
          · rw [if_neg h0, if_pos ⟨c_inj.mpr c2, by omega⟩]
            dsimp only
            rw [stops_eq k (p + 1) r]
            cases e : stopsAt k (p + 1) r with
            | error e => rfl
            | ok x =>
              obtain ⟨l, q, u⟩ := x
              have hu := (stops_facts e).1
              show fin last (if many = 512 then none else (mLines k.num g (many + 1) (if 0 < (last : Int) then (last : Int) else (last : Int)) (iN u)).map fun ls => (((last : Int), l.map stopI) : LineI) :: ls) = OL ((linesAt k f last (many + 1) q u).map fun (x : Piece) => .moment last l :: x)
              rw [if_neg hm', ite_self, fin_mom last last (by omega), OL_map, lines_eq k f g last (many + 1) q u (by omega) (by omega) hm2]
              rfl
        · rw [if_neg c2, if_neg (fun z => c2 (c_inj.mp z.1)), len_eq p (c :: r)]
          cases e0 : lengthAt p (c :: r) with
          | error e => rfl
          | ok x =>
            obtain ⟨n, q, u⟩ := x
            obtain ⟨n1, n2⟩ := len_facts e0
            have n3 := len_pos n1
            show fin last (match (match (if (n : Int) = (last : Int) then none else some ((n : Int), iN u)) with
              | none => none
              | some (n, r) => (mStopsE k.num r).map fun (x : List StopI × List Int) => (((n, x.1) : LineI), x.2)) with
              | none => none
              | some (l, z) => if many = 512 then none else (mLines k.num g (many + 1) (if 0 < l.1 then l.1 else (last : Int)) z).map fun ls => l :: ls) = OL (if n = last then .error p else match stopsAt k q u with
                | .error e => .error e
                | .ok (l, z, v) => (linesAt k f n (many + 1) z v).map fun (x : Piece) => .moment n l :: x)
            by_cases hn : n = last
            · rw [if_pos hn, if_pos (by omega)]
              rfl
            · rw [if_neg hn, if_neg (by omega)]
              dsimp only
              rw [stops_eq k q u]
              cases e : stopsAt k q u with
              | error e => rfl
              | ok x =>
                obtain ⟨l, z, v⟩ := x
                have hu := (stops_facts e).1
                simp only [List.length_cons] at n2
                show fin last (if many = 512 then none else (mLines k.num g (many + 1) (if 0 < (n : Int) then (n : Int) else (last : Int)) (iN v)).map fun ls => (((n : Int), l.map stopI) : LineI) :: ls) = OL ((linesAt k f n (many + 1) z v).map fun (x : Piece) => .moment n l :: x)
                rw [if_neg hm', if_pos (by omega), fin_mom last n n3, OL_map, lines_eq k f g n (many + 1) z v (by omega) (by omega) hm2]
                rfl
theorem Except.map_ok {α β : Type} {x : Except Nat α} {g : α → β} {b : β} (h : x.map g = .ok b) : ∃ a, x = .ok a ∧ g a = b := by
  cases x with
  | error e => cases h
  | ok a => cases h; exact ⟨a, rfl, rfl⟩
noncomputable def LineG : Line → Prop
  | .bar => True
  | .moment n l => lengths.contains n = true ∧ Good l
theorem lines_facts (k : Kind) : ∀ (f last many p : Nat) (t : Bytes) (x : Piece), (last = 0 ∨ lengths.contains last = true) → linesAt k f last many p t = .ok x → many ≤ 512 → (∀ l ∈ x, LineG l) ∧ many + x.length ≤ 512 ∧ (last = 0 → x.any Line.isMoment = true)
  | f, last, many, p, [], x, hl, h, hm => by
    have e : linesAt k f last many p [] = if last = 0 then .error p else .ok [] := by cases f <;> rfl
    rw [e] at h
    by_cases h0 : last = 0
    · rw [if_pos h0] at h; cases h
    · rw [if_neg h0] at h
      cases h
      exact ⟨(fun l hl => (by cases hl)), hm, fun z => absurd z h0⟩
  | 0, last, many, p, c :: r, x, hl, h, hm => by cases h
  | f + 1, last, many, p, c :: r, x, hl, h, hm => by
    have h : (if LINES ≤ many then .error p else
      if c = 124 then (match want [END] (p + 1) r with
        | .error e => .error e
        | .ok (_, q, u) => (linesAt k f last (many + 1) q u).map fun (x : Piece) => .bar :: x)
      else if c = BLANK then (if last = 0 then .error p else match stopsAt k (p + 1) r with
        | .error e => .error e
        | .ok (l, q, u) => (linesAt k f last (many + 1) q u).map fun (x : Piece) => .moment last l :: x)
      else match lengthAt p (c :: r) with
        | .error e => .error e
        | .ok (n, q, u) => if n = last then .error p else match stopsAt k q u with
          | .error e => .error e
          | .ok (l, z, v) => (linesAt k f n (many + 1) z v).map fun (x : Piece) => .moment n l :: x : Except Nat Piece) = .ok x := h
    by_cases hm1 : LINES ≤ many
    · rw [if_pos hm1] at h; cases h
    · rw [if_neg hm1] at h
      have hm2 : many + 1 ≤ 512 := by
        have : ¬ 512 ≤ many := hm1
        omega
      by_cases c1 : c = 124
      · rw [if_pos c1] at h
        cases e : want [END] (p + 1) r with
        | error e' => rw [e] at h; cases h
        | ok y =>
          obtain ⟨a, q, u⟩ := y
          rw [e] at h
          obtain ⟨x', hx, rfl⟩ := Except.map_ok h
          obtain ⟨i1, i2, i3⟩ := lines_facts k f last (many + 1) q u x' hl hx hm2
          refine ⟨fun l hl => ?_, by simp; omega, fun z => by rw [List.any_cons, i3 z, Bool.or_true]⟩
          rcases List.mem_cons.mp hl with rfl | hl
          · trivial
          · exact i1 l hl
      · rw [if_neg c1] at h
        by_cases c2 : c = BLANK
        · rw [if_pos c2] at h
          by_cases h0 : last = 0
          · rw [if_pos h0] at h; cases h
          · rw [if_neg h0] at h
            cases e : stopsAt k (p + 1) r with
            | error e' => rw [e] at h; cases h
            | ok y =>
              obtain ⟨l, q, u⟩ := y
              have hg := (stops_facts e).2
              rw [e] at h
              obtain ⟨x', hx, rfl⟩ := Except.map_ok h
              obtain ⟨i1, i2, i3⟩ := lines_facts k f last (many + 1) q u x' hl hx hm2
              refine ⟨fun l' hl' => ?_, by simp; omega, fun z => absurd z h0⟩
              rcases List.mem_cons.mp hl' with rfl | hl'
              · exact ⟨hl.resolve_left h0, hg⟩
              · exact i1 l' hl'
        · rw [if_neg c2] at h
          cases e0 : lengthAt p (c :: r) with
          | error e' => rw [e0] at h; cases h
          | ok y =>
            obtain ⟨n, q, u⟩ := y
            have n1 := (len_facts e0).1
            rw [e0] at h
            dsimp only at h
            by_cases hn : n = last
            · rw [if_pos hn] at h; cases h
            · rw [if_neg hn] at h
              cases e : stopsAt k q u with
              | error e' => rw [e] at h; cases h
              | ok y =>
                obtain ⟨l, z, v⟩ := y
                have hg := (stops_facts e).2
                rw [e] at h
                obtain ⟨x', hx, rfl⟩ := Except.map_ok h
                obtain ⟨i1, i2, i3⟩ := lines_facts k f n (many + 1) z v x' (.inr n1) hx hm2
                refine ⟨fun l' hl' => ?_, by simp; omega, fun _ => by rw [List.any_cons]; rfl⟩
                rcases List.mem_cons.mp hl' with rfl | hl'
                · exact ⟨n1, hg⟩
                · exact i1 l' hl'
noncomputable def OR : Except Nat (Kind × Piece) → Option (Nat × List LineI)
  | .error _ => none
  | .ok (k, x) => some (k.num, x.map lineI)
theorem mread_eq (u : List Int) : mRead u = match mKind u with
    | none => none
    | some (k, z) => match fin 0 (mLines k.toNat (z.length + 1) 0 0 z) with
      | none => none
      | some ls => some (k.toNat, ls) := by
  unfold mRead mKind
  cases takeS kindS u with
  | none => rfl
  | some x =>
    obtain ⟨k, r⟩ := x
    dsimp only
    cases mTake 10 r with
    | none => rfl
    | some z =>
      show (match mLines k.toNat (z.length + 1) 0 0 z with
        | none => none
        | some ls => if ls.any (fun l => decide (0 < l.1)) = true then some (k.toNat, ls) else none) = (match fin 0 (mLines k.toNat (z.length + 1) 0 0 z) with
        | none => none
        | some ls => some (k.toNat, ls))
      cases mLines k.toNat (z.length + 1) 0 0 z with
      | none => rfl
      | some ls =>
        show (if anyM ls = true then some (k.toNat, ls) else none) = (match (if 0 ≠ 0 ∨ anyM ls = true then some ls else none) with
          | none => none
          | some ls => some (k.toNat, ls))
        by_cases h : anyM ls = true
        · rw [if_pos h, if_pos (.inr h)]
        · rw [if_neg h, if_neg (by rintro (z | z); exact z rfl; exact h z)]
theorem read_eq (t : Bytes) : mRead (iN t) = OR (read t) := by
  rw [mread_eq, kind_eq]
  unfold LuteTab.read
  cases kindAt t with
  | error e => rfl
  | ok x =>
    obtain ⟨k, q, u⟩ := x
    have hlen : (iN u).length = u.length := by unfold iN; rw [List.length_map]
    show (match fin 0 (mLines k.num ((iN u).length + 1) 0 ((0 : Nat) : Int) (iN u)) with
      | none => none
      | some ls => some (k.num, ls)) = OR ((linesAt k (u.length + 1) 0 0 q u).map fun (p : Piece) => (k, p))
    rw [hlen, lines_eq k (u.length + 1) (u.length + 1) 0 0 q u (Nat.lt_succ_self _) (Nat.le_succ _) (by decide)]
    cases linesAt k (u.length + 1) 0 0 q u with
    | error e => rfl
    | ok x => rfl
theorem read_facts {t : Bytes} {k : Kind} {x : Piece} (h : read t = .ok (k, x)) : (∀ l ∈ x, LineG l) ∧ x.length ≤ 512 ∧ x.any Line.isMoment = true := by
  unfold LuteTab.read at h
  cases e : kindAt t with
  | error e' => rw [e] at h; cases h
  | ok y =>
    obtain ⟨k', q, u⟩ := y
    rw [e] at h
    obtain ⟨x', hx, hk⟩ := Except.map_ok h
    cases hk
    obtain ⟨i1, i2, i3⟩ := lines_facts _ _ 0 0 q u _ (.inl rfl) hx (by decide)
    exact ⟨i1, by omega, i3 rfl⟩
theorem bytes_iN {ns : List Int} (h : ∀ c ∈ ns, 0 ≤ c ∧ c ≤ 255) : iN (LuTabNeutral.bytes ns) = ns := by
  induction ns with
  | nil => rfl
  | cons c r ih =>
    show ((UInt8.ofNat c.toNat).toNat : Int) :: iN (LuTabNeutral.bytes r) = c :: r
    rw [ih fun x hx => h x (List.mem_cons_of_mem _ hx)]
    have := h c List.mem_cons_self
    congr 1
    rw [UInt8.toNat_ofNat']
    omega
end Lu
set_option Elab.async false
set_option linter.all false
set_option maxRecDepth 100000
set_option maxHeartbeats 4000000
namespace Lu
open PySem PySem.Spec PyProof.Rows L2 LX
open PySem.W (Frag findIn specialIn instIn typeIn keepIn readsIn findCls isFn)
section
variable {X : Cx} {tg : Expr}
noncomputable def iSeq (K : Frag) (tl : TE) : TI := fun σ H R => tl σ H fun x H1 => ∃ a, x = .ref a ∧ (((∃ xs, SqL K H1 a xs) ∧ R (Itl K a) H1) ∨ ((∃ xs, SqT K H1 a xs) ∧ R (Itt K a) H1))
theorem pi_seq {l : Expr} {tl : TE} (hl : PE X l tl) : PI X tg l (iSeq X.K tl) := by
  intro pins s σ H R I h
  refine thn (hl pins s σ H _ I h) fun v s1 ⟨x, H1, I1, r1, q1⟩ => ?_
  obtain ⟨a, e, ⟨⟨xs, hq⟩, q⟩ | ⟨⟨xs, hq⟩, q⟩⟩ := q1
  · subst e
    cases r1
    obtain ⟨its, rv, p, hz⟩ := I1.list hq
    exact wpAny_pyIter_list p.isList (pi_one (tk := s1.toks) I1 _ (turn_list a _) ⟨_, Heap.get?_push_size _ rfl, rfl, rfl⟩ q)
  · subst e
    cases r1
    obtain ⟨its, rv, p, hz⟩ := I1.tuple hq
    exact wpAny_pyIter_tuple (show s1.heap.IsTuple a its.toArray from p) (pi_one (tk := s1.toks) I1 _ (turn_tuple a _) ⟨_, Heap.get?_push_size _ rfl, rfl, rfl⟩ q)
noncomputable def rCat0 (K : Frag) : R2 := fun x y H Q => ∃ a b ys, x = .ref a ∧ y = .ref b ∧ SqT K H a [] ∧ SqT K H b ys ∧ Q (.ref b) H
theorem op_cat0 : OpR X (binaryOp .Add) (rCat0 X.K) := by
  intro pins s σ H x y v u Q I rx ry h
  obtain ⟨a, b, ys, rfl, rfl, ha, hb, q⟩ := h
  cases rx
  cases ry
  obtain ⟨its, r1, p1, _⟩ := I.tuple ha
  obtain ⟨its2, r2, p2, _⟩ := I.tuple hb
  cases r1
  obtain ⟨⟨cls, dd, data, sl⟩, ho, hc, n, hd⟩ := id p1
  obtain ⟨⟨cls2, dd2, data2, sl2⟩, ho2, hc2, n2, hd2⟩ := id p2
  simp only at hc hd hc2 hd2
  subst hc hd hc2 hd2
  exact concat_meets ⟨_, ho, rfl⟩ ⟨_, ho2, rfl⟩ noFill_tuple_add seq_tuple_add PySem.F.slot_tuple_add PySem.F.entry_tuple_add (PySem.F.args_tuple_add_2 _ _)
    (tuple_addW0 a b _ its2.toArray n n2 dd dd2 sl sl2 rfl) ⟨ho, ho2, ⟨.ref b, H, I, rfl, q⟩⟩
noncomputable def rPlus (K : Frag) : R2 := fun x y H Q => ∃ a b xs v, x = .ref a ∧ y = .ref b ∧ H a = some (.tup xs) ∧ H b = some (.tup [v]) ∧ xs.length ≤ 1000 ∧ ∀ p H', H' p = some (.tup (xs ++ [v])) → (∀ c o, H c = some o → H' c = some o) → Q (.ref p) H'
theorem op_plus : OpR X (binaryOp .Add) (rPlus X.K) := by
  intro pins s σ H x y v u Q I rx ry h
  obtain ⟨a, b, xs, w', rfl, rfl, ha, hb, hz, q⟩ := h
  cases xs with
  | nil => exact op_cat0 pins s σ H _ _ v u Q I rx ry ⟨a, b, _, rfl, rfl, SqT.of ha, SqT.of hb, q b H hb fun _ _ z => z⟩
  | cons z r =>
    refine op_catT pins s σ H _ _ v u Q I rx ry ⟨a, b, _, _, rfl, rfl, SqT.of ha, SqT.of hb, by simp, ?_, fun e => by simp at e, fun _ p hp => q p _ upd_same fun c o e => by rw [upd_ne (ne_of_none e hp)]; exact e⟩
    rw [sizeLine_eq]
    simp only [List.length_cons, List.length_nil] at hz ⊢
    omega
end
section
variable {prog : Program} {w : World} {A : Around} {E : Value → Shared → Prop} {s : Shared}
theorem getItem_tuple_whole {t sl : Addr} {items : Array Value} {vl vu : Value} {lo hi : Option Int} {Q : Value → Shared → Prop} (ht : IsTup s.heap t items) (hs : s.heap.IsSliceOf sl vl vu .none) (pl : IsPart vl lo) (pu : IsPart vu hi)
    (hw : HT.sIx items.size 0 lo = 0 ∧ HT.sIx items.size items.size hi = items.size) (h : Q (.ref t) s) : wpAny (model prog w) A (getItem (.ref t) (.ref sl)) Q E s := by
  obtain ⟨os, hos, hcs, hds⟩ := id hs
  have hTs : s.TypeIs (.ref sl) "slice" := ⟨os, hos, hcs⟩
  unfold getItem
  try with_reducible refine wpAny_holding ?_
  first | refine wpAny_bind (wpAny_pure ?_) | skip
  refine wpAny_bind (wpAny_sequenceKey ht.typeIs (by decide) ?_)
  refine wpAny_bind (wpAny_callSpecial?_slot (name := Str.ofString "__getitem__") ht.typeIs PyProof.Rows.slot_tuple_getitem
    (wpAny_call_entry PyProof.Rows.slot_tuple_getitem ht.typeIs entry_tuple_getitem ?_ (args_tuple_getitem _ _)))
  show wpAny _ _ (Builtin.Tuple.tupleItemsOf (.ref t) >>= _) _ _ s
  refine wpAny_bind (tupleItemsOf_ ht ?_)
  refine wpAny_bind (wpAny_typeOf hTs ?_)
  rw [if_pos (by decide)]
  refine wpAny_bind (HT.sliceApplied_gen hs pl pu ?_)
  rw [hw.1, hw.2, Nat.sub_zero]
  show wpAny _ _ (if ((((0 : Nat) : Int)) == 0 && (1 : Int) == 1 && items.size == items.size) = true then _ else _) _ _ s
  rw [if_pos (by simp)]
  unfold Builtin.Tuple.tupleIsExact
  refine wpAny_bind (wpAny_bind (wpAny_typeOf ht.typeIs (wpAny_pure ?_)))
  exact wpAny_bind (wpAny_rule (wpAny_pure ⟨_, rfl, wpAny_pure h⟩))
end
section
variable {X : Cx}
noncomputable def rSlA (K : Frag) : V → Option Int → Option Int → Hp → VK → Prop := fun x lo hi H Q => ∃ a xs, x = .ref a ∧ H a = some (.tup xs) ∧ ∀ p H', H' p = some (.tup (cutV xs lo hi)) → (∀ c o, H c = some o → H' c = some o) → Q (.ref p) H'
theorem sl_tupA : SlR X (rSlA X.K) := by
  intro pins s σ H x v vl vu lo hi sl Q I rx hs pl pu h
  obtain ⟨a, xs, rfl, ha, q⟩ := h
  by_cases hw : HT.sIx xs.length 0 lo = 0 ∧ HT.sIx xs.length xs.length hi = xs.length
  · cases rx
    obtain ⟨its, r, ht, hz⟩ := I.tuple (SqT.of ha)
    have hlen : its.toArray.size = xs.length := by rw [List.size_toArray]; exact r.length.symm
    have e : cutV xs lo hi = xs := by
      unfold cutV
      rw [hw.1, hw.2, Nat.sub_zero, List.drop_zero, List.take_length]
    refine ⟨"tuple", _, PyProof.Rows.slot_tuple_getitem.lookup, ht.typeIs, getItem_tuple_whole ht hs pl pu (by rw [hlen]; exact hw) ⟨.ref a, H, I, rfl, q a H (by rw [e]; exact ha) fun _ _ z => z⟩⟩
  · exact sl_tup pins s σ H _ v vl vu lo hi sl Q I rx hs pl pu ⟨a, xs, rfl, SqT.of ha, hw, fun p hp => q p _ upd_same fun c o e => by rw [upd_ne (ne_of_none e hp)]; exact e⟩
theorem perm_map_inv {α β : Type} {f : α → β} : ∀ {l m : List β}, l.Perm m → ∀ ps : List α, m = ps.map f → ∃ ps' : List α, ps'.Perm ps ∧ l = ps'.map f := by
  intro l m h
  induction h with
  | nil =>
    intro ps e
    have : ps = [] := by simpa using e.symm
    subst this
    exact ⟨[], .nil, rfl⟩
  | @cons x l1 l2 _ ih =>
    intro ps e
    cases ps with
    | nil => cases e
    | cons p r =>
      rw [List.map_cons] at e
      injection e with e1 e2
      obtain ⟨r', h1, h2⟩ := ih r e2
      exact ⟨p :: r', h1.cons p, by rw [List.map_cons, ← h2, ← e1]⟩
  | swap x y l =>
    intro ps e
    cases ps with
    | nil => cases e
    | cons p r =>
      cases r with
      | nil => injection e with e1 e2; cases e2
      | cons q r =>
        simp only [List.map_cons] at e
        injection e with e1 e2
        injection e2 with e2 e3
        exact ⟨q :: p :: r, .swap p q r, by simp only [List.map_cons]; rw [← e1, ← e2, ← e3]⟩
  | trans _ _ ih1 ih2 =>
    intro ps e
    obtain ⟨p2, h1, h2⟩ := ih2 ps e
    obtain ⟨p1, h3, h4⟩ := ih1 p2 h2
    exact ⟨p1, h3.trans h1, h4⟩
noncomputable def rSortedT (K : Frag) : List V → Hp → VK → Prop := fun vs H Q => ∃ (a : Addr) (ps : List (Addr × Int × Int)), vs = [V.ref a] ∧ SqL K H a (ps.map fun p => .ref p.1) ∧ (∀ p ∈ ps, H p.1 = some (.tup [.int p.2.1, .int p.2.2])) ∧ ps.length ≤ 1000 ∧
  ∀ (ps' : List (Addr × Int × Int)) (q : Addr), ps'.Perm ps → ps'.Pairwise (fun x y => x.2.1 ≤ y.2.1) → H q = none → Q (.ref q) (upd H q (.lst (ps'.map fun p => .ref p.1)))
theorem vals_refs : ∀ {ps : List (Addr × Int × Int)} {us : List Value}, Vals (ps.map fun p => V.ref p.1) us → us = ps.map fun p => Value.ref p.1
  | [], _, r => by cases r; rfl
  | p :: ps, _, r => by
    cases r with
    | cons r1 r2 =>
      cases r1
      rw [vals_refs r2]
      rfl
theorem zip_self {α : Type} : ∀ l : List α, l.zip l = l.map fun v => (v, v)
  | [] => rfl
  | x :: r => by rw [List.zip_cons_cons, List.map_cons, zip_self r]
theorem cr_sortedT : CallR X (.builtin "sorted") (rSortedT X.K) := by
  intro pins s σ H vs us Q I r h
  obtain ⟨a, ps, rfl, hs, ht, hz, q⟩ := h
  obtain ⟨its, rv, hl, _⟩ := I.list hs
  rw [Vals.ref1 r]
  have ei := vals_refs rv
  subst ei
  have at_ : ∀ p ∈ ps, ∃ o n t t', s.heap.get? p.1 = some o ∧ o.cls = .type "tuple" ∧ o.data = .seq #[.int p.2.1 t, .int p.2.2 t'] n := fun p hp => by
    obtain ⟨_, us, r, ⟨o, ho, hc, n, hd⟩⟩ := (show ObjOk X.prog X.w H s.heap p.1 (.tup _) from I.hok _ _ (ht p hp))
    obtain ⟨t, t', e⟩ := Vals.int2 r
    subst e
    exact ⟨o, n, t, t', ho, hc, hd⟩
  have key : ∀ p ∈ ps, PyProof.Rows.G.tupKeyC s.heap (fun _ => false) (.ref p.1) = some [Sum.inl p.2.1, Sum.inl p.2.2] := fun p hp => by
    obtain ⟨o, n, t, t', ho, hc, hd⟩ := at_ p hp
    unfold PyProof.Rows.G.tupKeyC
    have e1 : PyProof.Rows.G.isTupObj s.heap (.ref p.1) = true := by simp [PyProof.Rows.G.isTupObj, ho, hc]
    rw [if_pos e1]
    simp only [PyProof.Rows.tupKey, ho, hd]
    rfl
  have tups : ∀ l : List (Addr × Int × Int), (∀ p ∈ l, p ∈ ps) → ∃ fs, PyProof.Rows.TupsOf s.heap (fun _ => false) (l.map fun p => Value.ref p.1) fs := fun l => by
    induction l with
    | nil => exact fun _ => ⟨[], .nil⟩
    | cons p l ih =>
      intro hm
      obtain ⟨fs, hfs⟩ := ih fun x hx => hm x (List.mem_cons_of_mem _ hx)
      obtain ⟨o, n, t, t', ho, hc, hd⟩ := at_ p (hm p List.mem_cons_self)
      exact ⟨_ :: fs, .cons ⟨p.1, o, _, n, rfl, ho, hc, hd, rfl, fun _ => ⟨_, _, rfl⟩, fun z => nomatch z⟩ hfs⟩
  obtain ⟨fs, hfs⟩ := tups ps fun _ z => z
  refine PyProof.Rows.G.sorted_tups (shape := fun _ => false) hl.isList hfs (fun v hv => ?_) (by rw [List.length_map, sizeLine_eq]; omega) fun st' hp hso _ => ?_
  · obtain ⟨p, hp, rfl⟩ := List.mem_map.mp hv
    exact ⟨_, key p hp⟩
  · have hperm := Array.perm_iff_toList_perm.mp hp
    rw [pairsOf_toList, zip_self, List.map_map] at hperm
    obtain ⟨ps', h1, h2⟩ := perm_map_inv hperm ps rfl
    have hout : ((arrOf st').map (·.2)).toList = ps'.map fun p => Value.ref p.1 := by
      rw [Array.toList_map, h2, List.map_map]
      rfl
    obtain ⟨ep, he'⟩ := PyProof.Rows.sortedAll_at s.heap (ps.map fun p => Value.ref p.1) ((arrOf st').map (·.2))
    have srt : ps'.Pairwise (fun x y => x.2.1 ≤ y.2.1) := by
      rw [List.pairwise_iff_getElem]
      intro i j hi hj hij
      have hsz : (pairsOf (ps.map fun p => Value.ref p.1)).size = ps'.length := by
        rw [pairsOf_size, List.length_map]
        exact h1.length_eq.symm
      have hk := hso i j (Nat.le_of_lt hij) (by rw [hsz]; exact hj)
      have kk : ∀ (m : Nat) (hm : m < ps'.length), KK (PyProof.Rows.G.tupKindC s.heap fun _ => false) (arrOf st') m = [Sum.inl (ps'[m]'hm).2.1, Sum.inl (ps'[m]'hm).2.2] := fun m hm => by
        unfold KK
        have e : (arrOf st')[m]? = some (Value.ref (ps'[m]'hm).1, Value.ref (ps'[m]'hm).1) := by
          rw [← Array.getElem?_toList, h2, List.getElem?_map, List.getElem?_eq_getElem hm]
          rfl
        rw [e]
        show (PyProof.Rows.G.tupKeyC s.heap (fun _ => false) (Value.ref (ps'[m]'hm).1)).getD [] = _
        rw [key _ (h1.mem_iff.mp (List.getElem_mem hm))]
        rfl
      rw [kk i hi, kk j hj] at hk
      have hk' : PyProof.Rows.lexLt PyProof.Rows.itemOrd [Sum.inl (ps'[j]'hj).2.1, Sum.inl (ps'[j]'hj).2.2] [Sum.inl (ps'[i]'hi).2.1, Sum.inl (ps'[i]'hi).2.2] = false := hk
      have hlt : decide ((ps'[j]'hj).2.1 < (ps'[i]'hi).2.1) = false := by
        have z : (decide ((ps'[j]'hj).2.1 < (ps'[i]'hi).2.1) || _) = false := hk'
        exact (Bool.or_eq_false_iff.mp z).1
      have := of_decide_eq_false hlt
      omega
    refine ⟨.ref _, upd H (s.heap.objs.size + 1) (.lst (ps'.map fun p => .ref p.1)), I.laid (t' := s.toks) (fun _ _ => PyProof.Rows.sortedAll_old) (Nat.le_succ _) ⟨?_, ((arrOf st').map (·.2)).toList, ep, ?_, ?_⟩, rfl, q ps' _ h1 srt (I.hok.fresh (Nat.le_succ _))⟩
    · rw [List.length_map, h1.length_eq, sizeLine_eq]; omega
    · rw [hout]
      clear h1 h2 srt hout he' hperm
      induction ps' with
      | nil => exact .nil
      | cons p r ih => exact .cons rfl ih
    · show _ = some (seqObj "list" (((arrOf st').map (·.2)).toList.toArray) ep)
      rw [Array.toArray_toList]
      exact he'
end
end Lu
set_option Elab.async false
set_option linter.all false
set_option maxRecDepth 100000
set_option maxHeartbeats 4000000
namespace Lu
open PySem PySem.Spec PyProof.Rows L2 LX
open PySem.W (Frag findIn specialIn instIn typeIn keepIn readsIn findCls isFn)
noncomputable def top (i : Nat) : Stmt := PySem.Challenge.pw_lutesigns_s02_sizes.main.body.getD i (.Pass ⟨0, 0, 0, 0⟩)
noncomputable abbrev s_Refusal_init : Stmt := inClass (top 1) 0
noncomputable abbrev s_TooLong_init : Stmt := inClass (top 2) 0
noncomputable abbrev s_NoPiece_init : Stmt := inClass (top 3) 0
noncomputable abbrev s_german_sign : Stmt := top 16
noncomputable abbrev s_row_signs : Stmt := top 17
noncomputable abbrev s_stop_signs : Stmt := top 18
noncomputable abbrev s_Piece_init : Stmt := inClass (top 21) 0
noncomputable abbrev s_has_moment : Stmt := top 22
noncomputable abbrev s_SignTable_init : Stmt := inClass (top 29) 0
noncomputable abbrev s_Form_init : Stmt := inClass (top 30) 0
noncomputable abbrev s_Reader_init : Stmt := inClass (top 31) 0
noncomputable abbrev s_Reader_peek : Stmt := inClass (top 31) 1
noncomputable abbrev s_Reader_take : Stmt := inClass (top 31) 2
noncomputable abbrev s_Reader_take_sign : Stmt := inClass (top 31) 3
noncomputable abbrev s_read_piece : Stmt := top 32
noncomputable abbrev s_read_lines : Stmt := top 33
noncomputable abbrev s_read_line : Stmt := top 34
noncomputable abbrev s_read_length : Stmt := top 35
noncomputable abbrev s_read_stops : Stmt := top 36
noncomputable abbrev s_read_row : Stmt := top 37
noncomputable abbrev s_read_single_signs : Stmt := top 38
noncomputable abbrev s_sizes : Stmt := top 41
noncomputable abbrev s_read_text : Stmt := top 42
noncomputable abbrev s_check_size : Stmt := top 43
theorem sc_Refusal_init : FnScope ["self", "number"] ["self", "number"] (defScope s_Refusal_init) := ⟨rfl, rfl, rfl, by decide +kernel, rfl, by decide +kernel, by decide +kernel⟩
theorem sc_TooLong_init : FnScope ["self"] ["self"] (defScope s_TooLong_init) := ⟨rfl, rfl, rfl, by decide +kernel, rfl, by decide +kernel, by decide +kernel⟩
theorem sc_NoPiece_init : FnScope ["self", "place"] ["self", "place"] (defScope s_NoPiece_init) := ⟨rfl, rfl, rfl, by decide +kernel, rfl, by decide +kernel, by decide +kernel⟩
theorem sc_german_sign : FnScope ["course", "fret", "letter"] ["course", "fret"] (defScope s_german_sign) := ⟨rfl, rfl, rfl, by decide +kernel, rfl, by decide +kernel, by decide +kernel⟩
theorem sc_row_signs : FnScope ["kind", "signs", "fret", "letter"] ["kind"] (defScope s_row_signs) := ⟨rfl, rfl, rfl, by decide +kernel, rfl, by decide +kernel, by decide +kernel⟩
theorem sc_stop_signs : FnScope ["kind", "signs", "course", "nth", "text", "fret"] ["kind"] (defScope s_stop_signs) := ⟨rfl, rfl, rfl, by decide +kernel, rfl, by decide +kernel, by decide +kernel⟩
theorem sc_Piece_init : FnScope ["self", "kind", "lines"] ["self", "kind", "lines"] (defScope s_Piece_init) := ⟨rfl, rfl, rfl, by decide +kernel, rfl, by decide +kernel, by decide +kernel⟩
theorem sc_has_moment : FnScope ["lines", "length", "stops"] ["lines"] (defScope s_has_moment) := ⟨rfl, rfl, rfl, by decide +kernel, rfl, by decide +kernel, by decide +kernel⟩
theorem sc_SignTable_init : FnScope ["self", "signs", "text", "meaning", "codes", "size", "letter"] ["self", "signs"] (defScope s_SignTable_init) := ⟨rfl, rfl, rfl, by decide +kernel, rfl, by decide +kernel, by decide +kernel⟩
theorem sc_Form_init : FnScope ["self", "kind"] ["self", "kind"] (defScope s_Form_init) := ⟨rfl, rfl, rfl, by decide +kernel, rfl, by decide +kernel, by decide +kernel⟩
theorem sc_Reader_init : FnScope ["self", "t"] ["self", "t"] (defScope s_Reader_init) := ⟨rfl, rfl, rfl, by decide +kernel, rfl, by decide +kernel, by decide +kernel⟩
theorem sc_Reader_peek : FnScope ["self"] ["self"] (defScope s_Reader_peek) := ⟨rfl, rfl, rfl, by decide +kernel, rfl, by decide +kernel, by decide +kernel⟩
theorem sc_Reader_take : FnScope ["self", "byte"] ["self", "byte"] (defScope s_Reader_take) := ⟨rfl, rfl, rfl, by decide +kernel, rfl, by decide +kernel, by decide +kernel⟩
theorem sc_Reader_take_sign : FnScope ["self", "table", "taken"] ["self", "table"] (defScope s_Reader_take_sign) := ⟨rfl, rfl, rfl, by decide +kernel, rfl, by decide +kernel, by decide +kernel⟩
theorem sc_read_piece : FnScope ["t", "reader", "kind", "lines"] ["t"] (defScope s_read_piece) := ⟨rfl, rfl, rfl, by decide +kernel, rfl, by decide +kernel, by decide +kernel⟩
theorem sc_read_lines : FnScope ["reader", "form", "lines", "before", "start", "fresh"] ["reader", "form"] (defScope s_read_lines) := ⟨rfl, rfl, rfl, by decide +kernel, rfl, by decide +kernel, by decide +kernel⟩
theorem sc_read_line : FnScope ["reader", "form", "before", "length", "stops"] ["reader", "form", "before"] (defScope s_read_line) := ⟨rfl, rfl, rfl, by decide +kernel, rfl, by decide +kernel, by decide +kernel⟩
theorem sc_read_length : FnScope ["reader", "form", "before", "start", "length"] ["reader", "form", "before"] (defScope s_read_length) := ⟨rfl, rfl, rfl, by decide +kernel, rfl, by decide +kernel, by decide +kernel⟩
theorem sc_read_stops : FnScope ["reader", "form", "stops"] ["reader", "form"] (defScope s_read_stops) := ⟨rfl, rfl, rfl, by decide +kernel, rfl, by decide +kernel, by decide +kernel⟩
theorem sc_read_row : FnScope ["reader", "form", "stops", "course", "fret"] ["reader", "form"] (defScope s_read_row) := ⟨rfl, rfl, rfl, by decide +kernel, rfl, by decide +kernel, by decide +kernel⟩
theorem sc_read_single_signs : FnScope ["reader", "form", "above", "stops", "start", "stop"] ["reader", "form", "above"] (defScope s_read_single_signs) := ⟨rfl, rfl, rfl, by decide +kernel, rfl, by decide +kernel, by decide +kernel⟩
theorem sc_sizes : FnScope ["t", "piece", "refusal", "moments", "bars", "stopped", "units", "length", "stops"] ["t"] (defScope s_sizes) := ⟨rfl, rfl, rfl, by decide +kernel, rfl, by decide +kernel, by decide +kernel⟩
theorem sc_read_text : FnScope ["t"] ["t"] (defScope s_read_text) := ⟨rfl, rfl, rfl, by decide +kernel, rfl, by decide +kernel, by decide +kernel⟩
theorem sc_check_size : FnScope ["t"] ["t"] (defScope s_check_size) := ⟨rfl, rfl, rfl, by decide +kernel, rfl, by decide +kernel, by decide +kernel⟩
end Lu
set_option Elab.async false
set_option linter.all false
set_option maxRecDepth 100000
set_option maxHeartbeats 4000000
namespace Lu
open PySem PySem.Spec PyProof.Rows L2 LX
open PySem.W (Frag findIn specialIn instIn typeIn keepIn readsIn findCls isFn)
structure Ref (K : Frag) (mg : Str → Option Value) (R : Addr) : Prop where
  mg : mg "Refusal" = some (.ref R)
  cls : XCls K R []
structure XC (K : Frag) (mg : Str → Option Value) (R C : Addr) (x : Str) : Prop where
  mg : mg x = some (.ref C)
  cls : XCls K C [R]
  num : NoAttr K C "number"
  plc : NoAttr K C "place"
structure TxR (K : Frag) (mg : Str → Option Value) (CR CS CF CP : Addr) : Prop where
  cR : Cls K CR
  cS : Cls K CS
  cF : Cls K CF
  cP : Cls K CP
  nt : NoAttr K CR "t"
  np : NoAttr K CR "place"
  nb : NoAttr K CS "beginnings"
  nm : NoAttr K CS "meanings"
  nk : NoAttr K CF "kind"
  nl : NoAttr K CF "lengths"
  nf : NoAttr K CF "frets"
  ns : NoAttr K CF "stops"
  pk : NoAttr K CP "kind"
  pl : NoAttr K CP "lines"
  endB : ∃ t, mg "ROW_END" = some (.int 10 t)
  blank : ∃ t, mg "BLANK" = some (.int 32 t)
  point : ∃ t, mg "POINT" = some (.int 46 t)
  stroke : ∃ t, mg "STROKE" = some (.int 124 t)
  noB : ∃ t, mg "NO_BYTE" = some (.int 256 t)
  most : ∃ t, mg "MOST_LINES" = some (.int 512 t)
  german : ∃ t, mg "GERMAN" = some (.int 2 t)
  nlen : mg "len" = none
section
variable {P : Program} {w : World} {K : Frag} {mg : Str → Option Value} {base : Heap}
noncomputable def fNum (n : Int) : List (Str × V) := [(("number" : Str), V.int n)]
noncomputable def fPl (p : Int) : List (Str × V) := [(("number" : Str), V.int (-6)), (("place" : Str), V.int p)]
noncomputable def okNum : List V → List (Str × V) → Prop := fun ws fs => ∃ n, ws = [.int n] ∧ fs = fNum n
noncomputable def okC (n : Int) : List V → List (Str × V) → Prop := fun ws fs => ws = [] ∧ fs = fNum n
noncomputable def okPl : List V → List (Str × V) → Prop := fun ws fs => ∃ p, ws = [.int p] ∧ fs = fPl p
theorem put_pl (p : Int) : putF "place" (.int p) (fNum (-6)) = fPl p := by
  show (if ("number" : Str) = "place" then _ else ((("number" : Str), V.int (-6)) :: putF "place" (.int p) [])) = _
  rw [if_neg (by decide +kernel)]
  rfl
theorem ok_Refusal_init {R C : Addr} {f : Addr} {fd : FuncData} (F : Fun K "__init__" "Refusal.__init__" s_Refusal_init f fd) {x : Str} (c : XC K mg R C x) : FnOk P w K mg base (CX1 P w) 1 f fd ["self", "number"] (InitX K C okNum) := by
  refine FunX F sc_Refusal_init (fun vs H Q E h => ?_) (fun cdv A outer s H vs Q E hr h => ?_)
  · obtain ⟨x, ws, fs, rfl, ⟨n, rfl, _⟩, _⟩ := h
    rfl
  · obtain ⟨x, ws, fs, rfl, ⟨n, rfl, rfl⟩, hx, k⟩ := h
    refine ⟨_, pss_one (ps_fldX (pv 0) (pv 1) rfl), ?_⟩
    refine ⟨_, rfl, _, rfl, x, C, _, rfl, c.cls, c.num, .inl ⟨hx, fun d hd nd => ?_⟩⟩
    exact k d _ upd_same (by rw [upd_ne nd, upd_same]; rfl) nd fun b h1 h2 => by rw [upd_ne h1, upd_ne h2]
theorem ok_TooLong_init {R C fB : Addr} {f : Addr} {fd fdB : FuncData} (F : Fun K "__init__" "TooLong.__init__" s_TooLong_init f fd) (T : Ref K mg R) (c : XC K mg R C "TooLong") (B : ClsFn K R "__init__" fB) (bB : Binds K fdB ["self", "number"] [])
    (G : FnOk P w K mg base (CX1 P w) 1 fB fdB ["self", "number"] (InitX K C okNum)) : FnOk P w K mg base (CX1 P w) 2 f fd ["self"] (InitX K C (okC (-2))) := by
  refine FunX F sc_TooLong_init (fun vs H Q E h => ?_) (fun cdv A outer s H vs Q E hr h => ?_)
  · obtain ⟨x, ws, fs, rfl, ⟨rfl, _⟩, _⟩ := h
    rfl
  · obtain ⟨x, ws, fs, rfl, ⟨rfl, rfl⟩, hx, k⟩ := h
    refine ⟨_, pss_one (ps_expr (pe_clsfn B rfl T.mg G hr bB .nil passX (pa_cons (pv 0) (pa_cons (pe_un un_neg pe_int) pa_nil)))), ?_⟩
    refine ⟨_, rfl, _, rfl, ?_⟩
    exact ⟨x, [.int (-2)], _, rfl, ⟨_, rfl, rfl⟩, hx, fun d H' e1 e2 e3 e4 => k d H' e1 e2 e3 e4⟩
theorem ok_NoPiece_init {R C fB : Addr} {f : Addr} {fd fdB : FuncData} (F : Fun K "__init__" "NoPiece.__init__" s_NoPiece_init f fd) (T : Ref K mg R) (c : XC K mg R C "NoPiece") (B : ClsFn K R "__init__" fB) (bB : Binds K fdB ["self", "number"] [])
    (G : FnOk P w K mg base (CX1 P w) 1 fB fdB ["self", "number"] (InitX K C okNum)) : FnOk P w K mg base (CX1 P w) 2 f fd ["self", "place"] (InitX K C okPl) := by
  refine FunX F sc_NoPiece_init (fun vs H Q E h => ?_) (fun cdv A outer s H vs Q E hr h => ?_)
  · obtain ⟨x, ws, fs, rfl, ⟨p, rfl, _⟩, _⟩ := h
    rfl
  · obtain ⟨x, ws, fs, rfl, ⟨p, rfl, rfl⟩, hx, k⟩ := h
    refine ⟨_, pss_cons (ps_expr (pe_clsfn B rfl T.mg G hr bB .nil passX (pa_cons (pv 0) (pa_cons (pe_un un_neg pe_int) pa_nil)))) (pss_one (ps_fldX (pv 0) (pv 1) rfl)), ?_⟩
    refine ⟨_, rfl, _, rfl, ?_⟩
    refine ⟨x, [.int (-6)], _, rfl, ⟨_, rfl, rfl⟩, hx, fun d H' e1 e2 e3 e4 => ?_⟩
    refine ⟨_, rfl, _, rfl, x, C, _, rfl, c.cls, c.plc, .inr ⟨d, _, e1, e2, e3, (by show 1 < 1000; decide), ?_⟩⟩
    rw [put_pl]
    exact k d _ (by rw [upd_ne (Ne.symm e3)]; exact e1) upd_same e3 fun b h1 h2 => by rw [upd_ne h2]; exact e4 b h1 h2
noncomputable def rf (a : Addr) (p : Nat) : List (Str × V) := [(("t" : Str), V.ref a), (("place" : Str), V.int (p : Int))]
theorem rf_put (a : Addr) (p q : Nat) : putF "place" (.int ((q : Nat) : Int)) (rf a p) = rf a q := by
  show (if ("t" : Str) = "place" then _ else ((("t" : Str), V.ref a) :: putF "place" (.int (q : Int)) [(("place" : Str), V.int (p : Int))])) = _
  rw [if_neg (by decide +kernel)]
  show ((("t" : Str), V.ref a) :: (if ("place" : Str) = "place" then _ else _)) = _
  rw [if_pos rfl]
  rfl
noncomputable def TxL (K : Frag) (H : Hp) (a : Addr) (xs : List V) : Prop := (∃ o, H a = some (.frz o (.lst xs))) ∨ ∀ H', SqL K H' a xs
theorem TxL.sq {H : Hp} {a : Addr} {xs : List V} (h : TxL K H a xs) : SqL K H a xs := by
  rcases h with ⟨o, h⟩ | h
  · exact .inl (.inr ⟨o, h⟩)
  · exact h H
theorem TxL.keep {H H' : Hp} {a : Addr} {xs : List V} (h : TxL K H a xs) (k : ∀ b o u, H b = some (.frz o u) → H' b = some (.frz o u)) : TxL K H' a xs := by
  rcases h with ⟨o, h⟩ | h
  · exact .inl ⟨o, k _ _ _ h⟩
  · exact .inr h
noncomputable def RdAt (C : Addr) (K : Frag) (H : Hp) (r : Addr) (ns u : List Int) : Prop := ∃ (dx a : Addr) (p : Nat), H r = some (.ins C dx (rf a p)) ∧ TxL K H a (ns.map V.int) ∧ p ≤ ns.length ∧ ns.drop p = u
noncomputable def But (r : Addr) (H H' : Hp) : Prop := ∀ b o, b ≠ r → H b = some o → H' b = some o
theorem But.trans {r : Addr} {H H1 H2 : Hp} (a : But r H H1) (b : But r H1 H2) : But r H H2 := fun c o n z => b c o n (a c o n z)
theorem But.of {r : Addr} {H H' : Hp} (h : ∀ b o, H b = some o → H' b = some o) : But r H H' := fun b o _ z => h b o z
theorem But.seq {r : Addr} {H H' : Hp} {C dx : Addr} {fs : List (Str × V)} {a : Addr} {xs : List V} (k : But r H H') (hr : H r = some (.ins C dx fs)) (h : SqL K H a xs) : SqL K H' a xs := by
  rcases h with (h | ⟨o, h⟩) | h
  · exact .inl (.inl (k _ _ (ne_of h hr (by intro z; cases z)) h))
  · exact .inl (.inr ⟨o, k _ _ (ne_of h hr (by intro z; cases z)) h⟩)
  · exact .inr h
theorem RdAt.keep {C r r' : Addr} {H H' : Hp} {ns u : List Int} (h : RdAt C K H r ns u) (k : ∀ b o, H b = some o → H' b = some o) : RdAt C K H' r ns u := by
  obtain ⟨dx, a, p, e, hs, hp, hu⟩ := h
  exact ⟨dx, a, p, k _ _ e, hs.keep fun b o u z => k _ _ z, hp, hu⟩
theorem RdAt.put {C r l : Addr} {H : Hp} {ns u : List Int} {o : HO} (h : RdAt C K H r ns u) (hn : r ≠ l) (hl : ∀ o' u', H l ≠ some (.frz o' u')) : RdAt C K (upd H l o) r ns u := by
  obtain ⟨dx, a, p, e, hs, hp, hu⟩ := h
  exact ⟨dx, a, p, by rw [upd_ne hn]; exact e, hs.keep fun b o u z => by rw [upd_ne (fun q => hl o u (by rw [← q]; exact z))]; exact z, hp, hu⟩
noncomputable def Fault (E : XK) (N : Addr) : Prop := ∀ p : Int, Raises E N (fPl p)
noncomputable def sp_peek (CR : Addr) (K : Frag) : Sp := fun vs H Q _ => ∃ r ns u, vs = [.ref r] ∧ RdAt CR K H r ns u ∧ Q (.int (u.headD 256)) H
theorem ok_Reader_peek {CR CS CF CP : Addr} {f : Addr} {fd : FuncData} (F : Fun K "peek" "Reader.peek" s_Reader_peek f fd) (T : TxR K mg CR CS CF CP) : FnOk P w K mg base (CX1 P w) 1 f fd ["self"] (sp_peek CR K) := by
  refine FunX F sc_Reader_peek (fun vs H Q E h => ?_) (fun cdv A outer s H vs Q E hr h => ?_)
  · obtain ⟨r, ns, u, rfl, _⟩ := h
    rfl
  · obtain ⟨r, ns, u, rfl, ⟨dx, a, p, e, hs, hp, hu⟩, k⟩ := h
    refine ⟨_, pss_cons (ps_if (pt_cmpR op_lt (pe_fld (pv 0) rfl) (pe_callB call_len rfl T.nlen (by decide +kernel) (pa_cons (pe_fld (pv 0) rfl) pa_nil)) (nomark _)) (pss_one (ps_ret (pe_ix ix_list (pe_fld (pv 0) rfl) (pe_fld (pv 0) rfl) (fun _ _ => rfl)))) pss_nil) (pss_one (ps_ret (pe_gI T.noB rfl))), ?_⟩
    refine ⟨_, rfl, r, CR, dx, _, _, rfl, e, T.cR, T.np, rfl, _, rfl, r, CR, dx, _, _, rfl, e, T.cR, T.nt, rfl, _, _, rfl, .inl ⟨_, hs.sq, rfl⟩, _, _, rfl, rfl, _, rfl, ?_⟩
    refine ite2 (fun h1 => ?_) fun h1 => ?_
    · have hlt : p < ns.length := by simpa using h1
      refine ⟨_, rfl, r, CR, dx, _, _, rfl, e, T.cR, T.nt, rfl, _, rfl, r, CR, dx, _, _, rfl, e, T.cR, T.np, rfl, a, _, _, .int (u.headD 256), rfl, rfl, hs.sq, atI_nat ?_, k⟩
      rw [List.getElem?_map, List.getElem?_eq_getElem hlt, ← hu, List.drop_eq_getElem_cons hlt]
      rfl
    · have hge : ns.length ≤ p := by
        have : ¬ p < ns.length := by simpa using h1
        omega
      have e0 : u = [] := by rw [← hu]; exact List.drop_eq_nil_of_le hge
      rw [e0] at k
      exact k
end
end Lu
set_option Elab.async false
set_option linter.all false
set_option maxRecDepth 100000
set_option maxHeartbeats 4000000
namespace Lu
open PySem PySem.Spec PyProof.Rows L2 LX
open PySem.W (Frag findIn specialIn instIn typeIn keepIn readsIn findCls isFn)
section
variable {P : Program} {w : World} {K : Frag} {mg : Str → Option Value} {base : Heap}
theorem headD_eq {u : List Int} {b : Int} (hb : b ≠ 256) : (u.headD 256 = b) ↔ ∃ r, u = b :: r := by
  cases u with
  | nil => exact ⟨fun z => absurd z.symm hb, fun ⟨r, z⟩ => nomatch z⟩
  | cons c r => exact ⟨fun z => ⟨r, by rw [show c = b from z]⟩, fun ⟨r', z⟩ => by injection z⟩
theorem mTake_some {u : List Int} {b : Int} (hb : b ≠ 256) (h : u.headD 256 = b) : mTake b u = some u.tail := by
  obtain ⟨r, rfl⟩ := (headD_eq hb).mp h
  show (if b = b then some r else none) = some r
  rw [if_pos rfl]
theorem mTake_none {u : List Int} {b : Int} (h : ¬ u.headD 256 = b) : mTake b u = none := by
  cases u with
  | nil => rfl
  | cons c r =>
    show (if c = b then some r else none) = none
    rw [if_neg (show ¬ c = b from h)]
theorem RdAt.step {C r : Addr} {H : Hp} {ns : List Int} {c : Int} {u : List Int} (h : RdAt C K H r ns (c :: u)) : ∃ dx a p, H r = some (.ins C dx (rf a p)) ∧ RdAt C K (upd H r (.ins C dx (rf a (p + 1)))) r ns u := by
  obtain ⟨dx, a, p, e, hs, hp, hu⟩ := h
  have hlt : p < ns.length := by
    have := congrArg List.length hu
    rw [List.length_drop, List.length_cons] at this
    omega
  refine ⟨dx, a, p, e, dx, a, p + 1, upd_same, ?_, hlt, ?_⟩
  · exact hs.keep fun b o u z => by rw [upd_ne (ne_of z e (by intro q; cases q))]; exact z
  · rw [List.drop_eq_getElem_cons hlt] at hu
    injection hu
theorem But.upd {r : Addr} {H : Hp} {o : HO} : But r H (upd H r o) := fun b u n z => by rw [upd_ne n]; exact z
noncomputable def sp_take (CR NP : Addr) (K : Frag) : Sp := fun vs H Q E => ∃ r ns u b, vs = [.ref r, .int b] ∧ RdAt CR K H r ns u ∧ b ≠ 256 ∧ (∀ u', mTake b u = some u' → ∀ H', RdAt CR K H' r ns u' → But r H H' → Q .non H') ∧ (mTake b u = none → Fault E NP)
theorem ok_Reader_take {CR CS CF CP R NP : Addr} {f : Addr} {fd : FuncData} (F : Fun K "take" "Reader.take" s_Reader_take f fd) (T : TxR K mg CR CS CF CP) (c : XC K mg R NP "NoPiece") (GP : HasMeth P w K mg base 1 CR "peek" ["self"] (sp_peek CR K))
    (GN : HasMkX P w K mg base 2 NP "NoPiece" ["self", "place"] (InitX K NP okPl)) : FnOk P w K mg base (CX1 P w) 4 f fd ["self", "byte"] (sp_take CR NP K) := by
  refine FunX F sc_Reader_take (fun vs H Q E h => ?_) (fun cdv A outer s H vs Q E hr h => ?_)
  · obtain ⟨r, ns, u, b, rfl, _⟩ := h
    rfl
  · obtain ⟨r, ns, u, b, rfl, hR, hb, k1, k2⟩ := h
    have hr1 : Room 1 _ := hr.mono (by decide)
    refine ⟨_, pss_cons (ps_if (pt_cmpR op_ne (pe_me0 T.cR GP hr1 passX (pv 0)) (pv 1) (nomark _)) (pss_one (ps_raise rfl leavesX (pe_mkX GN hr rfl passX (pa_cons (pe_fld (pv 0) rfl) pa_nil)))) pss_nil)
      (pss_one (ps_fldaug (pv 0) pe_int in_add)), ?_⟩
    obtain ⟨dx, a, p, e, hs, hp, hu⟩ := id hR
    refine ⟨_, rfl, r, dx, _, rfl, e, rfl, r, ns, u, rfl, hR, _, rfl, rfl, _, rfl, ?_⟩
    refine ite2 (fun h1 => ?_) fun h1 => ?_
    · have hn : ¬ u.headD 256 = b := by simpa using h1
      refine raise_of c.cls ?_ fun Q Q' m h => ?_
      · exact ⟨_, rfl, r, CR, dx, _, _, rfl, e, T.cR, T.np, rfl, _, ⟨_, rfl, rfl⟩, k2 (mTake_none hn) _⟩
      · obtain ⟨v, e1, a', C', dx', fs', v', e2, e3, e4, e5, e6, h⟩ := h
        exact ⟨v, e1, a', C', dx', fs', v', e2, e3, e4, e5, e6, m _ _ h⟩
    · have hy : u.headD 256 = b := by simpa using h1
      obtain ⟨z, rfl⟩ := (headD_eq hb).mp hy
      obtain ⟨dx', a', p', e', hR'⟩ := RdAt.step hR
      refine ⟨_, rfl, r, CR, dx', _, _, rfl, e', T.cR, T.np, rfl, _, _, rfl, rfl, dx', _, e', (by show 2 < 1000; decide), ?_⟩
      have ep : (((p' : Nat) : Int) + 1) = ((p' + 1 : Nat) : Int) := by omega
      rw [ep, rf_put]
      exact k1 _ (mTake_some hb hy) _ hR' But.upd
noncomputable def tf (b m : Addr) : List (Str × V) := [(("beginnings" : Str), V.ref b), (("meanings" : Str), V.ref m)]
noncomputable def kI (ks : List Int) : List Key := ks.map Sum.inl
noncomputable def Tab (CS : Addr) (H : Hp) (tb : Addr) (S : List (List Int × V)) : Prop := ∃ (dx b m : Addr) (B M : List (List Key × V)), H tb = some (.ins CS dx (tf b m)) ∧ H b = some (.dT B) ∧ H m = some (.dT M) ∧
  (∀ ks : List Int, ks ≠ [] → (valV B (kI ks)).isSome = isBeg S ks) ∧ ∀ ks : List Int, valV M (kI ks) = lookS S ks
theorem Tab.but {CS CR r tb : Addr} {H H' : Hp} {S : List (List Int × V)} {dr : Addr} {fs : List (Str × V)} (h : Tab CS H tb S) (k : But r H H') (hr : H r = some (.ins CR dr fs)) (hn : tb ≠ r) : Tab CS H' tb S := by
  obtain ⟨dx, b, m, B, M, e1, e2, e3, h1, h2⟩ := h
  exact ⟨dx, b, m, B, M, k _ _ hn e1, k _ _ (ne_of e2 hr (by intro z; cases z)) e2, k _ _ (ne_of e3 hr (by intro z; cases z)) e3, h1, h2⟩
theorem kI_ints (ks : List Int) : (kI ks).map kV = ks.map V.int := by
  unfold kI
  rw [List.map_map]
  rfl
noncomputable def Bytes (S : List (List Int × V)) : Prop := ∀ s ∈ S, ∀ c ∈ s.1, c ≠ 256
theorem no_end {S : List (List Int × V)} (hS : Bytes S) (w : List Int) : isBeg S (w ++ [256]) = false := by
  unfold isBeg
  rw [List.any_eq_false]
  intro s hs hp
  have hp' := List.isPrefixOf_iff_prefix.mp hp
  exact hS s hs 256 (hp'.subset (by simp)) rfl
noncomputable def sp_take_sign (CR CS NP : Addr) (K : Frag) : Sp := fun vs H Q E => ∃ r ns u tb S, vs = [.ref r, .ref tb] ∧ RdAt CR K H r ns u ∧ tb ≠ r ∧ Tab CS H tb S ∧ Bytes S ∧ u.length ≤ 100000 ∧ (∀ s ∈ S, s.1.length ≤ 100) ∧
  (∀ v u', takeS S u = some (v, u') → ∀ H', RdAt CR K H' r ns u' → But r H H' → Q v H') ∧ (takeS S u = none → Fault E NP)
theorem beg_small {S : List (List Int × V)} {w : List Int} (hs : ∀ s ∈ S, s.1.length ≤ 100) (h : isBeg S w = true) : w.length ≤ 100 := by
  unfold isBeg at h
  rw [List.any_eq_true] at h
  obtain ⟨s, h1, h2⟩ := h
  exact Nat.le_trans (List.isPrefixOf_iff_prefix.mp h2).length_le (hs s h1)
theorem ok_Reader_take_sign {CR CS CF CP R NP : Addr} {f : Addr} {fd : FuncData} (F : Fun K "take_sign" "Reader.take_sign" s_Reader_take_sign f fd) (T : TxR K mg CR CS CF CP) (c : XC K mg R NP "NoPiece") (GP : HasMeth P w K mg base 1 CR "peek" ["self"] (sp_peek CR K))
    (GN : HasMkX P w K mg base 2 NP "NoPiece" ["self", "place"] (InitX K NP okPl)) : FnOk P w K mg base (CX1 P w) 4 f fd ["self", "table"] (sp_take_sign CR CS NP K) := by
  refine FunX F sc_Reader_take_sign (fun vs H Q E h => ?_) (fun cdv A outer s H vs Q E hr h => ?_)
  · obtain ⟨r, ns, u, tb, S, rfl, _⟩ := h
    rfl
  · obtain ⟨r, ns, u, tb, S, rfl, hR, hne, hT, hB, hul, hsl, k1, k2⟩ := h
    have hr1 : Room 1 _ := hr.mono (by decide)
    have hu := hu_of hr
    refine ⟨_, pss_cons (ps_set (i := 2) sc_Reader_take_sign.nd rfl (Or.inl rfl) (pe_tup pa_nil))
      (pss_cons (ps_while ownX (pt_cmp (pc_din hu (pe_op op_plus (pv 2) (pe_tup (pa_cons (pe_me0 T.cR GP hr1 passX (pv 0)) pa_nil))) (pe_fld (pv 1) rfl)))
        (pss_cons (ps_set (i := 2) sc_Reader_take_sign.nd rfl (Or.inl rfl) (pe_op op_plus (pv 2) (pe_tup (pa_cons (pe_me0 T.cR GP hr1 passX (pv 0)) pa_nil)))) (pss_one (ps_fldaug (pv 0) pe_int in_add))))
      (pss_cons (ps_if (pt_cmp (pc_dnotin hu (pv 2) (pe_fld (pv 1) rfl))) (pss_one (ps_raise rfl leavesX (pe_mkX GN hr rfl passX (pa_cons (pe_fld (pv 0) rfl) pa_nil)))) pss_nil)
      (pss_one (ps_ret (pe_dget hu (pe_fld (pv 1) rfl) (pv 2) (fun _ _ => rfl)))))), ?_⟩
    refine ⟨Nat.zero_le _, fun t0 ht0 => ?_⟩
    have s0 : ∀ b o, H b = some o → (upd H t0 (.tup [])) b = some o := fun b o z => by rw [upd_ne (ne_of_none z ht0)]; exact z
    refine ⟨fun m σ H' => ∃ tk wd u', m = u'.length ∧ σ = [some (.ref r), some (.ref tb), some (.ref tk)] ∧ H' tk = some (.tup (wd.map V.int)) ∧ RdAt CR K H' r ns u' ∧ But r H H' ∧ greedy S wd u' = greedy S [] u ∧ wd.length ≤ 100,
      ⟨_, t0, [], u, rfl, rfl, upd_same, hR.keep (r' := r) s0, But.of s0, rfl, by simp⟩, ?_⟩
    rintro m σ H1 ⟨tk, wd, u', rfl, rfl, htk, hR1, hb1, hg, hwl⟩
    obtain ⟨dr, ar, pr, er, _⟩ := id hR
    have hT1 := hT.but hb1 er hne
    obtain ⟨dx1, a1, p1, e1, _⟩ := id hR1
    obtain ⟨dxT, bb, mm, Bd, Md, eT, eB, eM, hBd, hMd⟩ := id hT1
    refine ⟨_, rfl, _, rfl, r, dx1, _, rfl, e1, rfl, r, ns, u', rfl, hR1, (by show 1 ≤ sizeLine; decide), fun q hq => ?_⟩
    have s2 : ∀ b o, H1 b = some o → (upd H1 q (.tup [.int (u'.headD 256)])) b = some o := fun b o z => by rw [upd_ne (ne_of_none z hq)]; exact z
    refine ⟨tk, q, wd.map V.int, .int (u'.headD 256), rfl, rfl, s2 _ _ htk, upd_same, by rw [List.length_map]; omega, fun n H2 hn s3 => ?_⟩
    have s4 : ∀ b o, H1 b = some o → H2 b = some o := fun b o z => s3 _ _ (s2 b o z)
    have ek : (wd.map V.int ++ [V.int (u'.headD 256)]) = (kI (wd ++ [u'.headD 256])).map kV := by rw [kI_ints, List.map_append]; rfl
    rw [ek] at hn
    refine ⟨_, rfl, tb, CS, dxT, _, _, rfl, s4 _ _ eT, T.cS, T.nb, rfl, bb, _, rfl, DGet.t (s4 _ _ eB) hn, _, rfl, ?_⟩
    rw [hBd _ (by simp)]
    refine ite2 (fun h1 => ?_) fun h1 => ?_
    · -- a turn
      have hne' : u' ≠ [] := fun z => by
        rw [z] at h1
        rw [show (wd ++ [([] : List Int).headD 256]) = wd ++ [256] from rfl, no_end hB] at h1
        cases h1
      obtain ⟨x, z, rfl⟩ : ∃ x z, u' = x :: z := by
        cases u' with
        | nil => exact absurd rfl hne'
        | cons x z => exact ⟨x, z, rfl⟩
      refine ⟨fun σ' H' => ∃ tk wd u', u'.length = z.length ∧ σ' = [some (.ref r), some (.ref tb), some (.ref tk)] ∧ H' tk = some (.tup (wd.map V.int)) ∧ RdAt CR K H' r ns u' ∧ But r H H' ∧ greedy S wd u' = greedy S [] u ∧ wd.length ≤ 100,
        fun σ' H' ⟨tk, wd, u2, hl, z1, z2, z3, z4, z5, z6⟩ => ⟨u2.length, by rw [hl, List.length_cons]; omega, tk, wd, u2, rfl, z1, z2, z3, z4, z5, z6⟩, ?_⟩
      have hR2 := hR1.keep (r' := r) s4
      refine ⟨_, rfl, _, rfl, r, dx1, _, rfl, s4 _ _ e1, rfl, r, ns, _, rfl, hR2, (by show 1 ≤ sizeLine; decide), fun q2 hq2 => ?_⟩
      have s5 : ∀ b o, H2 b = some o → (upd H2 q2 (.tup [.int ((x :: z).headD 256)])) b = some o := fun b o y => by rw [upd_ne (ne_of_none y hq2)]; exact y
      refine ⟨tk, q2, wd.map V.int, .int ((x :: z).headD 256), rfl, rfl, s5 _ _ (s4 _ _ htk), upd_same, by rw [List.length_map]; omega, fun n2 H3 hn2 s6 => ?_⟩
      have s7 : ∀ b o, H1 b = some o → H3 b = some o := fun b o y => s6 _ _ (s5 _ _ (s4 b o y))
      obtain ⟨dx3, a3, p3, e3, hR3⟩ := RdAt.step (hR1.keep (r' := r) s7)
      refine ⟨_, rfl, r, CR, dx3, _, _, rfl, e3, T.cR, T.np, rfl, _, _, rfl, rfl, dx3, _, e3, (by show 2 < 1000; decide), ?_⟩
      have ep : (((p3 : Nat) : Int) + 1) = ((p3 + 1 : Nat) : Int) := by omega
      rw [ep, rf_put]
      refine ⟨n2, wd ++ [x], z, rfl, rfl, ?_, hR3, (hb1.trans (But.of s7)).trans But.upd, ?_, ?_⟩
      · rw [upd_ne (ne_of hn2 e3 (by intro y; cases y)), hn2, List.map_append]
        rfl
      · rw [← hg]
        show _ = (if isBeg S (wd ++ [x]) = true then greedy S (wd ++ [x]) z else (wd, x :: z))
        rw [if_pos (show isBeg S (wd ++ [x]) = true from h1)]
      · exact beg_small hsl h1
    · -- behind the loop
      have hgr : greedy S [] u = (wd, u') := by
        rw [← hg]
        cases u' with
        | nil => rfl
        | cons x z =>
          show (if isBeg S (wd ++ [x]) = true then greedy S (wd ++ [x]) z else (wd, x :: z)) = _
          rw [if_neg (show ¬ isBeg S (wd ++ [x]) = true from h1)]
      have eTk : takeS S u = (lookS S wd).map fun a => (a, u') := by
        unfold takeS
        rw [hgr]
      have hwt : H2 tk = some (.tup ((kI wd).map kV)) := by rw [kI_ints]; exact s4 _ _ htk
      refine ⟨_, rfl, _, rfl, tb, CS, dxT, _, _, rfl, s4 _ _ eT, T.cS, T.nm, rfl, mm, _, rfl, DGet.t (s4 _ _ eM) hwt, _, rfl, ?_⟩
      rw [hMd]
      cases hl : lookS S wd with
      | none =>
        rw [hl] at eTk
        refine raise_of (D := ⟨fun _ _ => True, fun _ _ => True, fun _ _ => True, fun _ _ => True⟩) c.cls ?_ fun Q Q' m h => ?_
        · exact ⟨_, rfl, r, CR, dx1, _, _, rfl, s4 _ _ e1, T.cR, T.np, rfl, _, ⟨_, rfl, rfl⟩, k2 eTk _⟩
        · obtain ⟨v, e1, a', C', dx', fs', v', e2, e3, e4, e5, e6, h⟩ := h
          exact ⟨v, e1, a', C', dx', fs', v', e2, e3, e4, e5, e6, m _ _ h⟩
      | some v =>
        rw [hl] at eTk
        refine ⟨_, rfl, tb, CS, dxT, _, _, rfl, s4 _ _ eT, T.cS, T.nm, rfl, _, rfl, mm, v, rfl, ?_, k1 v u' eTk H2 (hR1.keep (r' := r) s4) (hb1.trans (But.of s4))⟩
        have g := DGet.t (s4 _ _ eM) hwt
        rw [hMd, hl] at g
        exact g
end
end Lu
set_option Elab.async false
set_option linter.all false
set_option maxRecDepth 100000
set_option maxHeartbeats 4000000
namespace Lu
open PySem PySem.Spec PyProof.Rows L2 LX
open PySem.W (Frag findIn specialIn instIn typeIn keepIn readsIn findCls isFn)
section
variable {P : Program} {w : World} {K : Frag} {mg : Str → Option Value} {base : Heap}
noncomputable abbrev SgR {α : Type} (R : α → V → Prop) (S : List (List Int × α)) (Sv : List (List Int × V)) : Prop := Paired (fun a b => a.1 = b.1 ∧ R a.2 b.2) S Sv
theorem sg_beg {α : Type} {R : α → V → Prop} : ∀ {S : List (List Int × α)} {Sv : List (List Int × V)}, SgR R S Sv → ∀ w, isBeg Sv w = isBeg S w
  | _, _, .nil, _ => rfl
  | _, _, .cons r t, w => by
    unfold isBeg
    rw [List.any_cons, List.any_cons, ← r.1]
    exact congrArg _ (sg_beg t w)
theorem sg_greedy {α : Type} {R : α → V → Prop} {S : List (List Int × α)} {Sv : List (List Int × V)} (h : SgR R S Sv) : ∀ (u w : List Int), greedy Sv w u = greedy S w u
  | [], _ => rfl
  | c :: r, w => by
    show (if isBeg Sv (w ++ [c]) = true then greedy Sv (w ++ [c]) r else (w, c :: r)) = if isBeg S (w ++ [c]) = true then greedy S (w ++ [c]) r else (w, c :: r)
    rw [sg_beg h, sg_greedy h r]
noncomputable def OptR {α : Type} (R : α → V → Prop) : Option α → Option V → Prop
  | some a, some v => R a v
  | none, none => True
  | _, _ => False
theorem sg_fold {α : Type} {R : α → V → Prop} {w : List Int} : ∀ {S : List (List Int × α)} {Sv : List (List Int × V)} {a : Option α} {v : Option V}, SgR R S Sv → OptR R a v →
    OptR R (S.foldl (fun acc s => if s.1 = w then some s.2 else acc) a) (Sv.foldl (fun acc s => if s.1 = w then some s.2 else acc) v)
  | _, _, _, _, .nil, h => h
  | x :: S, y :: Sv, a, v, .cons r t, h => by
    rw [List.foldl_cons, List.foldl_cons]
    refine sg_fold t ?_
    rw [← r.1]
    by_cases e : x.1 = w
    · rw [if_pos e, if_pos e]; exact r.2
    · rw [if_neg e, if_neg e]; exact h
theorem sg_take {α : Type} {R : α → V → Prop} {S : List (List Int × α)} {Sv : List (List Int × V)} (h : SgR R S Sv) (u : List Int) :
    (∀ v u', takeS Sv u = some (v, u') → ∃ a, takeS S u = some (a, u') ∧ R a v) ∧ (takeS Sv u = none → takeS S u = none) := by
  have hl : OptR R (lookS S (greedy S [] u).1) (lookS Sv (greedy S [] u).1) := sg_fold h trivial
  unfold takeS
  rw [sg_greedy h u []]
  cases e1 : lookS S (greedy S [] u).1 with
  | none =>
    cases e2 : lookS Sv (greedy S [] u).1 with
    | none => exact ⟨fun v u' z => (nomatch z), fun _ => rfl⟩
    | some v => rw [e1, e2] at hl; exact hl.elim
  | some a =>
    cases e2 : lookS Sv (greedy S [] u).1 with
    | none => rw [e1, e2] at hl; exact hl.elim
    | some v =>
      rw [e1, e2] at hl
      refine ⟨fun v' u' z => ?_, fun z => (nomatch z)⟩
      have z' : (v, (greedy S [] u).2) = (v', u') := Option.some.inj z
      injection z' with z1 z2
      subst z1 z2
      exact ⟨a, rfl, hl⟩
theorem sg_bytes {α : Type} {R : α → V → Prop} : ∀ {S : List (List Int × α)} {Sv : List (List Int × V)}, SgR R S Sv → (∀ s ∈ S, ∀ c ∈ s.1, c ≠ 256) → (∀ s ∈ S, s.1.length ≤ 100) → Bytes Sv ∧ ∀ s ∈ Sv, s.1.length ≤ 100
  | _, _, .nil, _, _ => ⟨fun s h => (nomatch h), fun s h => (nomatch h)⟩
  | x :: S, y :: Sv, .cons r t, h1, h2 => by
    obtain ⟨i1, i2⟩ := sg_bytes t (fun s h => h1 s (List.mem_cons_of_mem _ h)) fun s h => h2 s (List.mem_cons_of_mem _ h)
    refine ⟨fun s h => ?_, fun s h => ?_⟩
    · rcases List.mem_cons.mp h with rfl | h
      · rw [← r.1]; exact h1 x List.mem_cons_self
      · exact i1 s h
    · rcases List.mem_cons.mp h with rfl | h
      · rw [← r.1]; exact h2 x List.mem_cons_self
      · exact i2 s h
noncomputable def GoodS {α : Type} (S : List (List Int × α)) : Prop := (∀ s ∈ S, ∀ c ∈ s.1, c ≠ 256) ∧ ∀ s ∈ S, s.1.length ≤ 100
theorem tab_ne {CS CR r tb : Addr} {H : Hp} {S : List (List Int × V)} {ns u : List Int} (h : Tab CS H tb S) (hR : RdAt CR K H r ns u) : tb ≠ r := by
  obtain ⟨dx, b, m, B, M, e1, _⟩ := h
  obtain ⟨dr, a, p, e2, _⟩ := hR
  refine ne_of e1 e2 fun z => ?_
  injection z with _ _ z
  have z1 : (("beginnings" : Str), V.ref b) = (("t" : Str), V.ref a) := (List.cons.inj z).1
  have z2 : ("beginnings" : Str) = ("t" : Str) := (Prod.mk.inj z1).1
  exact absurd z2 (by decide +kernel)
theorem sign_of {α : Type} {CR CS NP r tb : Addr} {H : Hp} {ns u : List Int} {S : List (List Int × α)} {R : α → V → Prop} {Sv : List (List Int × V)} {Q : VK} {E : XK} (hR : RdAt CR K H r ns u) (hT : Tab CS H tb Sv) (hS : SgR R S Sv) (hG : GoodS S) (hu : u.length ≤ 100000)
    (k1 : ∀ a u' v, takeS S u = some (a, u') → R a v → ∀ H', RdAt CR K H' r ns u' → But r H H' → Q v H') (k2 : takeS S u = none → Fault E NP) : sp_take_sign CR CS NP K [.ref r, .ref tb] H Q E := by
  obtain ⟨b1, b2⟩ := sg_bytes hS hG.1 hG.2
  refine ⟨r, ns, u, tb, Sv, rfl, hR, tab_ne hT hR, hT, b1, hu, b2, fun v u' e H' h1 h2 => ?_, fun e => k2 ((sg_take hS u).2 e)⟩
  obtain ⟨a, e1, e2⟩ := (sg_take hS u).1 v u' e
  exact k1 a u' v e1 e2 H' h1 h2
noncomputable def ff (k : Nat) (l f s : Addr) : List (Str × V) := [(("kind" : Str), V.int (k : Int)), (("lengths" : Str), V.ref l), (("frets" : Str), V.ref f), (("stops" : Str), V.ref s)]
noncomputable def RInt (n : Int) (v : V) : Prop := v = .int n
noncomputable def RFret (o : Option Int) (v : V) : Prop := match o with | some x => v = .int x | none => v = .non
noncomputable def RStop (H : Hp) (s : StopI) (v : V) : Prop := ∃ q, v = .ref q ∧ H q = some (.tup [.int s.1, .int s.2])
noncomputable def FormAt (CF CS : Addr) (H : Hp) (fm : Addr) (k : Nat) : Prop := k ≤ 2 ∧ ∃ (dx l f s : Addr) (Lv Fv Sv : List (List Int × V)), H fm = some (.ins CF dx (ff k l f s)) ∧ Tab CS H l Lv ∧ SgR RInt lengthS Lv ∧ Tab CS H f Fv ∧ SgR RFret (rowS k) Fv ∧ Tab CS H s Sv ∧ SgR (RStop H) (stopS k) Sv
theorem sg_mono {α : Type} {R R' : α → V → Prop} (m : ∀ a v, R a v → R' a v) : ∀ {S : List (List Int × α)} {Sv : List (List Int × V)}, SgR R S Sv → SgR R' S Sv
  | _, _, .nil => .nil
  | _, _, .cons r t => .cons ⟨r.1, m _ _ r.2⟩ (sg_mono m t)
theorem form_ne {CF CR r fm : Addr} {H : Hp} {ns u : List Int} {dx l f s : Addr} {k : Nat} (h : H fm = some (.ins CF dx (ff k l f s))) (hR : RdAt CR K H r ns u) : fm ≠ r := by
  obtain ⟨dr, a, p, e2, _⟩ := hR
  refine ne_of h e2 fun z => ?_
  injection z with _ _ z
  have z1 : (("kind" : Str), V.int (k : Int)) = (("t" : Str), V.ref a) := (List.cons.inj z).1
  have z2 : ("kind" : Str) = ("t" : Str) := (Prod.mk.inj z1).1
  exact absurd z2 (by decide +kernel)
theorem FormAt.but {CF CS CR r fm : Addr} {H H' : Hp} {k : Nat} {ns u : List Int} (h : FormAt CF CS H fm k) (b : But r H H') (hR : RdAt CR K H r ns u) : FormAt CF CS H' fm k := by
  obtain ⟨hk, dx, l, f, s, Lv, Fv, Sv, e, t1, g1, t2, g2, t3, g3⟩ := h
  have n0 := form_ne e hR
  have n1 := tab_ne t1 hR
  have n2 := tab_ne t2 hR
  have n3 := tab_ne t3 hR
  obtain ⟨dr, ar, pr, er, _⟩ := id hR
  refine ⟨hk, dx, l, f, s, Lv, Fv, Sv, b _ _ n0 e, t1.but b er n1, g1, t2.but b er n2, g2, t3.but b er n3, sg_mono (fun a v ⟨q, e1, e2⟩ => ⟨q, e1, b _ _ (ne_of e2 er (by intro z; cases z)) e2⟩) g3⟩
theorem good_length : GoodS lengthS := by unfold GoodS; decide +kernel
theorem good_row : ∀ k : Nat, k ≤ 2 → GoodS (rowS k)
  | 0, _ => by unfold GoodS; decide +kernel
  | 1, _ => by unfold GoodS; decide +kernel
  | 2, _ => by unfold GoodS; decide +kernel
  | k + 3, h => by omega
theorem good_stop : ∀ k : Nat, k ≤ 2 → GoodS (stopS k)
  | 0, _ => by unfold GoodS; decide +kernel
  | 1, _ => by unfold GoodS; decide +kernel
  | 2, _ => by unfold GoodS; decide +kernel
  | k + 3, h => by omega
noncomputable def sp_read_length (CR CS CF NP : Addr) (K : Frag) : Sp := fun vs H Q E => ∃ (r : Addr) (ns u : List Int) (fm : Addr) (k : Nat) (bf : Int), vs = [.ref r, .ref fm, .int bf] ∧ RdAt CR K H r ns u ∧ FormAt CF CS H fm k ∧ u.length ≤ 100000 ∧
  (∀ n u', mLength bf u = some (n, u') → ∀ H', RdAt CR K H' r ns u' → But r H H' → Q (.int n) H') ∧ (mLength bf u = none → Fault E NP)
theorem ok_read_length {CR CS CF CP R NP : Addr} {f : Addr} {fd : FuncData} (F : Fun K "read_length" "read_length" s_read_length f fd) (T : TxR K mg CR CS CF CP) (c : XC K mg R NP "NoPiece") (GP : HasMeth P w K mg base 1 CR "peek" ["self"] (sp_peek CR K))
    (GT : HasMeth P w K mg base 4 CR "take" ["self", "byte"] (sp_take CR NP K)) (GS : HasMeth P w K mg base 4 CR "take_sign" ["self", "table"] (sp_take_sign CR CS NP K)) (GN : HasMkX P w K mg base 2 NP "NoPiece" ["self", "place"] (InitX K NP okPl)) :
    FnOk P w K mg base (CX1 P w) 5 f fd ["reader", "form", "before"] (sp_read_length CR CS CF NP K) := by
  refine FunX F sc_read_length (fun vs H Q E h => ?_) (fun cdv A outer s H vs Q E hr h => ?_)
  · obtain ⟨r, ns, u, fm, k, bf, rfl, _⟩ := h
    rfl
  · obtain ⟨r, ns, u, fm, k, bf, rfl, hR, hF, hul, k1, k2⟩ := h
    have hr1 : Room 1 _ := hr.mono (by decide)
    have hr3 : Room 3 _ := hr.mono (by decide)
    refine ⟨_, pss_cons (ps_set (i := 3) sc_read_length.nd rfl (Or.inl rfl) (pe_fld (pv 0) rfl))
      (pss_cons (ps_if (PW.pt (pw_and (pt_cmpR op_eq (pe_me0 T.cR GP hr1 passX (pv 0)) (pe_gI T.blank rfl) (nomark _)) (pw_and1 (pt_cmpR op_gt (pv 2) pe_int (nomark _)))))
        (pss_cons (ps_expr (pe_me T.cR GT hr passX (pv 0) (pa_cons (pe_gI T.blank rfl) pa_nil))) (pss_one (ps_ret (pv 2)))) pss_nil)
      (pss_cons (ps_set (i := 4) sc_read_length.nd rfl (Or.inl rfl) (pe_me T.cR GS hr passX (pv 0) (pa_cons (pe_fld (pv 1) rfl) pa_nil)))
      (pss_cons (ps_expr (pe_me T.cR GT hr passX (pv 0) (pa_cons (pe_gI T.blank rfl) pa_nil)))
      (pss_cons (ps_if (pt_cmpR op_eq (pv 4) (pv 2) (nomark _)) (pss_one (ps_raise rfl leavesX (pe_mkX GN hr3 rfl passX (pa_cons (pv 3) pa_nil)))) pss_nil)
      (pss_one (ps_ret (pv 4))))))), ?_⟩
    obtain ⟨dx, a, p, e, hs, hp, hu⟩ := id hR
    obtain ⟨hk, dF, l, ft, st, Lv, Fv, Sv, eF, t1, g1, t2, g2, t3, g3⟩ := id hF
    have rest : ¬ (u.headD 256 = 32 ∧ 0 < bf) → ∀ D : Ends, D.rt = Q → tSeq (tAsg (tMeth CR "take_sign" (sp_take_sign CR CS NP K) [] E (tVar 0) (tCons (tFld K (tVar 1) "lengths") tNil)) (gName 4))
        (tSeq (tDrop (tMeth CR "take" (sp_take CR NP K) [] E (tVar 0) (tCons (tC (.int 32)) tNil))) (tSeq (tIfS (tTest (tOp rEq (tVar 4) (tVar 2))) (tRaise K s.heap.objs.size (tMakeX s.heap.objs.size NP (InitX K NP okPl) [] E (tCons (tVar 3) tNil)) E) tNext) (tRet (tVar 4))))
        D [some (.ref r), some (.ref fm), some (.int bf), some (.int p), none] H := fun hc D hD => by
      have em : mLength bf u = (match takeS lengthS u with | none => none | some (n, r) => match mTake 32 r with | none => none | some z => if n = bf then none else some (n, z)) := by
        unfold mLength
        rw [if_neg hc]
        all_goals rfl
      refine ⟨_, rfl, r, dx, _, rfl, e, rfl, _, rfl, fm, CF, dF, _, _, rfl, eF, T.cF, T.nl, rfl, ?_⟩
      refine sign_of hR t1 g1 good_length hul (fun n u1 v eS rv H1 hR1 hb1 => ?_) fun eS => k2 (by rw [em, eS])
      cases (show v = V.int n from rv)
      obtain ⟨dx1, a1, p1, e1, _⟩ := id hR1
      refine ⟨_, rfl, r, dx1, _, rfl, e1, rfl, r, ns, u1, 32, rfl, hR1, by decide, fun u2 eT H2 hR2 hb2 => ?_, fun eT => k2 (by rw [em, eS]; show (match mTake 32 u1 with | none => none | some z => if n = bf then none else some (n, z)) = none; rw [eT])⟩
      have em2 : mLength bf u = if n = bf then none else some (n, u2) := by
        rw [em, eS]
        show (match mTake 32 u1 with | none => none | some z => if n = bf then none else some (n, z)) = _
        rw [eT]
      refine ⟨_, rfl, _, rfl, rfl, _, rfl, ?_⟩
      refine ite2 (fun h1 => ?_) fun h1 => ?_
      · have en : n = bf := by simpa using h1
        refine raise_of c.cls ?_ fun Q Q' m h => ?_
        · exact ⟨_, rfl, _, ⟨_, rfl, rfl⟩, k2 (by rw [em2, if_pos en]) _⟩
        · obtain ⟨v, e1, h⟩ := h
          exact ⟨v, e1, m _ _ h⟩
      · have en : ¬ n = bf := by simpa using h1
        refine ⟨_, rfl, ?_⟩
        rw [hD]
        exact k1 n u2 (by rw [em2, if_neg en]) H2 hR2 (hb1.trans hb2)
    refine ⟨_, rfl, r, CR, dx, _, _, rfl, e, T.cR, T.np, rfl, ?_⟩
    refine ⟨_, rfl, r, dx, _, rfl, e, rfl, r, ns, u, rfl, hR, rfl, _, rfl, ?_⟩
    refine ite2 (fun h1 => ?_) fun h1 => ?_
    · have h32 : u.headD 256 = 32 := by simpa using h1
      refine ⟨_, rfl, _, _, rfl, rfl, _, rfl, ?_⟩
      refine ite2 (fun h2 => ?_) fun h2 => ?_
      · have hb0 : 0 < bf := by simpa using h2
        have em : mLength bf u = some (bf, u.tail) := by
          unfold mLength
          rw [if_pos ⟨h32, hb0⟩]
        refine ⟨_, rfl, r, dx, _, rfl, e, rfl, r, ns, u, 32, rfl, hR, by decide, fun u2 eT H2 hR2 hb2 => ?_, fun eT => ?_⟩
        · rw [mTake_some (by decide) h32] at eT
          cases eT
          exact ⟨_, rfl, k1 bf _ em H2 hR2 hb2⟩
        · rw [mTake_some (by decide) h32] at eT
          cases eT
      · have hb0 : ¬ 0 < bf := by simpa using h2
        exact rest (fun z => hb0 z.2) _ rfl
    · have h32 : ¬ u.headD 256 = 32 := by simpa using h1
      exact iteF (rest (fun z => h32 z.1) _ rfl)
end
end Lu
set_option Elab.async false
set_option linter.all false
set_option maxRecDepth 100000
set_option maxHeartbeats 4000000
namespace Lu
open PySem PySem.Spec PyProof.Rows L2 LX
open PySem.W (Frag findIn specialIn instIn typeIn keepIn readsIn findCls isFn)
structure TxQ (K : Frag) (mg : Str → Option Value) : Prop where
  rows : ∃ a c0 c1 c2, mg "ROW_COURSES" = some (.ref a) ∧ TupC K a [.ref c0, .ref c1, .ref c2] ∧ TupC K c0 [.int 1, .int 2, .int 3, .int 4, .int 5, .int 6] ∧ TupC K c1 [.int 6, .int 5, .int 4, .int 3, .int 2, .int 1] ∧ TupC K c2 []
  nsorted : mg "sorted" = none
  nlist : mg "list" = none
section
variable {P : Program} {w : World} {K : Frag} {mg : Str → Option Value} {base : Heap}
noncomputable abbrev Stops (H : Hp) (ss : List StopI) (vs : List V) : Prop := Paired (RStop H) ss vs
noncomputable def StL (H : Hp) (l : Addr) (ss : List StopI) : Prop := ∃ vs, H l = some (.lst vs) ∧ Stops H ss vs
theorem RStop.but {r CR dr : Addr} {fs : List (Str × V)} {H H' : Hp} {s : StopI} {v : V} (b : But r H H') (er : H r = some (.ins CR dr fs)) (h : RStop H s v) : RStop H' s v := by
  obtain ⟨q, e1, e2⟩ := h
  exact ⟨q, e1, b _ _ (ne_of e2 er (by intro z; cases z)) e2⟩
theorem Stops.mono {H H' : Hp} (m : ∀ s v, RStop H s v → RStop H' s v) : ∀ {ss : List StopI} {vs : List V}, Stops H ss vs → Stops H' ss vs
  | _, _, .nil => .nil
  | _, _, .cons r t => .cons (m _ _ r) (Stops.mono m t)
theorem Stops.snoc {H : Hp} {s : StopI} {v : V} (h : RStop H s v) : ∀ {ss : List StopI} {vs : List V}, Stops H ss vs → Stops H (ss ++ [s]) (vs ++ [v])
  | _, _, .nil => .cons h .nil
  | _, _, .cons r t => .cons r (Stops.snoc h t)
theorem Stops.len {H : Hp} : ∀ {ss : List StopI} {vs : List V}, Stops H ss vs → ss.length = vs.length
  | _, _, .nil => rfl
  | _, _, .cons r t => by rw [List.length_cons, List.length_cons, Stops.len t]
theorem Stops.ps {H : Hp} : ∀ {ss : List StopI} {vs : List V}, Stops H ss vs → ∃ ps : List (Addr × Int × Int), vs = (ps.map fun p => V.ref p.1) ∧ ss = ps.map (·.2) ∧ ∀ p ∈ ps, H p.1 = some (.tup [.int p.2.1, .int p.2.2])
  | _, _, .nil => ⟨[], rfl, rfl, fun p h => (nomatch h)⟩
  | s :: ss, v :: vs, .cons ⟨q, e1, e2⟩ t => by
    obtain ⟨ps, h1, h2, h3⟩ := Stops.ps t
    refine ⟨(q, s) :: ps, by rw [e1, h1]; rfl, by rw [h2]; rfl, fun p hp => ?_⟩
    rcases List.mem_cons.mp hp with rfl | hp
    · exact e2
    · exact h3 p hp
theorem ps_stops {H : Hp} : ∀ {ps : List (Addr × Int × Int)}, (∀ p ∈ ps, H p.1 = some (.tup [.int p.2.1, .int p.2.2])) → Stops H (ps.map (·.2)) (ps.map fun p => V.ref p.1)
  | [], _ => .nil
  | p :: ps, h => .cons ⟨p.1, rfl, h p List.mem_cons_self⟩ (ps_stops fun q hq => h q (List.mem_cons_of_mem _ hq))
theorem But.fresh {r l : Addr} {H H' : Hp} (b : But r H H') (h : H' l = none) (hr : H' r ≠ none) : H l = none := by
  cases e : H l with
  | none => rfl
  | some o =>
    by_cases q : l = r
    · rw [q] at h; exact absurd h hr
    · rw [b l o q e] at h; cases h
theorem rd_there {C r : Addr} {H : Hp} {ns u : List Int} (h : RdAt C K H r ns u) : H r ≠ none := by
  obtain ⟨dx, a, p, e, _⟩ := h
  rw [e]
  exact fun z => nomatch z
theorem But.new {r l : Addr} {H H' : Hp} {o : HO} (b : But r H H') (hl : H l = none) : But r H (L2.upd H' l o) := fun c u n z => by
  rw [upd_ne (ne_of_none z hl)]
  exact b c u n z
theorem sorted_one {f : Addr × Int × Int → Int} : ∀ {l m : List (Addr × Int × Int)}, m.Perm l → m.Pairwise (fun x y => f x ≤ f y) → l.Pairwise (fun x y => f x < f y) → m = l
  | [], m, h, _, _ => h.eq_nil
  | a :: l, m, h, hm, hl => by
    cases m with
    | nil => exact absurd h.symm.eq_nil (by simp)
    | cons b m =>
      have hb : b ∈ a :: l := h.mem_iff.mp List.mem_cons_self
      have ha : a ∈ b :: m := h.mem_iff.mpr List.mem_cons_self
      have e : b = a := by
        rcases List.mem_cons.mp hb with q | q
        · exact q
        · have h1 := (List.pairwise_cons.mp hl).1 b q
          rcases List.mem_cons.mp ha with q2 | q2
          · exact q2.symm
          · have h2 := (List.pairwise_cons.mp hm).1 a q2
            omega
      subst e
      rw [sorted_one (h.cons_inv) (List.pairwise_cons.mp hm).2 (List.pairwise_cons.mp hl).2]
theorem mRow_inc {S : List (List Int × Option Int)} : ∀ {cs : List Int} {u : List Int} {l : List StopI} {z : List Int}, mRow S cs u = some (l, z) → ∀ s ∈ l, s.1 ∈ cs
  | [], u, l, z, h => by
    have e : ([], u) = (l, z) := Option.some.inj h
    injection e with e1 _
    subst e1
    exact fun s h => nomatch h
  | c :: cs, u, l, z, h => by
    unfold mRow at h
    cases e1 : takeS S u with
    | none => rw [e1] at h; cases h
    | some p =>
      obtain ⟨f, r⟩ := p
      rw [e1] at h
      dsimp only at h
      cases e2 : mRow S cs r with
      | none => rw [e2] at h; cases h
      | some q =>
        obtain ⟨l', z'⟩ := q
        rw [e2] at h
        have ih := mRow_inc e2
        cases f with
        | none =>
          have e : (l', z') = (l, z) := Option.some.inj h
          injection e with e3 _
          subst e3
          exact fun s hs => List.mem_cons_of_mem _ (ih s hs)
        | some x =>
          have e : ((c, x) :: l', z') = (l, z) := Option.some.inj h
          injection e with e3 _
          subst e3
          intro s hs
          rcases List.mem_cons.mp hs with rfl | hs
          · exact List.mem_cons_self
          · exact List.mem_cons_of_mem _ (ih s hs)
theorem mRow_pair {R : Int → Int → Prop} {S : List (List Int × Option Int)} : ∀ {cs : List Int} {u : List Int} {l : List StopI} {z : List Int}, cs.Pairwise R → mRow S cs u = some (l, z) → l.Pairwise (fun x y => R x.1 y.1)
  | [], u, l, z, _, h => by
    have e : ([], u) = (l, z) := Option.some.inj h
    injection e with e1 _
    subst e1
    exact .nil
  | c :: cs, u, l, z, hc, h => by
    unfold mRow at h
    cases e1 : takeS S u with
    | none => rw [e1] at h; cases h
    | some p =>
      obtain ⟨f, r⟩ := p
      rw [e1] at h
      dsimp only at h
      cases e2 : mRow S cs r with
      | none => rw [e2] at h; cases h
      | some q =>
        obtain ⟨l', z'⟩ := q
        rw [e2] at h
        have ih := mRow_pair (List.pairwise_cons.mp hc).2 e2
        have im := mRow_inc e2
        cases f with
        | none =>
          have e : (l', z') = (l, z) := Option.some.inj h
          injection e with e3 _
          subst e3
          exact ih
        | some x =>
          have e : ((c, x) :: l', z') = (l, z) := Option.some.inj h
          injection e with e3 _
          subst e3
          exact List.pairwise_cons.mpr ⟨fun s hs => (List.pairwise_cons.mp hc).1 _ (im s hs), ih⟩
theorem byC_eq {k : Nat} (hk : k ≤ 1) {S : List (List Int × Option Int)} {u : List Int} {l : List StopI} {z : List Int} (h : mRow S (rowC k) u = some (l, z)) : (byC k l).Perm l ∧ (byC k l).Pairwise (fun x y => x.1 < y.1) := by
  have k01 : k = 0 ∨ k = 1 := by omega
  rcases k01 with rfl | rfl
  · exact ⟨.refl _, mRow_pair (R := (· < ·)) (by decide +kernel) h⟩
  · refine ⟨List.reverse_perm l, ?_⟩
    show l.reverse.Pairwise _
    rw [List.pairwise_reverse]
    exact mRow_pair (R := fun a b => b < a) (by decide +kernel) h
noncomputable def sp_read_row (CR CS CF NP : Addr) (K : Frag) : Sp := fun vs H Q E => ∃ (r : Addr) (ns u : List Int) (fm : Addr) (k : Nat), vs = [.ref r, .ref fm] ∧ k ≤ 1 ∧ RdAt CR K H r ns u ∧ FormAt CF CS H fm k ∧ ns.length ≤ 100000 ∧
  (∀ l u', mRow (rowS k) (rowC k) u = some (l, u') → ∀ q H', H q = none → StL H' q (byC k l) → RdAt CR K H' r ns u' → But r H H' → Q (.ref q) H') ∧ (mRow (rowS k) (rowC k) u = none → Fault E NP)
theorem rd_len {C r : Addr} {H : Hp} {ns u : List Int} (h : RdAt C K H r ns u) : u.length ≤ ns.length := by
  obtain ⟨dx, a, p, e, _, _, hu⟩ := h
  rw [← hu, List.length_drop]
  omega
theorem row_step {S : List (List Int × Option Int)} {c : Int} {cs u r : List Int} {f : Option Int} (h : takeS S u = some (f, r)) : mRow S (c :: cs) u = (mRow S cs r).map fun p => (addF c f p.1, p.2) := by
  show (match takeS S u with | none => none | some (f, r) => match mRow S cs r with | none => none | some (l, z) => some (addF c f l, z)) = _
  rw [h]
  dsimp only
  cases mRow S cs r with
  | none => rfl
  | some p => rfl
theorem ok_read_row {CR CS CF CP R NP : Addr} {f : Addr} {fd : FuncData} (F : Fun K "read_row" "read_row" s_read_row f fd) (T : TxR K mg CR CS CF CP) (T2 : TxQ K mg) (GS : HasMeth P w K mg base 4 CR "take_sign" ["self", "table"] (sp_take_sign CR CS NP K)) :
    FnOk P w K mg base (CX1 P w) 5 f fd ["reader", "form"] (sp_read_row CR CS CF NP K) := by
  obtain ⟨aC, c0, c1, c2, mC, tC', t0, t1, t2⟩ := T2.rows
  refine FunX F sc_read_row (fun vs H Q E h => ?_) (fun cdv A outer s H vs Q E hr h => ?_)
  · obtain ⟨r, ns, u, fm, k, rfl, _⟩ := h
    rfl
  · obtain ⟨r, ns, u, fm, k, rfl, hk, hR, hF, hul, k1, k2⟩ := h
    refine ⟨_, pss_cons (ps_set (i := 2) sc_read_row.nd rfl (Or.inl rfl) (pe_lst pa_nil))
      (pss_cons (ps_for ownX rfl (pi_tup (pe_ix ix_tup (pe_gR mC rfl) (pe_fld (pv 1) rfl) (fun _ _ => rfl))) (pg_name (i := 3) sc_read_row.nd rfl (Or.inl rfl))
        (pss_cons (ps_set (i := 4) sc_read_row.nd rfl (Or.inl rfl) (pe_me T.cR GS hr passX (pv 0) (pa_cons (pe_fld (pv 1) rfl) pa_nil)))
        (pss_one (ps_if (pt_cmp (pc_notN (pv 4))) (pss_one (ps_expr (pe_bm PySem.F.plainAttrs_list PySem.F.slot_list_append PySem.F.type_list_append mt_append (pv 2) (pa_cons (pe_tup (pa_cons (pv 3) (pa_cons (pv 4) pa_nil))) pa_nil)))) pss_nil))))
      (pss_one (ps_ret (pe_callB cr_sortedT rfl T2.nsorted (by decide +kernel) (pa_cons (pv 2) pa_nil))))), ?_⟩
    refine ⟨Nat.zero_le _, fun ls hls => ?_⟩
    have s0 : ∀ b o, H b = some o → (upd H ls (.lst [])) b = some o := fun b o z => by rw [upd_ne (ne_of_none z hls)]; exact z
    obtain ⟨dF, l, ft, st, Lv, Fv, Sv, eF, t1', g1, t2', g2, t3', g3⟩ := hF.2
    obtain ⟨cA, tcA, eA⟩ : ∃ cA, TupC K cA ((rowC k).map V.int) ∧ atI ([.ref c0, .ref c1, .ref c2] : List V) (k : Int) = some (.ref cA) := by
      have k01 : k = 0 ∨ k = 1 := by omega
      rcases k01 with rfl | rfl
      · exact ⟨c0, t0, atI_nat (j := 0) rfl⟩
      · exact ⟨c1, t1, atI_nat (j := 1) rfl⟩
    refine ⟨_, rfl, fm, CF, dF, _, _, rfl, s0 _ _ eF, T.cF, T.nk, rfl, aC, _, _, _, rfl, rfl, tC' _, eA, cA, rfl, ⟨_, tcA _⟩, ?_⟩
    refine for_tup (K := K) (a := cA) (xs := (rowC k).map V.int) (fun i σ H' => ∃ (v3 v4 : Option V) (vs : List V) (acc : List StopI) (u' : List Int), σ = [some (.ref r), some (.ref fm), some (.ref ls), v3, v4] ∧ H' ls = some (.lst vs) ∧ Stops H' acc vs ∧
        RdAt CR K H' r ns u' ∧ But r H H' ∧ acc.length ≤ i ∧ mRow (rowS k) (rowC k) u = (mRow (rowS k) ((rowC k).drop i) u').map fun p => (acc ++ p.1, p.2))
      ⟨none, none, [], [], u, rfl, upd_same, .nil, hR.keep (r' := r) s0, But.of s0, Nat.le_refl _, ?_⟩ (fun i σ H' _ _ => tcA H') ?_ ?_
    · rw [List.drop_zero]
      cases mRow (rowS k) (rowC k) u with
      | none => rfl
      | some p => rfl
    · rintro i x σ H1 hx ⟨v3, v4, vs, acc, u1, rfl, hl1, hs1, hR1, hb1, hle, hm⟩
      obtain ⟨co, hco, rfl⟩ : ∃ co, (rowC k)[i]? = some co ∧ x = V.int co := by
        rw [List.getElem?_map] at hx
        cases e : (rowC k)[i]? with
        | none => rw [e] at hx; cases hx
        | some co => rw [e] at hx; exact ⟨co, rfl, (Option.some.inj hx).symm⟩
      have hil : i < (rowC k).length := (List.getElem?_eq_some_iff.mp hco).1
      have hd : (rowC k).drop i = co :: (rowC k).drop (i + 1) := by
        rw [List.drop_eq_getElem_cons hil]
        rw [List.getElem?_eq_getElem hil] at hco
        rw [Option.some.inj hco]
      have hi6 : i < 6 := by
        have k01 : k = 0 ∨ k = 1 := by omega
        rcases k01 with rfl | rfl <;> exact hil
      have hF1 := hF.but hb1 hR
      obtain ⟨_, dF1, l1, ft1, st1, Lv1, Fv1, Sv1, eF1, _, _, t21, g21, _, _⟩ := hF1
      obtain ⟨dx1, a1, p1, e1, _⟩ := id hR1
      refine ⟨_, rfl, r, dx1, _, rfl, e1, rfl, _, rfl, fm, CF, dF1, _, _, rfl, eF1, T.cF, T.nf, rfl, ?_⟩
      refine sign_of hR1 t21 g21 (good_row k (by omega)) (Nat.le_trans (rd_len hR1) hul) (fun fr u2 v eS rv H2 hR2 hb2 => ?_) fun eS => k2 ?_
      · have hb12 := hb1.trans hb2
        have hl2 : H2 ls = some (.lst vs) := hb2 _ _ (ne_of hl1 e1 (by intro z; cases z)) hl1
        have hs2 : Stops H2 acc vs := hs1.mono fun s v h => RStop.but hb2 e1 h
        have hm2 : mRow (rowS k) (rowC k) u = (mRow (rowS k) ((rowC k).drop (i + 1)) u2).map fun p => (acc ++ addF co fr p.1, p.2) := by
          rw [hm, hd, row_step eS, Option.map_map]
          rfl
        refine ⟨_, rfl, _, rfl, ?_⟩
        cases fr with
        | none =>
          cases (show v = V.non from rv)
          exact ⟨_, _, vs, acc, u2, rfl, hl2, hs2, hR2, hb12, by omega, hm2⟩
        | some x =>
          cases (show v = V.int x from rv)
          refine ⟨_, rfl, .inl ⟨rfl, _, SqL.of hl2⟩, _, rfl, _, rfl, (by show 2 ≤ sizeLine; decide), fun q hq => ?_⟩
          have s3 : ∀ b o, H2 b = some o → (upd H2 q (.tup [.int co, .int x])) b = some o := fun b o z => by rw [upd_ne (ne_of_none z hq)]; exact z
          refine ⟨ls, vs, _, rfl, rfl, s3 _ _ hl2, ?_, ?_⟩
          · rw [← hs2.len, sizeLine_eq]; omega
          · obtain ⟨dx2, a2, p2, e2, _⟩ := id hR2
            have hR3 := hR2.keep (r' := r) s3
            have hq' : H q = none := hb12.fresh hq (rd_there hR2)
            have nql : q ≠ ls := fun z => by rw [z, hl2] at hq; cases hq
            have nrl : r ≠ ls := ne_of e2 hl2 (by intro z; cases z)
            refine ⟨_, _, vs ++ [.ref q], acc ++ [(co, x)], u2, rfl, upd_same, ?_, ?_, ?_, ?_, ?_⟩
            · refine Stops.snoc ⟨q, rfl, by rw [upd_ne nql, upd_same]⟩ (hs2.mono fun s v ⟨q', e3, e4⟩ => ⟨q', e3, ?_⟩)
              rw [upd_ne (ne_of e4 hl2 (by intro z; cases z))]
              exact s3 _ _ e4
            · exact hR3.put nrl fun o' u' z => by rw [s3 _ _ hl2] at z; cases z
            · exact (hb12.trans (But.of s3)).new hls
            · rw [List.length_append, List.length_cons, List.length_nil]; omega
            · rw [hm2]
              congr 1
              funext p
              rw [List.append_assoc]
              rfl
      · rw [hm, hd]
        show (Option.map _ (match takeS (rowS k) u1 with | none => none | some (f, r) => match mRow (rowS k) ((rowC k).drop (i + 1)) r with | none => none | some (l, z) => some (addF co f l, z))) = none
        rw [eS]
        rfl
    · rintro σ H1 ⟨v3, v4, vs, acc, u1, rfl, hl1, hs1, hR1, hb1, hle, hm⟩
      rw [List.length_map, List.drop_length] at hm
      have hm' : mRow (rowS k) (rowC k) u = some (acc, u1) := by
        rw [hm]
        show some (acc ++ [], u1) = _
        rw [List.append_nil]
      obtain ⟨ps, h1, h2, h3⟩ := hs1.ps
      obtain ⟨b1, b2⟩ := byC_eq hk hm'
      refine ⟨_, rfl, ls, ps, rfl, by rw [← h1]; exact SqL.of hl1, h3, ?_, fun ps' q hp hso hq => ?_⟩
      · have := hs1.len
        rw [h2, List.length_map] at hle
        have : (rowC k).length ≤ 6 := by
          have k01 : k = 0 ∨ k = 1 := by omega
          rcases k01 with rfl | rfl <;> decide
        rw [List.length_map] at hle
        omega
      · rw [h2] at b1 b2
        obtain ⟨pc, hpc, epc⟩ := perm_map_inv b1 ps rfl
        rw [epc] at b2
        have b2' : pc.Pairwise (fun x y => x.2.1 < y.2.1) := (List.pairwise_map (f := fun x : Addr × Int × Int => x.2) (R := fun x y => x.1 < y.1)).mp b2
        have e := sorted_one (f := fun p => p.2.1) (hp.trans hpc.symm) hso b2'
        subst e
        have hq' : H q = none := hb1.fresh hq (rd_there hR1)
        have nq : ∀ b o, H1 b = some o → (upd H1 q (.lst (ps'.map fun p => V.ref p.1))) b = some o := fun b o z => by rw [upd_ne (ne_of_none z hq)]; exact z
        refine k1 acc u1 hm' q _ hq' ⟨_, upd_same, ?_⟩ (hR1.keep (r' := r) nq) (hb1.trans (But.of nq))
        rw [h2, epc]
        exact ps_stops fun p hp' => nq _ _ (h3 p (hp.mem_iff.mp hp'))
end
end Lu
set_option Elab.async false
set_option linter.all false
set_option maxRecDepth 100000
set_option maxHeartbeats 4000000
namespace Lu
open PySem PySem.Spec PyProof.Rows L2 LX
open PySem.W (Frag findIn specialIn instIn typeIn keepIn readsIn findCls isFn)
section
variable {P : Program} {w : World} {K : Frag} {mg : Str → Option Value} {base : Heap}
theorem greedy_len {α : Type} (S : List (List Int × α)) : ∀ (u w : List Int), (greedy S w u).2.length ≤ u.length
  | [], _ => Nat.le_refl _
  | c :: r, w => by
    show (if isBeg S (w ++ [c]) = true then greedy S (w ++ [c]) r else (w, c :: r)).2.length ≤ _
    split
    · exact Nat.le_trans (greedy_len S r _) (Nat.le_succ _)
    · exact Nat.le_refl _
theorem take_len {α : Type} {S : List (List Int × α)} {u r : List Int} {a : α} (h : takeS S u = some (a, r)) : r.length ≤ u.length := by
  unfold takeS at h
  cases e : lookS S (greedy S [] u).1 with
  | none => rw [e] at h; cases h
  | some x =>
    rw [e] at h
    have z : (x, (greedy S [] u).2) = (a, r) := Option.some.inj h
    injection z with _ z
    rw [← z]
    exact greedy_len S u []
noncomputable def lastLe (acc : List StopI) (st : StopI) : Bool := match acc.getLast? with
  | some l => decide (st.1 ≤ l.1)
  | none => false
theorem singles_step {S : List (List Int × StopI)} {f : Nat} {acc : List StopI} {u r : List Int} {st : StopI} (h : takeS S u = some (st, r)) :
    mSingles S (f + 1) acc u = if lastLe acc st = true then none else if r.headD 256 = 32 then mSingles S f (acc ++ [st]) r.tail else some (acc ++ [st], r) := by
  show (match takeS S u with | none => none | some (st, r) => if lastLe acc st = true then none else if r.headD 256 = 32 then mSingles S f (acc ++ [st]) r.tail else some (acc ++ [st], r)) = _
  rw [h]
theorem singles_none {S : List (List Int × StopI)} {f : Nat} {acc : List StopI} {u : List Int} (h : takeS S u = none) : mSingles S (f + 1) acc u = none := by
  show (match takeS S u with | none => none | some (st, r) => if lastLe acc st = true then none else if r.headD 256 = 32 then mSingles S f (acc ++ [st]) r.tail else some (acc ++ [st], r)) = _
  rw [h]
theorem Stops.last {H : Hp} : ∀ {ss : List StopI} {vs : List V}, Stops H ss vs → (ss = [] ∧ vs = []) ∨ ∃ si s vi v, ss = si ++ [s] ∧ vs = vi ++ [v] ∧ RStop H s v
  | _, _, .nil => .inl ⟨rfl, rfl⟩
  | s :: ss, v :: vs, .cons r t => by
    rcases Stops.last t with ⟨rfl, rfl⟩ | ⟨si, s', vi, v', rfl, rfl, h⟩
    · exact .inr ⟨[], s, [], v, rfl, rfl, r⟩
    · exact .inr ⟨s :: si, s', v :: vi, v', rfl, rfl, h⟩
noncomputable def sp_singles (CR CS CF NP : Addr) (K : Frag) : Sp := fun vs H Q E => ∃ (r : Addr) (ns u : List Int) (fm : Addr) (k : Nat) (ab : Addr) (acc : List StopI), vs = [.ref r, .ref fm, .ref ab] ∧ RdAt CR K H r ns u ∧ FormAt CF CS H fm k ∧ StL H ab acc ∧ ns.length ≤ 100000 ∧ acc.length ≤ 1000 ∧
  (∃ f, u.length ≤ f ∧ (∀ l u', mSingles (stopS k) (f + 1) acc u = some (l, u') → ∀ q H', H q = none → StL H' q l → RdAt CR K H' r ns u' → But r H H' → Q (.ref q) H') ∧ (mSingles (stopS k) (f + 1) acc u = none → Fault E NP))
theorem ok_singles {CR CS CF CP R NP : Addr} {f : Addr} {fd : FuncData} (F : Fun K "read_single_signs" "read_single_signs" s_read_single_signs f fd) (T : TxR K mg CR CS CF CP) (T2 : TxQ K mg) (c : XC K mg R NP "NoPiece") (GP : HasMeth P w K mg base 1 CR "peek" ["self"] (sp_peek CR K))
    (GT : HasMeth P w K mg base 4 CR "take" ["self", "byte"] (sp_take CR NP K)) (GS : HasMeth P w K mg base 4 CR "take_sign" ["self", "table"] (sp_take_sign CR CS NP K)) (GN : HasMkX P w K mg base 2 NP "NoPiece" ["self", "place"] (InitX K NP okPl)) :
    FnOk P w K mg base (CX1 P w) 5 f fd ["reader", "form", "above"] (sp_singles CR CS CF NP K) := by
  refine FunX F sc_read_single_signs (fun vs H Q E h => ?_) (fun cdv A outer s H vs Q E hr h => ?_)
  · obtain ⟨r, ns, u, fm, k, ab, acc, rfl, _⟩ := h
    rfl
  · obtain ⟨r, ns, u, fm, k, ab, acc0, rfl, hR, hF, ⟨vs0, hab, hs0⟩, hul, hac, f0, hf0, k1, k2⟩ := h
    have hr1 : Room 1 _ := hr.mono (by decide)
    have hr3 : Room 3 _ := hr.mono (by decide)
    refine ⟨_, pss_cons (ps_set (i := 3) sc_read_single_signs.nd rfl (Or.inl rfl) (pe_callTy call_list_of rfl T2.nlist (by decide +kernel) (pa_cons (pv 2) pa_nil)))
      (pss_one (ps_while ownX (pt_val pe_bl)
        (pss_cons (ps_set (i := 4) sc_read_single_signs.nd rfl (Or.inl rfl) (pe_fld (pv 0) rfl))
        (pss_cons (ps_set (i := 5) sc_read_single_signs.nd rfl (Or.inl rfl) (pe_me T.cR GS hr passX (pv 0) (pa_cons (pe_fld (pv 1) rfl) pa_nil)))
        (pss_cons (ps_if (PW.pt (pw_and (pt_cmpR op_gt (pe_callB call_len rfl T.nlen (by decide +kernel) (pa_cons (pv 3) pa_nil)) pe_int (nomark _)) (pw_and1 (pt_cmpR op_le (pe_ix ix_tup (pv 5) pe_int (fun _ _ => rfl)) (pe_ix ix_tup (pe_ix ix_list (pv 3) (pe_un un_neg pe_int) (fun _ _ => rfl)) pe_int (fun _ _ => rfl)) (nomark _)))))
          (pss_one (ps_raise rfl leavesX (pe_mkX GN hr3 rfl passX (pa_cons (pv 4) pa_nil)))) pss_nil)
        (pss_cons (ps_expr (pe_bm PySem.F.plainAttrs_list PySem.F.slot_list_append PySem.F.type_list_append mt_append (pv 3) (pa_cons (pv 5) pa_nil)))
        (pss_cons (ps_if (pt_cmpR op_ne (pe_me0 T.cR GP hr1 passX (pv 0)) (pe_gI T.blank rfl) (nomark _)) (pss_one (ps_ret (pv 3))) pss_nil)
        (pss_one (ps_expr (pe_me T.cR GT hr passX (pv 0) (pa_cons (pe_gI T.blank rfl) pa_nil))))))))))), ?_⟩
    refine ⟨_, rfl, ab, vs0, rfl, .inl (SqL.of hab), fun ls hls => ?_⟩
    have s0 : ∀ b o, H b = some o → (upd H ls (.lst vs0)) b = some o := fun b o z => by rw [upd_ne (ne_of_none z hls)]; exact z
    refine ⟨fun m σ H' => ∃ (v4 v5 : Option V) (vs : List V) (acc : List StopI) (u' : List Int) (f : Nat), m = u'.length ∧ σ = [some (.ref r), some (.ref fm), some (.ref ab), some (.ref ls), v4, v5] ∧ H' ls = some (.lst vs) ∧ Stops H' acc vs ∧
        RdAt CR K H' r ns u' ∧ But r H H' ∧ acc.length + u'.length ≤ 1000 + ns.length ∧ u'.length ≤ f ∧ mSingles (stopS k) (f0 + 1) acc0 u = mSingles (stopS k) (f + 1) acc u',
      ⟨_, none, none, vs0, acc0, u, f0, rfl, rfl, upd_same, hs0.mono (fun s v ⟨q, e1, e2⟩ => ⟨q, e1, s0 _ _ e2⟩), hR.keep (r' := r) s0, But.of s0, by have := rd_len hR; omega, hf0, rfl⟩, ?_⟩
    rintro m σ H1 ⟨v4, v5, vs, acc, u1, f1, rfl, rfl, hl1, hs1, hR1, hb1, hlen, hf1, hm⟩
    have hF1 := hF.but hb1 hR
    obtain ⟨hk2, dF1, l1, ft1, st1, Lv1, Fv1, Sv1, eF1, _, _, _, _, t31, g31⟩ := hF1
    obtain ⟨dx1, a1, p1, e1, _⟩ := id hR1
    refine ⟨_, rfl, ?_⟩
    refine ⟨fun σ' H' => ∃ (v4 v5 : Option V) (vs : List V) (acc : List StopI) (u' : List Int) (f : Nat), u'.length < u1.length ∧ σ' = [some (.ref r), some (.ref fm), some (.ref ab), some (.ref ls), v4, v5] ∧ H' ls = some (.lst vs) ∧ Stops H' acc vs ∧
        RdAt CR K H' r ns u' ∧ But r H H' ∧ acc.length + u'.length ≤ 1000 + ns.length ∧ u'.length ≤ f ∧ mSingles (stopS k) (f0 + 1) acc0 u = mSingles (stopS k) (f + 1) acc u',
      fun σ' H' ⟨v4, v5, vs, acc, u', f, hlt, z⟩ => ⟨u'.length, hlt, v4, v5, vs, acc, u', f, rfl, z⟩, ?_⟩
    refine ⟨_, rfl, r, CR, dx1, _, _, rfl, e1, T.cR, T.np, rfl, ?_⟩
    refine ⟨_, rfl, r, dx1, _, rfl, e1, rfl, _, rfl, fm, CF, dF1, _, _, rfl, eF1, T.cF, T.ns, rfl, ?_⟩
    refine sign_of hR1 t31 g31 (good_stop k hk2) (Nat.le_trans (rd_len hR1) hul) (fun sp u2 v eS rv H2 hR2 hb2 => ?_) fun eS => k2 (by rw [hm]; exact singles_none eS)
    have hb12 := hb1.trans hb2
    have hl2 : H2 ls = some (.lst vs) := hb2 _ _ (ne_of hl1 e1 (by intro z; cases z)) hl1
    have hs2 : Stops H2 acc vs := hs1.mono fun s v h => RStop.but hb2 e1 h
    have rv2 : RStop H2 sp v := RStop.but hb2 e1 rv
    have hlu : u2.length ≤ u1.length := take_len eS
    have hm2 := hm.trans (singles_step (f := f1) (acc := acc) eS)
    obtain ⟨dx2, a2, p2, e2, _⟩ := id hR2
    obtain ⟨qv, rfl, eqv⟩ := id rv2
    have nrl : r ≠ ls := ne_of e2 hl2 (by intro z; cases z)
    have hvl : vs.length ≤ 200000 := by rw [← hs2.len]; omega
    have go : lastLe acc sp = false → ∀ D : Ends, D.rt = Q → (D.nx = fun σ' H' => ∃ (v4 v5 : Option V) (vs : List V) (acc : List StopI) (u' : List Int) (f : Nat), u'.length < u1.length ∧ σ' = [some (.ref r), some (.ref fm), some (.ref ab), some (.ref ls), v4, v5] ∧ H' ls = some (.lst vs) ∧ Stops H' acc vs ∧
        RdAt CR K H' r ns u' ∧ But r H H' ∧ acc.length + u'.length ≤ 1000 + ns.length ∧ u'.length ≤ f ∧ mSingles (stopS k) (f0 + 1) acc0 u = mSingles (stopS k) (f + 1) acc u') →
        tSeq (tDrop (tBM K "list" rAppend (tVar 3) (tCons (tVar 5) tNil))) (tSeq (tIfS (tTest (tOp rNe (tMeth CR "peek" (sp_peek CR K) [] E (tVar 0) tNil) (tC (.int 32)))) (tRet (tVar 3)) tNext) (tDrop (tMeth CR "take" (sp_take CR NP K) [] E (tVar 0) (tCons (tC (.int 32)) tNil))))
        D [some (.ref r), some (.ref fm), some (.ref ab), some (.ref ls), some (.int p1), some (.ref qv)] H2 := fun hll D hD hN => by
      rw [hll, if_neg (by decide)] at hm2
      refine ⟨_, rfl, .inl ⟨rfl, _, SqL.of hl2⟩, _, rfl, ls, vs, _, rfl, rfl, hl2, by rw [sizeLine_eq]; omega, ?_⟩
      have hR3 : RdAt CR K (upd H2 ls (.lst (vs ++ [.ref qv]))) r ns u2 := hR2.put nrl fun o' u' z => by rw [hl2] at z; cases z
      have hs3 : Stops (upd H2 ls (.lst (vs ++ [.ref qv]))) (acc ++ [sp]) (vs ++ [.ref qv]) := Stops.snoc ⟨qv, rfl, by rw [upd_ne (ne_of eqv hl2 (by intro z; cases z))]; exact eqv⟩ (hs2.mono fun s v ⟨q', e3, e4⟩ => ⟨q', e3, by rw [upd_ne (ne_of e4 hl2 (by intro z; cases z))]; exact e4⟩)
      have hb3 : But r H (upd H2 ls (.lst (vs ++ [.ref qv]))) := hb12.new hls
      have e3 : (upd H2 ls (.lst (vs ++ [.ref qv]))) r = some (.ins CR dx2 (rf a2 p2)) := by rw [upd_ne nrl]; exact e2
      refine ⟨_, rfl, r, dx2, _, rfl, e3, rfl, r, ns, u2, rfl, hR3, rfl, _, rfl, ?_⟩
      refine ite2 (fun h1 => ?_) fun h1 => ?_
      · have hn : ¬ u2.headD 256 = 32 := by simpa using h1
        rw [if_neg hn] at hm2
        refine ⟨_, rfl, ?_⟩
        rw [hD]
        exact k1 _ _ hm2 ls _ hls ⟨_, upd_same, hs3⟩ hR3 hb3
      · have hy : u2.headD 256 = 32 := by simpa using h1
        rw [if_pos hy] at hm2
        obtain ⟨z, rfl⟩ := (headD_eq (b := 32) (by decide)).mp hy
        refine ⟨_, rfl, r, dx2, _, rfl, e3, rfl, r, ns, _, 32, rfl, hR3, by decide, fun u3 eT H4 hR4 hb4 => ?_, fun eT => ?_⟩
        · rw [mTake_some (by decide) hy] at eT
          cases eT
          rw [hN]
          have e5 : H4 ls = some (.lst (vs ++ [.ref qv])) := hb4 _ _ (Ne.symm nrl) upd_same
          have hz : z.length + 1 ≤ u1.length := hlu
          obtain ⟨f2, rfl⟩ : ∃ f2, f1 = f2 + 1 := ⟨f1 - 1, by omega⟩
          refine ⟨_, _, _, acc ++ [sp], z, f2, by omega, rfl, e5, hs3.mono fun s v h => RStop.but hb4 e3 h, hR4, hb3.trans hb4, ?_, by omega, hm2⟩
          rw [List.length_append, List.length_cons, List.length_nil]
          have := hs2.len
          omega
        · rw [mTake_some (by decide) hy] at eT
          cases eT
    refine ⟨_, rfl, _, _, rfl, .inl ⟨_, SqL.of hl2, rfl⟩, _, _, rfl, rfl, _, rfl, ?_⟩
    rcases hs2.last with ⟨ea, ev⟩ | ⟨si, sl, vi, vl, ea, ev, hsl⟩
    · subst ea ev
      exact iteF (iteF (go rfl _ rfl rfl))
    · obtain ⟨ql, rfl, eql⟩ := hsl
      subst ea ev
      have hpos : decide ((0 : Int) < ((vi ++ [V.ref ql]).length : Nat)) = true := decide_eq_true (by rw [List.length_append, List.length_cons, List.length_nil]; omega)
      rw [hpos]
      have ell : lastLe (si ++ [sl]) sp = decide (sp.1 ≤ sl.1) := by
        unfold lastLe
        rw [List.getLast?_append]
        rfl
      refine ⟨_, rfl, qv, _, _, .int sp.1, rfl, rfl, SqT.of eqv, atI_nat (j := 0) rfl, _, rfl, _, rfl, ls, _, _, .ref ql, rfl, rfl, SqL.of hl2, atI_last vi _, ql, _, _, .int sl.1, rfl, rfl, SqT.of eql, atI_nat (j := 0) rfl, _, _, rfl, rfl, _, rfl, ?_⟩
      refine ite2 (fun h1 => ?_) fun h1 => ?_
      · rw [ell, if_pos h1] at hm2
        refine raise_of c.cls ?_ fun Q Q' m h => ?_
        · exact ⟨_, rfl, _, ⟨_, rfl, rfl⟩, k2 hm2 _⟩
        · obtain ⟨v, e1, h⟩ := h
          exact ⟨v, e1, m _ _ h⟩
      · refine go ?_ _ rfl rfl
        rw [ell]
        simpa using h1
end
end Lu
set_option Elab.async false
set_option linter.all false
set_option maxRecDepth 100000
set_option maxHeartbeats 4000000
namespace Lu
open PySem PySem.Spec PyProof.Rows L2 LX
open PySem.W (Frag findIn specialIn instIn typeIn keepIn readsIn findCls isFn)
section
variable {P : Program} {w : World} {K : Frag} {mg : Str → Option Value} {base : Heap}
theorem mRow_len {S : List (List Int × Option Int)} : ∀ {cs : List Int} {u : List Int} {l : List StopI} {z : List Int}, mRow S cs u = some (l, z) → l.length ≤ cs.length ∧ z.length ≤ u.length
  | [], u, l, z, h => by
    have e : ([], u) = (l, z) := Option.some.inj h
    injection e with e1 e2
    subst e1 e2
    exact ⟨Nat.le_refl _, Nat.le_refl _⟩
  | c :: cs, u, l, z, h => by
    cases e1 : takeS S u with
    | none =>
      unfold mRow at h
      rw [e1] at h
      cases h
    | some p =>
      obtain ⟨f, r⟩ := p
      rw [row_step e1] at h
      cases e2 : mRow S cs r with
      | none => rw [e2] at h; cases h
      | some q =>
        obtain ⟨l', z'⟩ := q
        rw [e2] at h
        have e : (addF c f l', z') = (l, z) := Option.some.inj h
        injection e with e3 e4
        subst e3 e4
        obtain ⟨i1, i2⟩ := mRow_len e2
        refine ⟨?_, Nat.le_trans i2 (take_len e1)⟩
        cases f with
        | none => exact Nat.le_succ_of_le i1
        | some x => exact Nat.succ_le_succ i1
theorem tail_len (u : List Int) : u.tail.length ≤ u.length := by
  cases u with
  | nil => exact Nat.le_refl _
  | cons c r => exact Nat.le_succ _
theorem singles_len {S : List (List Int × StopI)} : ∀ {f : Nat} {acc : List StopI} {u : List Int} {l : List StopI} {z : List Int}, mSingles S f acc u = some (l, z) → z.length ≤ u.length
  | 0, _, _, _, _, h => nomatch h
  | f + 1, acc, u, l, z, h => by
    cases e1 : takeS S u with
    | none => rw [singles_none e1] at h; cases h
    | some p =>
      obtain ⟨st, r⟩ := p
      rw [singles_step e1] at h
      have hl := take_len e1
      split at h
      · cases h
      · split at h
        · exact Nat.le_trans (singles_len h) (Nat.le_trans (tail_len r) hl)
        · have e : (acc ++ [st], r) = (l, z) := Option.some.inj h
          injection e with _ e
          rw [← e]
          exact hl
theorem stops_len {k : Nat} {u : List Int} {l : List StopI} {z : List Int} (h : mStops k u = some (l, z)) : z.length ≤ u.length := by
  unfold mStops at h
  split at h
  · split at h
    · have e : ([], u.tail) = (l, z) := Option.some.inj h
      injection e with _ e
      rw [← e]
      exact tail_len u
    · exact singles_len h
  · cases e1 : mRow (rowS k) (rowC k) u with
    | none => rw [e1] at h; cases h
    | some p =>
      obtain ⟨l', r⟩ := p
      rw [e1] at h
      dsimp only at h
      have hl := (mRow_len e1).2
      split at h
      · exact Nat.le_trans (singles_len h) (Nat.le_trans (tail_len r) hl)
      · have e : (byC k l', r) = (l, z) := Option.some.inj h
        injection e with _ e
        rw [← e]
        exact hl
theorem mTake_len {b : Int} {u z : List Int} (h : mTake b u = some z) : z.length < u.length := by
  cases u with
  | nil => cases h
  | cons c r =>
    have h' : (if c = b then some r else none) = some z := h
    split at h'
    · cases h'; exact Nat.lt_succ_self _
    · cases h'
theorem length_len {bf : Int} {u : List Int} {n : Int} {z : List Int} (h : mLength bf u = some (n, z)) : z.length ≤ u.length := by
  unfold mLength at h
  split at h
  · have e : (bf, u.tail) = (n, z) := Option.some.inj h
    injection e with _ e
    rw [← e]
    exact tail_len u
  · cases e1 : takeS lengthS u with
    | none => rw [e1] at h; cases h
    | some p =>
      obtain ⟨n', r⟩ := p
      rw [e1] at h
      dsimp only at h
      cases e2 : mTake 32 r with
      | none => rw [e2] at h; cases h
      | some z' =>
        rw [e2] at h
        dsimp only at h
        split at h
        · cases h
        · have e : (n', z') = (n, z) := Option.some.inj h
          injection e with _ e
          rw [← e]
          exact Nat.le_trans (Nat.le_of_lt (mTake_len e2)) (take_len e1)
theorem line_len {k : Nat} {bf : Int} {u : List Int} {ln : LineI} {z : List Int} (h : mLine k bf u = some (ln, z)) : z.length < u.length := by
  unfold mLine at h
  split at h
  · cases e1 : mTake 10 u.tail with
    | none => rw [e1] at h; cases h
    | some r =>
      rw [e1] at h
      have e : (((0 : Int), ([] : List StopI)), r) = (ln, z) := Option.some.inj h
      injection e with _ e
      rw [← e]
      exact Nat.lt_of_lt_of_le (mTake_len e1) (tail_len u)
  · cases e1 : mLength bf u with
    | none => rw [e1] at h; cases h
    | some p =>
      obtain ⟨n, r⟩ := p
      rw [e1] at h
      dsimp only at h
      cases e2 : mStops k r with
      | none => rw [e2] at h; cases h
      | some q =>
        obtain ⟨l, y⟩ := q
        rw [e2] at h
        dsimp only at h
        cases e3 : mTake 10 y with
        | none => rw [e3] at h; cases h
        | some x =>
          rw [e3] at h
          have e : ((n, l), x) = (ln, z) := Option.some.inj h
          injection e with _ e
          rw [← e]
          exact Nat.lt_of_lt_of_le (mTake_len e3) (Nat.le_trans (stops_len e2) (length_len e1))
noncomputable def sp_read_stops (CR CS CF NP : Addr) (K : Frag) : Sp := fun vs H Q E => ∃ (r : Addr) (ns u : List Int) (fm : Addr) (k : Nat), vs = [.ref r, .ref fm] ∧ RdAt CR K H r ns u ∧ FormAt CF CS H fm k ∧ ns.length ≤ 100000 ∧
  (∀ l u', mStops k u = some (l, u') → ∀ q H', H q = none → StL H' q l → RdAt CR K H' r ns u' → But r H H' → Q (.ref q) H') ∧ (mStops k u = none → Fault E NP)
theorem ok_read_stops {CR CS CF CP R NP : Addr} {f : Addr} {fd : FuncData} (F : Fun K "read_stops" "read_stops" s_read_stops f fd) (T : TxR K mg CR CS CF CP) (GP : HasMeth P w K mg base 1 CR "peek" ["self"] (sp_peek CR K))
    (GT : HasMeth P w K mg base 4 CR "take" ["self", "byte"] (sp_take CR NP K)) (GR : HasFn P w K mg base 5 "read_row" ["reader", "form"] (sp_read_row CR CS CF NP K)) (GS : HasFn P w K mg base 5 "read_single_signs" ["reader", "form", "above"] (sp_singles CR CS CF NP K)) :
    FnOk P w K mg base (CX1 P w) 6 f fd ["reader", "form"] (sp_read_stops CR CS CF NP K) := by
  refine FunX F sc_read_stops (fun vs H Q E h => ?_) (fun cdv A outer s H vs Q E hr h => ?_)
  · obtain ⟨r, ns, u, fm, k, rfl, _⟩ := h
    rfl
  · obtain ⟨r, ns, u, fm, k, rfl, hR, hF, hul, k1, k2⟩ := h
    have hr1 : Room 1 _ := hr.mono (by decide)
    have hr4 : Room 4 _ := hr.mono (by decide)
    refine ⟨_, pss_cons (ps_if (pt_cmpR op_eq (pe_fld (pv 1) rfl) (pe_gI T.german rfl) (nomark _))
        (pss_cons (ps_if (pt_cmpR op_eq (pe_me0 T.cR GP hr1 passX (pv 0)) (pe_gI T.point rfl) (nomark _)) (pss_cons (ps_expr (pe_me T.cR GT hr4 passX (pv 0) (pa_cons (pe_gI T.point rfl) pa_nil))) (pss_one (ps_ret (pe_lst pa_nil)))) pss_nil)
          (pss_one (ps_ret (pe_fn GS hr rfl passX (pa_cons (pv 0) (pa_cons (pv 1) (pa_cons (pe_lst pa_nil) pa_nil)))))))
        pss_nil)
      (pss_cons (ps_set (i := 2) sc_read_stops.nd rfl (Or.inl rfl) (pe_fn GR hr rfl passX (pa_cons (pv 0) (pa_cons (pv 1) pa_nil))))
      (pss_cons (ps_if (pt_cmpR op_ne (pe_me0 T.cR GP hr1 passX (pv 0)) (pe_gI T.blank rfl) (nomark _)) (pss_one (ps_ret (pv 2))) pss_nil)
      (pss_cons (ps_expr (pe_me T.cR GT hr4 passX (pv 0) (pa_cons (pe_gI T.blank rfl) pa_nil)))
      (pss_one (ps_ret (pe_fn GS hr rfl passX (pa_cons (pv 0) (pa_cons (pv 1) (pa_cons (pv 2) pa_nil))))))))), ?_⟩
    obtain ⟨dx, a, p, e, _⟩ := id hR
    obtain ⟨hk, dF, l, ft, st, Lv, Fv, Sv, eF, t1, g1, t2, g2, t3, g3⟩ := id hF
    refine ⟨_, rfl, fm, CF, dF, _, _, rfl, eF, T.cF, T.nk, rfl, rfl, _, rfl, ?_⟩
    refine ite2 (fun h1 => ?_) fun h1 => ?_
    · have ek : k = 2 := by
        have : (k : Int) = 2 := by simpa using h1
        omega
      subst ek
      refine ⟨_, rfl, r, dx, _, rfl, e, rfl, r, ns, u, rfl, hR, rfl, _, rfl, ?_⟩
      refine ite2 (fun h2 => ?_) fun h2 => ?_
      · have hp : u.headD 256 = 46 := by simpa using h2
        have em : mStops 2 u = some ([], u.tail) := by
          unfold mStops
          rw [if_pos rfl, if_pos hp]
        refine ⟨_, rfl, r, dx, _, rfl, e, rfl, r, ns, u, 46, rfl, hR, by decide, fun u2 eT H2 hR2 hb2 => ?_, fun eT => ?_⟩
        · rw [mTake_some (by decide) hp] at eT
          cases eT
          refine ⟨Nat.zero_le _, fun q hq => ?_⟩
          have s3 : ∀ b o, H2 b = some o → (upd H2 q (.lst [])) b = some o := fun b o z => by rw [upd_ne (ne_of_none z hq)]; exact z
          exact k1 [] _ em q _ (hb2.fresh hq (rd_there hR2)) ⟨_, upd_same, .nil⟩ (hR2.keep (r' := r) s3) (hb2.trans (But.of s3))
        · rw [mTake_some (by decide) hp] at eT
          cases eT
      · have hp : ¬ u.headD 256 = 46 := by simpa using h2
        have em : mStops 2 u = mSingles (stopS 2) (u.length + 1) [] u := by
          unfold mStops
          rw [if_pos rfl, if_neg hp]
        refine ⟨_, rfl, _, rfl, Nat.zero_le _, fun q hq => ?_⟩
        have s3 : ∀ b o, H b = some o → (upd H q (.lst [])) b = some o := fun b o z => by rw [upd_ne (ne_of_none z hq)]; exact z
        refine ⟨r, ns, u, fm, 2, q, [], rfl, hR.keep (r' := r) s3, hF.but (But.of s3) hR, ⟨_, upd_same, .nil⟩, hul, Nat.zero_le _, u.length, Nat.le_refl _, fun l u' em2 q' H' hq' hs' hR' hb' => ?_, fun em2 => k2 (by rw [em]; exact em2)⟩
        refine k1 l u' (by rw [em]; exact em2) q' H' ?_ hs' hR' ((But.of s3).trans hb')
        cases z : H q' with
        | none => rfl
        | some o => rw [s3 _ _ z] at hq'; cases hq'
    · have nk : ¬ k = 2 := fun z => h1 (by rw [z]; rfl)
      have em : mStops k u = (match mRow (rowS k) (rowC k) u with | none => none | some (l, r) => if r.headD 256 = 32 then mSingles (stopS k) (r.length + 1) (byC k l) r.tail else some (byC k l, r)) := by
        unfold mStops
        rw [if_neg nk]
        all_goals rfl
      refine ⟨_, rfl, _, rfl, r, ns, u, fm, k, rfl, by omega, hR, hF, hul, fun lr u1 em1 q1 H1 hq1 hs1 hR1 hb1 => ?_, fun em1 => k2 (by rw [em, em1])⟩
      rw [em1] at em
      dsimp only at em
      obtain ⟨dx1, a1, p1, e1, _⟩ := id hR1
      refine ⟨_, rfl, r, dx1, _, rfl, e1, rfl, r, ns, u1, rfl, hR1, rfl, _, rfl, ?_⟩
      refine ite2 (fun h2 => ?_) fun h2 => ?_
      · have hn : ¬ u1.headD 256 = 32 := by simpa using h2
        rw [if_neg hn] at em
        exact ⟨_, rfl, k1 _ _ em q1 H1 hq1 hs1 hR1 hb1⟩
      · have hy : u1.headD 256 = 32 := by simpa using h2
        rw [if_pos hy] at em
        refine ⟨_, rfl, r, dx1, _, rfl, e1, rfl, r, ns, u1, 32, rfl, hR1, by decide, fun u2 eT H2 hR2 hb2 => ?_, fun eT => ?_⟩
        · rw [mTake_some (by decide) hy] at eT
          cases eT
          obtain ⟨vs1, hv1, hvs1⟩ := hs1
          have hs2 : StL H2 q1 (byC k lr) := ⟨vs1, hb2 _ _ (ne_of hv1 e1 (by intro z; cases z)) hv1, hvs1.mono fun s v h => RStop.but hb2 e1 h⟩
          have hl6 : (byC k lr).length ≤ 1000 := by
            have h6 := (mRow_len em1).1
            have : (rowC k).length ≤ 6 := by
              have k01 : k = 0 ∨ k = 1 := by omega
              rcases k01 with rfl | rfl <;> decide
            unfold byC
            split
            · rw [List.length_reverse]; omega
            · omega
          refine ⟨_, rfl, _, rfl, _, rfl, r, ns, _, fm, k, q1, _, rfl, hR2, hF.but (hb1.trans hb2) hR, hs2, hul, hl6, u1.length, tail_len u1, fun l u' em2 q' H' hq' hs' hR' hb' => ?_, fun em2 => k2 (by rw [em]; exact em2)⟩
          exact k1 l u' (by rw [em]; exact em2) q' H' ((hb1.trans hb2).fresh hq' (rd_there hR2)) hs' hR' ((hb1.trans hb2).trans hb')
        · rw [mTake_some (by decide) hy] at eT
          cases eT
noncomputable def LineN (H H' : Hp) (ln : LineI) (v : V) : Prop := ∃ q sl, v = .ref q ∧ H' q = some (.tup [.int ln.1, .ref sl]) ∧ StL H' sl ln.2 ∧ H sl = none
noncomputable def sp_read_line (CR CS CF NP : Addr) (K : Frag) : Sp := fun vs H Q E => ∃ (r : Addr) (ns u : List Int) (fm : Addr) (k : Nat) (bf : Int), vs = [.ref r, .ref fm, .int bf] ∧ RdAt CR K H r ns u ∧ FormAt CF CS H fm k ∧ ns.length ≤ 100000 ∧
  (∀ ln u', mLine k bf u = some (ln, u') → ∀ v H', LineN H H' ln v → RdAt CR K H' r ns u' → But r H H' → Q v H') ∧ (mLine k bf u = none → Fault E NP)
theorem ok_read_line {CR CS CF CP R NP : Addr} {f : Addr} {fd : FuncData} (F : Fun K "read_line" "read_line" s_read_line f fd) (T : TxR K mg CR CS CF CP) (GP : HasMeth P w K mg base 1 CR "peek" ["self"] (sp_peek CR K))
    (GT : HasMeth P w K mg base 4 CR "take" ["self", "byte"] (sp_take CR NP K)) (GL : HasFn P w K mg base 5 "read_length" ["reader", "form", "before"] (sp_read_length CR CS CF NP K)) (GS : HasFn P w K mg base 6 "read_stops" ["reader", "form"] (sp_read_stops CR CS CF NP K)) :
    FnOk P w K mg base (CX1 P w) 7 f fd ["reader", "form", "before"] (sp_read_line CR CS CF NP K) := by
  refine FunX F sc_read_line (fun vs H Q E h => ?_) (fun cdv A outer s H vs Q E hr h => ?_)
  · obtain ⟨r, ns, u, fm, k, bf, rfl, _⟩ := h
    rfl
  · obtain ⟨r, ns, u, fm, k, bf, rfl, hR, hF, hul, k1, k2⟩ := h
    have hr1 : Room 1 _ := hr.mono (by decide)
    have hr4 : Room 4 _ := hr.mono (by decide)
    have hr5 : Room 5 _ := hr.mono (by decide)
    refine ⟨_, pss_cons (ps_if (pt_cmpR op_eq (pe_me0 T.cR GP hr1 passX (pv 0)) (pe_gI T.stroke rfl) (nomark _))
        (pss_cons (ps_expr (pe_me T.cR GT hr4 passX (pv 0) (pa_cons (pe_gI T.stroke rfl) pa_nil))) (pss_cons (ps_expr (pe_me T.cR GT hr4 passX (pv 0) (pa_cons (pe_gI T.endB rfl) pa_nil))) (pss_one (ps_ret (pe_tup (pa_cons pe_int (pa_cons (pe_lst pa_nil) pa_nil))))))) pss_nil)
      (pss_cons (ps_set (i := 3) sc_read_line.nd rfl (Or.inl rfl) (pe_fn GL hr5 rfl passX (pa_cons (pv 0) (pa_cons (pv 1) (pa_cons (pv 2) pa_nil)))))
      (pss_cons (ps_set (i := 4) sc_read_line.nd rfl (Or.inl rfl) (pe_fn GS hr rfl passX (pa_cons (pv 0) (pa_cons (pv 1) pa_nil))))
      (pss_cons (ps_expr (pe_me T.cR GT hr4 passX (pv 0) (pa_cons (pe_gI T.endB rfl) pa_nil)))
      (pss_one (ps_ret (pe_tup (pa_cons (pv 3) (pa_cons (pv 4) pa_nil)))))))), ?_⟩
    obtain ⟨dx, a, p, e, _⟩ := id hR
    refine ⟨_, rfl, r, dx, _, rfl, e, rfl, r, ns, u, rfl, hR, rfl, _, rfl, ?_⟩
    refine ite2 (fun h1 => ?_) fun h1 => ?_
    · have hs : u.headD 256 = 124 := by simpa using h1
      have em : mLine k bf u = (mTake 10 u.tail).map fun r => ((0, []), r) := by
        unfold mLine
        rw [if_pos hs]
      refine ⟨_, rfl, r, dx, _, rfl, e, rfl, r, ns, u, 124, rfl, hR, by decide, fun u2 eT H2 hR2 hb2 => ?_, fun eT => ?_⟩
      · rw [mTake_some (by decide) hs] at eT
        cases eT
        obtain ⟨dx2, a2, p2, e2, _⟩ := id hR2
        refine ⟨_, rfl, r, dx2, _, rfl, e2, rfl, r, ns, _, 10, rfl, hR2, by decide, fun u3 eT H3 hR3 hb3 => ?_, fun eT => k2 (by rw [em, eT]; rfl)⟩
        refine ⟨Nat.zero_le _, fun q hq => ⟨(by show 2 ≤ sizeLine; decide), fun q2 hq2 => ?_⟩⟩
        have hb := hb2.trans hb3
        have s4 : ∀ b o, H3 b = some o → (upd H3 q (.lst [])) b = some o := fun b o z => by rw [upd_ne (ne_of_none z hq)]; exact z
        have s5 : ∀ b o, (upd H3 q (.lst [])) b = some o → (upd (upd H3 q (.lst [])) q2 (.tup [.int 0, .ref q])) b = some o := fun b o z => by rw [upd_ne (ne_of_none z hq2)]; exact z
        refine k1 (0, []) u3 (by rw [em, eT]; rfl) _ _ ⟨q2, q, rfl, upd_same, ⟨_, s5 _ _ upd_same, .nil⟩, hb.fresh hq (rd_there hR3)⟩ (hR3.keep (r' := r) fun b o z => s5 _ _ (s4 _ _ z)) (hb.trans (But.of fun b o z => s5 _ _ (s4 _ _ z)))
      · rw [mTake_some (by decide) hs] at eT
        cases eT
    · have hs : ¬ u.headD 256 = 124 := by simpa using h1
      have em : mLine k bf u = (match mLength bf u with | none => none | some (n, r) => match mStops k r with | none => none | some (l, z) => (mTake 10 z).map fun y => ((n, l), y)) := by
        unfold mLine
        rw [if_neg hs]
        all_goals rfl
      refine ⟨_, rfl, _, rfl, _, rfl, r, ns, u, fm, k, bf, rfl, hR, hF, Nat.le_trans (rd_len hR) hul, fun n u1 em1 H1 hR1 hb1 => ?_, fun em1 => k2 (by rw [em, em1])⟩
      rw [em1] at em
      dsimp only at em
      refine ⟨_, rfl, _, rfl, r, ns, u1, fm, k, rfl, hR1, hF.but hb1 hR, hul, fun l u2 em2 q H2 hq hs2 hR2 hb2 => ?_, fun em2 => k2 (by rw [em, em2])⟩
      rw [em2] at em
      dsimp only at em
      obtain ⟨dx2, a2, p2, e2, _⟩ := id hR2
      refine ⟨_, rfl, r, dx2, _, rfl, e2, rfl, r, ns, _, 10, rfl, hR2, by decide, fun u3 eT H3 hR3 hb3 => ?_, fun eT => k2 (by rw [em, eT]; rfl)⟩
      obtain ⟨vs2, hv2, hvs2⟩ := hs2
      have hb23 := hb2.trans hb3
      have hv3 : H3 q = some (.lst vs2) := hb3 _ _ (ne_of hv2 e2 (by intro z; cases z)) hv2
      refine ⟨_, rfl, _, rfl, (by show 2 ≤ sizeLine; decide), fun q2 hq2 => ?_⟩
      have s5 : ∀ b o, H3 b = some o → (upd H3 q2 (.tup [.int n, .ref q])) b = some o := fun b o z => by rw [upd_ne (ne_of_none z hq2)]; exact z
      refine k1 (n, l) u3 (by rw [em, eT]; rfl) _ _ ⟨q2, q, rfl, upd_same, ⟨vs2, s5 _ _ hv3, hvs2.mono fun s v h => ?_⟩, hb1.fresh hq (rd_there hR1)⟩ (hR3.keep (r' := r) s5) ((hb1.trans hb23).trans (But.of s5))
      obtain ⟨q', e3, e4⟩ := RStop.but hb3 e2 h
      exact ⟨q', e3, s5 _ _ e4⟩
end
end Lu
set_option Elab.async false
set_option linter.all false
set_option maxRecDepth 100000
set_option maxHeartbeats 4000000
namespace Lu
open PySem PySem.Spec PyProof.Rows L2 LX
open PySem.W (Frag findIn specialIn instIn typeIn keepIn readsIn findCls isFn)
section
variable {P : Program} {w : World} {K : Frag} {mg : Str → Option Value} {base : Heap}
noncomputable def LineV (H : Hp) (l : Addr) (ln : LineI) (v : V) : Prop := ∃ q sl, v = .ref q ∧ H q = some (.tup [.int ln.1, .ref sl]) ∧ StL H sl ln.2 ∧ sl ≠ l
noncomputable def LinesAt (H : Hp) (l : Addr) (ls : List LineI) : Prop := ∃ vs, H l = some (.lst vs) ∧ Paired (LineV H l) ls vs
theorem Paired.mono' {α : Type} {R R' : α → V → Prop} (m : ∀ a v, R a v → R' a v) : ∀ {l : List α} {vs : List V}, Paired R l vs → Paired R' l vs
  | _, _, .nil => .nil
  | _, _, .cons r t => .cons (m _ _ r) (Paired.mono' m t)
theorem Paired.snoc' {α : Type} {R : α → V → Prop} {a : α} {v : V} (h : R a v) : ∀ {l : List α} {vs : List V}, Paired R l vs → Paired R (l ++ [a]) (vs ++ [v])
  | _, _, .nil => .cons h .nil
  | _, _, .cons r t => .cons r (Paired.snoc' h t)
theorem Paired.len' {α : Type} {R : α → V → Prop} : ∀ {l : List α} {vs : List V}, Paired R l vs → l.length = vs.length
  | _, _, .nil => rfl
  | _, _, .cons r t => by rw [List.length_cons, List.length_cons, Paired.len' t]
theorem StL.but {r CR dr sl : Addr} {fs : List (Str × V)} {H H' : Hp} {ss : List StopI} (b : But r H H') (er : H r = some (.ins CR dr fs)) (h : StL H sl ss) : StL H' sl ss := by
  obtain ⟨vs, e, hs⟩ := h
  exact ⟨vs, b _ _ (ne_of e er (by intro z; cases z)) e, hs.mono fun s v h => RStop.but b er h⟩
theorem LineV.but {r CR dr l : Addr} {fs : List (Str × V)} {H H' : Hp} {ln : LineI} {v : V} (b : But r H H') (er : H r = some (.ins CR dr fs)) (h : LineV H l ln v) : LineV H' l ln v := by
  obtain ⟨q, sl, e1, e2, e3, e4⟩ := h
  exact ⟨q, sl, e1, b _ _ (ne_of e2 er (by intro z; cases z)) e2, e3.but b er, e4⟩
theorem StL.put {l sl : Addr} {H : Hp} {xs ys : List V} {ss : List StopI} (hl : H l = some (.lst xs)) (n : sl ≠ l) (h : StL H sl ss) : StL (upd H l (.lst ys)) sl ss := by
  obtain ⟨vs, e, hs⟩ := h
  exact ⟨vs, by rw [upd_ne n]; exact e, hs.mono fun s v ⟨q, e1, e2⟩ => ⟨q, e1, by rw [upd_ne (ne_of e2 hl (by intro z; cases z))]; exact e2⟩⟩
theorem LineV.put {l : Addr} {H : Hp} {xs ys : List V} {ln : LineI} {v : V} (hl : H l = some (.lst xs)) (h : LineV H l ln v) : LineV (upd H l (.lst ys)) l ln v := by
  obtain ⟨q, sl, e1, e2, e3, e4⟩ := h
  exact ⟨q, sl, e1, by rw [upd_ne (ne_of e2 hl (by intro z; cases z))]; exact e2, e3.put hl e4, e4⟩
theorem lines_cons {k f m : Nat} {bf c : Int} {r z : List Int} {ln : LineI} (h : mLine k bf (c :: r) = some (ln, z)) :
    mLines k (f + 1) m bf (c :: r) = if m = 512 then none else (mLines k f (m + 1) (if 0 < ln.1 then ln.1 else bf) z).map fun ls => ln :: ls := by
  show (match mLine k bf (c :: r) with | none => none | some (l, z) => if m = 512 then none else (mLines k f (m + 1) (if 0 < l.1 then l.1 else bf) z).map fun ls => l :: ls) = _
  rw [h]
theorem lines_none {k f m : Nat} {bf c : Int} {r : List Int} (h : mLine k bf (c :: r) = none) : mLines k (f + 1) m bf (c :: r) = none := by
  show (match mLine k bf (c :: r) with | none => none | some (l, z) => if m = 512 then none else (mLines k f (m + 1) (if 0 < l.1 then l.1 else bf) z).map fun ls => l :: ls) = _
  rw [h]
theorem lines_nil {k f m : Nat} {bf : Int} : mLines k f m bf [] = some [] := by
  cases f <;> rfl
noncomputable def sp_read_lines (CR CS CF NP : Addr) (K : Frag) : Sp := fun vs H Q E => ∃ (r : Addr) (ns u : List Int) (fm : Addr) (k : Nat), vs = [.ref r, .ref fm] ∧ RdAt CR K H r ns u ∧ FormAt CF CS H fm k ∧ ns.length ≤ 100000 ∧ (∀ c ∈ ns, c ≠ 256) ∧
  ∃ f0, u.length ≤ f0 ∧ (∀ ls, mLines k f0 0 0 u = some ls → ∀ q H', H q = none → LinesAt H' q ls → ls.length ≤ 512 → RdAt CR K H' r ns [] → But r H H' → Q (.ref q) H') ∧ (mLines k f0 0 0 u = none → Fault E NP)
theorem ok_read_lines {CR CS CF CP R NP : Addr} {f : Addr} {fd : FuncData} (F : Fun K "read_lines" "read_lines" s_read_lines f fd) (T : TxR K mg CR CS CF CP) (c : XC K mg R NP "NoPiece") (GP : HasMeth P w K mg base 1 CR "peek" ["self"] (sp_peek CR K))
    (GL : HasFn P w K mg base 7 "read_line" ["reader", "form", "before"] (sp_read_line CR CS CF NP K)) (GN : HasMkX P w K mg base 2 NP "NoPiece" ["self", "place"] (InitX K NP okPl)) :
    FnOk P w K mg base (CX1 P w) 8 f fd ["reader", "form"] (sp_read_lines CR CS CF NP K) := by
  refine FunX F sc_read_lines (fun vs H Q E h => ?_) (fun cdv A outer s H vs Q E hr h => ?_)
  · obtain ⟨r, ns, u, fm, k, rfl, _⟩ := h
    rfl
  · obtain ⟨r, ns, u, fm, k, rfl, hR, hF, hul, hby, f0, hf0, k1, k2⟩ := h
    have hr1 : Room 1 _ := hr.mono (by decide)
    have hr3 : Room 3 _ := hr.mono (by decide)
    refine ⟨_, pss_cons (ps_set (i := 2) sc_read_lines.nd rfl (Or.inl rfl) (pe_lst pa_nil))
      (pss_cons (ps_set (i := 3) sc_read_lines.nd rfl (Or.inl rfl) pe_int)
      (pss_cons (ps_while ownX (pt_cmpR op_ne (pe_me0 T.cR GP hr1 passX (pv 0)) (pe_gI T.noB rfl) (nomark _))
        (pss_cons (ps_set (i := 4) sc_read_lines.nd rfl (Or.inl rfl) (pe_fld (pv 0) rfl))
        (pss_cons (ps_set (i := 5) sc_read_lines.nd rfl (Or.inl rfl) (pe_fn GL hr rfl passX (pa_cons (pv 0) (pa_cons (pv 1) (pa_cons (pv 3) pa_nil)))))
        (pss_cons (ps_if (pt_cmpR op_eq (pe_callB call_len rfl T.nlen (by decide +kernel) (pa_cons (pv 2) pa_nil)) (pe_gI T.most rfl) (nomark _)) (pss_one (ps_raise rfl leavesX (pe_mkX GN hr3 rfl passX (pa_cons (pv 4) pa_nil)))) pss_nil)
        (pss_cons (ps_expr (pe_bm PySem.F.plainAttrs_list PySem.F.slot_list_append PySem.F.type_list_append mt_append (pv 2) (pa_cons (pv 5) pa_nil)))
        (pss_one (ps_if (pt_cmpR op_gt (pe_ix ix_tup (pv 5) pe_int (fun _ _ => rfl)) pe_int (nomark _)) (pss_one (ps_set (i := 3) sc_read_lines.nd rfl (Or.inl rfl) (pe_ix ix_tup (pv 5) pe_int (fun _ _ => rfl)))) pss_nil)))))))
      (pss_one (ps_ret (pv 2))))), ?_⟩
    refine ⟨Nat.zero_le _, fun ls hls => ?_⟩
    have s0 : ∀ b o, H b = some o → (upd H ls (.lst [])) b = some o := fun b o z => by rw [upd_ne (ne_of_none z hls)]; exact z
    refine ⟨fun m σ H' => ∃ (v4 v5 : Option V) (vs : List V) (acc : List LineI) (bf : Int) (u' : List Int) (f : Nat), m = u'.length ∧ σ = [some (.ref r), some (.ref fm), some (.ref ls), some (.int bf), v4, v5] ∧ H' ls = some (.lst vs) ∧ Paired (LineV H' ls) acc vs ∧
        RdAt CR K H' r ns u' ∧ But r H H' ∧ acc.length ≤ 512 ∧ u'.length ≤ f ∧ mLines k f0 0 0 u = (mLines k f acc.length bf u').map fun l => acc ++ l,
      ⟨_, none, none, [], [], 0, u, f0, rfl, rfl, upd_same, .nil, hR.keep (r' := r) s0, But.of s0, Nat.zero_le _, hf0, ?_⟩, ?_⟩
    · show _ = (mLines k f0 0 0 u).map fun l => [] ++ l
      cases mLines k f0 0 0 u with
      | none => rfl
      | some l => rfl
    rintro m σ H1 ⟨v4, v5, vs, acc, bf, u1, f1, rfl, rfl, hl1, hv1, hR1, hb1, hac, hf1, hm⟩
    obtain ⟨dx1, a1, p1, e1, _, _, hu1⟩ := id hR1
    refine ⟨_, rfl, r, dx1, _, rfl, e1, rfl, r, ns, u1, rfl, hR1, rfl, _, rfl, ?_⟩
    refine ite2 (fun h1 => ?_) fun h1 => ?_
    · have hn : ¬ u1.headD 256 = 256 := by simpa using h1
      obtain ⟨ch, ur, rfl⟩ : ∃ ch ur, u1 = ch :: ur := by
        cases u1 with
        | nil => exact absurd rfl hn
        | cons ch ur => exact ⟨ch, ur, rfl⟩
      obtain ⟨f2, rfl⟩ : ∃ f2, f1 = f2 + 1 := ⟨f1 - 1, by have : (ch :: ur).length = ur.length + 1 := rfl; omega⟩
      refine ⟨fun σ' H' => ∃ (v4 v5 : Option V) (vs : List V) (acc : List LineI) (bf : Int) (u' : List Int) (f : Nat), u'.length < (ch :: ur).length ∧ σ' = [some (.ref r), some (.ref fm), some (.ref ls), some (.int bf), v4, v5] ∧ H' ls = some (.lst vs) ∧ Paired (LineV H' ls) acc vs ∧
          RdAt CR K H' r ns u' ∧ But r H H' ∧ acc.length ≤ 512 ∧ u'.length ≤ f ∧ mLines k f0 0 0 u = (mLines k f acc.length bf u').map fun l => acc ++ l,
        fun σ' H' ⟨v4, v5, vs, acc, bf, u', f, hlt, z⟩ => ⟨u'.length, hlt, v4, v5, vs, acc, bf, u', f, rfl, z⟩, ?_⟩
      refine ⟨_, rfl, r, CR, dx1, _, _, rfl, e1, T.cR, T.np, rfl, ?_⟩
      refine ⟨_, rfl, _, rfl, _, rfl, r, ns, _, fm, k, bf, rfl, hR1, hF.but hb1 hR, hul, fun ln u2 em v H2 hv hR2 hb2 => ?_, fun em => k2 (by rw [hm, lines_none em]; rfl)⟩
      rw [lines_cons em] at hm
      have hlt := line_len em
      obtain ⟨q, sl, rfl, eq, hsl, hfr⟩ := hv
      have hb12 := hb1.trans hb2
      have hl2 : H2 ls = some (.lst vs) := hb2 _ _ (ne_of hl1 e1 (by intro z; cases z)) hl1
      have nsl : sl ≠ ls := fun z => by rw [z, hl1] at hfr; cases hfr
      obtain ⟨dx2, a2, p2, e2, _⟩ := id hR2
      have nrl : r ≠ ls := ne_of e2 hl2 (by intro z; cases z)
      refine ⟨_, rfl, _, _, rfl, .inl ⟨_, SqL.of hl2, rfl⟩, rfl, _, rfl, ?_⟩
      have hvl := Paired.len' hv1
      refine ite2 (fun h2 => ?_) fun h2 => ?_
      · have e512 : acc.length = 512 := by
          have : ((vs.length : Nat) : Int) = 512 := by simpa using h2
          omega
        rw [if_pos e512] at hm
        refine raise_of c.cls ?_ fun Q Q' m h => ?_
        · exact ⟨_, rfl, _, ⟨_, rfl, rfl⟩, k2 hm _⟩
        · obtain ⟨v, e1, h⟩ := h
          exact ⟨v, e1, m _ _ h⟩
      · have n512 : ¬ acc.length = 512 := fun z => h2 (by
          have : ((vs.length : Nat) : Int) = 512 := by omega
          rw [this]
          rfl)
        rw [if_neg n512, Option.map_map] at hm
        refine ⟨_, rfl, .inl ⟨rfl, _, SqL.of hl2⟩, _, rfl, ls, vs, _, rfl, rfl, hl2, by rw [sizeLine_eq]; omega, ?_⟩
        have hR3 : RdAt CR K (upd H2 ls (.lst (vs ++ [.ref q]))) r ns u2 := hR2.put nrl fun o' u' z => by rw [hl2] at z; cases z
        have eq3 : (upd H2 ls (.lst (vs ++ [.ref q]))) q = some (.tup [.int ln.1, .ref sl]) := by rw [upd_ne (ne_of eq hl2 (by intro z; cases z))]; exact eq
        have hv3 : Paired (LineV (upd H2 ls (.lst (vs ++ [.ref q]))) ls) (acc ++ [ln]) (vs ++ [.ref q]) := Paired.snoc' ⟨q, sl, rfl, eq3, hsl.put hl2 nsl, nsl⟩ (Paired.mono' (fun a v h => LineV.put hl2 (LineV.but hb2 e1 h)) hv1)
        have hb3 : But r H (upd H2 ls (.lst (vs ++ [.ref q]))) := hb12.new hls
        have hal : (acc ++ [ln]).length = acc.length + 1 := by rw [List.length_append]; rfl
        have hm3 : mLines k f0 0 0 u = (mLines k f2 (acc ++ [ln]).length (if 0 < ln.1 then ln.1 else bf) u2).map fun l => (acc ++ [ln]) ++ l := by
          rw [hm, hal]
          congr 1
          funext l
          show acc ++ (ln :: l) = _
          rw [List.append_assoc]
          rfl
        have hu2 : u2.length < (ch :: ur).length := hlt
        have hf2 : u2.length ≤ f2 := by
          have : (ch :: ur).length = ur.length + 1 := rfl
          omega
        refine ⟨_, rfl, q, _, _, .int ln.1, rfl, rfl, SqT.of eq3, atI_nat (j := 0) rfl, _, _, rfl, rfl, _, rfl, ?_⟩
        refine ite2 (fun h3 => ?_) fun h3 => ?_
        · have hp : 0 < ln.1 := by simpa using h3
          rw [if_pos hp] at hm3
          refine ⟨_, rfl, q, _, _, .int ln.1, rfl, rfl, SqT.of eq3, atI_nat (j := 0) rfl, ?_⟩
          exact ⟨_, _, _, acc ++ [ln], ln.1, u2, f2, hu2, rfl, upd_same, hv3, hR3, hb3, by rw [hal]; omega, hf2, hm3⟩
        · have hp : ¬ 0 < ln.1 := by simpa using h3
          rw [if_neg hp] at hm3
          exact ⟨_, _, _, acc ++ [ln], bf, u2, f2, hu2, rfl, upd_same, hv3, hR3, hb3, by rw [hal]; omega, hf2, hm3⟩
    · have hy : u1.headD 256 = 256 := by simpa using h1
      have e0 : u1 = [] := by
        cases u1 with
        | nil => rfl
        | cons ch ur =>
          have hc : ch = 256 := hy
          exact absurd hc (hby ch (by
            have : ch ∈ ns.drop p1 := by rw [hu1]; exact List.mem_cons_self
            exact List.mem_of_mem_drop this))
      subst e0
      rw [lines_nil] at hm
      have hm' : mLines k f0 0 0 u = some acc := by
        rw [hm]
        show some (acc ++ []) = _
        rw [List.append_nil]
      exact ⟨_, rfl, k1 acc hm' ls H1 hls ⟨vs, hl1, hv1⟩ hac hR1 hb1⟩
end
end Lu
set_option Elab.async false
set_option linter.all false
set_option maxRecDepth 100000
set_option maxHeartbeats 4000000
namespace Lu
open PySem PySem.Spec PyProof.Rows L2 LX
open PySem.W (Frag findIn specialIn instIn typeIn keepIn readsIn findCls isFn)
section
variable {P : Program} {w : World} {K : Frag} {mg : Str → Option Value} {base : Heap}
noncomputable def sp_Reader_init (CR : Addr) : Sp := fun vs H Q _ => ∃ x dx a, vs = [.ref x, .ref a] ∧ H x = some (.ins CR dx []) ∧ ∀ H', H' x = some (.ins CR dx (rf a 0)) → (∀ b o, b ≠ x → H b = some o → H' b = some o) → Q .non H'
theorem ok_Reader_init {CR CS CF CP : Addr} {f : Addr} {fd : FuncData} (F : Fun K "__init__" "Reader.__init__" s_Reader_init f fd) (T : TxR K mg CR CS CF CP) : FnOk P w K mg base (CX1 P w) 1 f fd ["self", "t"] (sp_Reader_init CR) := by
  refine FunX F sc_Reader_init (fun vs H Q E h => ?_) (fun cdv A outer s H vs Q E hr h => ?_)
  · obtain ⟨x, dx, a, rfl, _⟩ := h
    rfl
  · obtain ⟨x, dx, a, rfl, hx, k⟩ := h
    refine ⟨_, pss_cons (ps_fld (pv 0) (pv 1) rfl) (pss_one (ps_fld (pv 0) pe_int rfl)), ?_⟩
    refine ⟨_, rfl, _, rfl, x, CR, dx, [], rfl, hx, T.cR, T.nt, (by show 0 < 1000; decide), ?_⟩
    refine ⟨_, rfl, x, CR, dx, _, rfl, upd_same, T.cR, T.np, (by show 1 < 1000; decide), ?_⟩
    have e : putF "place" (V.int 0) (putF "t" (V.ref a) []) = rf a 0 := by
      show (if ("t" : Str) = "place" then _ else ((("t" : Str), V.ref a) :: putF "place" (.int 0) [])) = _
      rw [if_neg (by decide +kernel)]
      rfl
    rw [upd_upd, e]
    exact k _ upd_same fun b o n z => by rw [upd_ne n]; exact z
noncomputable def pf (k : Nat) (l : Addr) : List (Str × V) := [(("kind" : Str), V.int (k : Int)), (("lines" : Str), V.ref l)]
noncomputable def sp_Piece_init (CP : Addr) : Sp := fun vs H Q _ => ∃ (x dx : Addr) (k : Nat) (l : Addr), vs = [.ref x, .int (k : Int), .ref l] ∧ H x = some (.ins CP dx []) ∧ ∀ H', H' x = some (.ins CP dx (pf k l)) → (∀ b o, b ≠ x → H b = some o → H' b = some o) → Q .non H'
theorem ok_Piece_init {CR CS CF CP : Addr} {f : Addr} {fd : FuncData} (F : Fun K "__init__" "Piece.__init__" s_Piece_init f fd) (T : TxR K mg CR CS CF CP) : FnOk P w K mg base (CX1 P w) 1 f fd ["self", "kind", "lines"] (sp_Piece_init CP) := by
  refine FunX F sc_Piece_init (fun vs H Q E h => ?_) (fun cdv A outer s H vs Q E hr h => ?_)
  · obtain ⟨x, dx, k, l, rfl, _⟩ := h
    rfl
  · obtain ⟨x, dx, kk, l, rfl, hx, k⟩ := h
    refine ⟨_, pss_cons (ps_fld (pv 0) (pv 1) rfl) (pss_one (ps_fld (pv 0) (pv 2) rfl)), ?_⟩
    refine ⟨_, rfl, _, rfl, x, CP, dx, [], rfl, hx, T.cP, T.pk, (by show 0 < 1000; decide), ?_⟩
    refine ⟨_, rfl, _, rfl, x, CP, dx, _, rfl, upd_same, T.cP, T.pl, (by show 1 < 1000; decide), ?_⟩
    have e : putF "lines" (V.ref l) (putF "kind" (V.int (kk : Int)) []) = pf kk l := by
      show (if ("kind" : Str) = "lines" then _ else ((("kind" : Str), V.int (kk : Int)) :: putF "lines" (.ref l) [])) = _
      rw [if_neg (by decide +kernel)]
      rfl
    rw [upd_upd, e]
    exact k _ upd_same fun b o n z => by rw [upd_ne n]; exact z
theorem paired_at {α : Type} {R : α → V → Prop} : ∀ {l : List α} {vs : List V} {i : Nat} {v : V}, Paired R l vs → vs[i]? = some v → ∃ a, l[i]? = some a ∧ R a v
  | _, _, _, _, .nil, h => by simp at h
  | a :: l, x :: vs, 0, v, .cons r t, h => by
    have e : x = v := Option.some.inj h
    subst e
    exact ⟨a, rfl, r⟩
  | a :: l, x :: vs, i + 1, v, .cons r t, h => paired_at (i := i) t h
noncomputable def momB (ls : List LineI) : List Bool := ls.map fun l => decide (0 < l.1)
noncomputable def sp_has_moment : Sp := fun vs H Q _ => ∃ (l : Addr) (ls : List LineI), vs = [.ref l] ∧ LinesAt H l ls ∧ ls.length ≤ 512 ∧ ∀ H', (∀ b o, H b = some o → H' b = some o) → Q (.bl (ls.any fun l => decide (0 < l.1))) H'
theorem any_map (ls : List LineI) : (momB ls).any id = ls.any fun l => decide (0 < l.1) := by
  unfold momB
  rw [List.any_map]
  rfl
theorem ok_has_moment {f : Addr} {fd : FuncData} (F : Fun K "has_moment" "has_moment" s_has_moment f fd) (na : mg "any" = none) : FnOk P w K mg base (CX1 P w) 1 f fd ["lines"] sp_has_moment := by
  refine FunX F sc_has_moment (fun vs H Q E h => ?_) (fun cdv A outer s H vs Q E hr h => ?_)
  · obtain ⟨l, ls, rfl, _⟩ := h
    rfl
  · obtain ⟨l, ls, rfl, ⟨vs, hl, hv⟩, h512, k⟩ := h
    refine ⟨_, pss_one (ps_ret (pe_callB (cr_any rfl) rfl na (by decide +kernel) (pa_cons (pe_lc (g := gTup K 2 (gCons (gName 1) (gCons (gName 2) gNil))) (own := [("length", 1), ("stops", 2)]) rfl sc_has_moment.nd (pi_list (pv 0)) (blkOk_by (by kernel_rfl))
      (fun _ _ _ _ _ => pg_tup (n := 2) rfl (pgs_cons (pg_name (i := 1) sc_has_moment.nd rfl (Or.inl rfl) (.inr rfl)) (pgs_cons (pg_name (i := 2) sc_has_moment.nd rfl (Or.inl rfl) (.inr rfl)) pgs_nil))) (fun _ _ _ _ _ => pts_nil)
      (fun _ _ _ _ _ => pe_cmpR op_gt (pv 1) pe_int (nomark _))) pa_nil))), ?_⟩
    refine ⟨_, rfl, l, rfl, ⟨_, SqL.of hl⟩, fun D hD => ?_⟩
    have s0 : ∀ (ys : List V) b o, H b = some o → (upd H D (.lst ys)) b = some o := fun ys b o z => by rw [upd_ne (ne_of_none z hD)]; exact z
    refine lc_list (K := K) (a := l) (xs := vs) (fun i H' => H' = upd H D (.lst (((momB ls).map V.bl).take i))) rfl (fun i H' _ e => by rw [e]; exact SqL.of (s0 _ _ _ hl)) ?_ ?_
    · rintro i x H' hx rfl
      obtain ⟨ln, hln, q, sl, rfl, eq, _⟩ := paired_at hv hx
      refine ⟨q, _, rfl, SqT.of (s0 _ _ _ eq), rfl, _, _, rfl, _, _, rfl, rfl, rfl, _, rfl, _, _, rfl, rfl, _, upd_same, ?_, ?_⟩
      · rw [List.length_take, List.length_map, sizeLine_eq]
        unfold momB
        rw [List.length_map]
        omega
      · have hc : ((momB ls).map V.bl)[i]? = some (V.bl (decide (0 < ln.1))) := by
          unfold momB
          rw [List.getElem?_map, List.getElem?_map, hln]
          rfl
        rw [upd_upd, List.take_add_one, hc]
        rfl
    · rintro H' rfl
      have e : ((momB ls).map V.bl).take vs.length = (momB ls).map V.bl := List.take_of_length_le (by unfold momB; rw [List.length_map, List.length_map, Paired.len' hv]; exact Nat.le_refl _)
      rw [e]
      refine ⟨D, momB ls, rfl, SqL.of upd_same, ?_⟩
      rw [any_map]
      exact k _ (s0 _)
end
end Lu
set_option Elab.async false
set_option linter.all false
set_option maxRecDepth 100000
set_option maxHeartbeats 4000000
namespace Lu
open PySem PySem.Spec PyProof.Rows L2 LX
open PySem.W (Frag findIn specialIn instIn typeIn keepIn readsIn findCls isFn)
open PySem.AutoSeq1 (wpAny_loadPart')
section
variable {prog : Program} {w : World} {A : Around} {E : Value → Shared → Prop} {s : Shared}
theorem nextTup_item {j tp : Addr} {n : Nat} {its : Array Value} {y : Value} {Q : Value → Shared → Prop} (hj : s.heap.IsTupleIter j tp n) (ht : s.heap.IsTuple tp its) (hy : its[n]? = some y)
    (k : ∀ h', h'.IsTupleIter j tp (n + 1) → Heap.SameBut j s.heap h' → Q y { s with heap := h' }) : wpAny (model prog w) A (Builtin.SmallTypes.nextOf (.ref j)) Q E s := by
  obtain ⟨oj, hoj, hcj, hdj⟩ := id hj
  obtain ⟨ot, hot, _, nt, hdt⟩ := ht
  unfold Builtin.SmallTypes.nextOf
  refine wpAny_bind (wpAny_callSpecial?_slot (name := Str.ofString "__next__") hj.typeIs PySem.F.slot_tuple_iterator_next (wpAny_call_entry PySem.F.slot_tuple_iterator_next hj.typeIs PySem.F.entry_tuple_iterator_next ?_ (PySem.F.args_tuple_iterator_next_1 _)))
  show wpAny _ _ (field (.ref j) 0 >>= _) _ _ s
  refine wpAny_bind (wpAny_field hoj hdj (x := .ref tp) rfl ?_)
  show wpAny _ _ (if (Value.ref tp == Value.none) = true then _ else _) _ _ s
  rw [if_neg (show ¬ ((Value.ref tp == Value.none) = true) from Bool.false_ne_true)]
  show wpAny _ _ (field (.ref j) 1 >>= _) _ _ s
  refine wpAny_bind (wpAny_field hoj hdj (x := .int n 0) rfl ?_)
  show wpAny _ _ (seqItems? (.ref tp) >>= _) _ _ s
  refine wpAny_bind (wpAny_seqItems hot hdt ?_)
  simp only [Int.toNat_natCast, hy]
  refine wpAny_bind (wpAny_setField hoj hdj (by simp) (wpAny_pure ⟨y, rfl, wpAny_pure (k _ ?_ (Heap.SameBut.update ..))⟩))
  exact ⟨_, Heap.get?_update_self _ hoj (Obj.isFreed_of_fields (Obj.data_mapFields hdj _)), (Obj.cls_mapFields ..).trans hcj, by rw [Obj.data_mapFields hdj]; simp [rawInt]⟩
theorem nextTup_end {j tp : Addr} {n : Nat} {its : Array Value} {Q : Value → Shared → Prop} (hh : A.handled = none) (hj : s.heap.IsTupleIter j tp n) (ht : s.heap.IsTuple tp its) (hy : its[n]? = none)
    (k : ∀ h' e, Heap.ExtBut j s.heap h' → (∃ o, h'.get? e = some o ∧ o.cls = .type "StopIteration") → E (.ref e) { s with heap := h' }) : wpAny (model prog w) A (Builtin.SmallTypes.nextOf (.ref j)) Q E s := by
  obtain ⟨oj, hoj, hcj, hdj⟩ := id hj
  obtain ⟨ot, hot, _, nt, hdt⟩ := ht
  unfold Builtin.SmallTypes.nextOf
  refine wpAny_bind (wpAny_callSpecial?_slot (name := Str.ofString "__next__") hj.typeIs PySem.F.slot_tuple_iterator_next (wpAny_call_entry PySem.F.slot_tuple_iterator_next hj.typeIs PySem.F.entry_tuple_iterator_next ?_ (PySem.F.args_tuple_iterator_next_1 _)))
  show wpAny _ _ (field (.ref j) 0 >>= _) _ _ s
  refine wpAny_bind (wpAny_field hoj hdj (x := .ref tp) rfl ?_)
  show wpAny _ _ (if (Value.ref tp == Value.none) = true then _ else _) _ _ s
  rw [if_neg (show ¬ ((Value.ref tp == Value.none) = true) from Bool.false_ne_true)]
  show wpAny _ _ (field (.ref j) 1 >>= _) _ _ s
  refine wpAny_bind (wpAny_field hoj hdj (x := .int n 0) rfl ?_)
  show wpAny _ _ (seqItems? (.ref tp) >>= _) _ _ s
  refine wpAny_bind (wpAny_seqItems hot hdt ?_)
  simp only [Int.toNat_natCast, hy]
  refine wpAny_bind (wpAny_rule (wpAny_bind (wpAny_setField hoj hdj (by simp) ?_)))
  show wpAny _ _ (newExc (.type "StopIteration") [] >>= _) _ _ _
  refine wpAny_bind ?_
  simp only [newExc, newTuple]
  refine wpAny_bind (wpAny_newObj_type ?_ (by size_fits))
  refine wpAny_bind (m := firstArgMember _ _) (wpAny_of_eq (a := Value.none) (by first | rfl | (simp only [firstArgMember]; rfl)) ?_)
  refine wpAny_newObj_type ?_ (by size_fits)
  simp only [raiseNew]
  refine wpAny_bind (wpAny_handled ?_)
  first | rw [show A.in1.handled = none from hh] | rw [hh]
  refine wpAny_bind (wpAny_pure (wpAny_throw ?_))
  exact k _ _ (((Heap.SameBut.update ..).extBut.push _).push _) ⟨_, Heap.get?_push_size _ rfl, rfl⟩
end
theorem drawsTup {prog : Program} {w : World} {A : Around} (hh : A.handled = none) (j tp : Addr) (hne : j ≠ tp) (its : Array Value) :
    Draws prog w A j [j, tp] its.size (fun i v => its[i]? = some v) (fun i h => h.IsTupleIter j tp i ∧ h.IsTuple tp its) where
  live := fun _ _ st => let ⟨⟨o, ho, _⟩, _⟩ := st; ⟨o, ho⟩
  frame := fun _ _ _ st hk => let ⟨⟨o, ho, r⟩, ⟨o2, ho2, r2⟩⟩ := st; ⟨⟨o, hk j (by simp) o ho, r⟩, ⟨o2, hk tp (by simp) o2 ho2, r2⟩⟩
  item := fun i s Q E hi st hQ => by
    refine nextTup_item st.1 st.2 (y := its[i]) (by simp [hi]) fun h' hit' hs' => ?_
    obtain ⟨o2, ho2, r2⟩ := st.2
    exact hQ _ h' s.toks (by simp [hi]) ⟨hit', o2, (hs'.2 tp (Ne.symm hne)).trans ho2, r2⟩ hs'
  done := fun s Q E st hE => nextTup_end hh st.1 st.2 (by simp) hE
theorem meets_enumT (l : Addr) (items : Array Value) (n : Nat) (dct : Option Addr) (sl : Array (Option Value)) :
    Meets (Builtin.«enumerate.__new__» ⟨[.type "enumerate", .ref l], []⟩) (fun _ R s => s.heap.get? l = some { cls := .type "tuple", dict := dct, data := .seq items n, slots := sl } ∧
      R (.ok (.ret (.ref (s.heap.push { cls := .type "tuple_iterator", data := .fields #[.ref l, .int 0 0] }).objs.size)))
        { s with heap := (s.heap.push { cls := .type "tuple_iterator", data := .fields #[.ref l, .int 0 0] }).push { cls := .type "enumerate", data := .fields #[.none, .bool false, .ref s.heap.objs.size, rawInt 0, .none, .none] } }) :=
  .of_wp fun prog w A R s h => by
    obtain ⟨hp, g, d, tk, os⟩ := s
    obtain ⟨hl, h⟩ := h
    have hsub := sub_enumerate
    have hL : Heap.IsTuple (Shared.heap ⟨hp, g, d, tk, os⟩) l items := ⟨_, hl, rfl, n, rfl⟩
    wp_walk using wpAny_loadPart' hl
    refine wpAny_stack_any fun st => wpAny_pure ?_
    split
    · rename_i c _ _ _ _ _
      cases (c == Value.type "enumerate")
      · wp_walk using wpAny_loadPart' hl, wpAny_pyIter_tuple hL
        exact ⟨_, rfl, h⟩
      · wp_walk using wpAny_loadPart' hl, wpAny_pyIter_tuple hL
        exact ⟨_, rfl, h⟩
    · wp_walk using wpAny_loadPart' hl, wpAny_pyIter_tuple hL
      exact ⟨_, rfl, h⟩
theorem call_enumT {prog : Program} {w : World} {A : Around} {E : Value → Shared → Prop} {s : Shared} {l : Addr} {items : Array Value} {Q : Value → Shared → Prop} (hL : s.heap.IsTuple l items)
    (h : ∀ h', IsEnum h' (s.heap.objs.size + 1) s.heap.objs.size 0 .none → h'.IsTupleIter s.heap.objs.size l 0 → (∀ b o, s.heap.get? b = some o → h'.get? b = some o) → Q (.ref (s.heap.objs.size + 1)) { s with heap := h' }) :
    wpAny (model prog w) A (call (.type "enumerate") [.ref l]) Q E s := by
  obtain ⟨⟨c, dct, dt, sl⟩, hl, hc, n, hd⟩ := hL
  dsimp only at hc hd
  subst hc hd
  refine callType_new PySem.F.called_enumerate (by decide) (PySem.F.typeCall_enumerate_1 _) (PySem.F.newCall_enumerate_1 _) (fun obj => PySem.F.args_object_init_2 obj _) PySem.F.entry_enumerate_new (meets_enumT l items n dct sl) ⟨hl, ?_⟩
  have hz : (s.heap.push { cls := .type "tuple_iterator", data := .fields #[.ref l, .int 0 0] }).objs.size = s.heap.objs.size + 1 := Heap.size_push ..
  show _ ∧ _
  rw [hz]
  have he : IsEnum ((s.heap.push { cls := .type "tuple_iterator", data := .fields #[.ref l, .int 0 0] }).push
      { cls := .type "enumerate", data := .fields #[.none, .bool false, .ref s.heap.objs.size, rawInt 0, .none, .none] }) (s.heap.objs.size + 1) s.heap.objs.size 0 .none := by
    have := Heap.get?_push_size (s.heap.push { cls := .type "tuple_iterator", data := .fields #[.ref l, .int 0 0] })
      (o := { cls := .type "enumerate", data := .fields #[.none, .bool false, .ref s.heap.objs.size, rawInt 0, .none, .none] }) rfl
    rw [hz] at this; exact this
  exact ⟨⟨_, he, rfl⟩, h _ he ⟨_, Heap.get?_push_of_some _ (Heap.get?_push_size _ rfl), rfl, rfl⟩ fun b o x => Heap.get?_push_of_some _ (Heap.get?_push_of_some _ x)⟩
noncomputable def ItE (ys : List V) : It :=
  ⟨fun i _ => i < ys.length, fun i H v H' => ∃ T x, v = .ref T ∧ H T = none ∧ H' = upd H T (.tup [.int (i : Nat), x]) ∧ ys[i]? = some x, fun i _ => ys.length ≤ i⟩
theorem enum_out {X : Cx} {pins : List (Addr × Obj)} {σ : L2.St} {H : Hp} {s : Shared} {E : Value → Shared → Prop} {elts : List Expr} {kk : Nat} {tpos : Pos} {e it : Addr} {i : Nat} {x : V} {u : Value} {tk : Tok} {h' : Heap} (I : Inv X pins σ H s) (hf : ∀ b ∈ [e, it], FpOk X pins H b)
    (hel : e < s.heap.objs.size) (hil : it < s.heap.objs.size) (ru : RelV x u) (ho : IsEnumOut h' e it ((i : Int) + 1) u s.heap.objs.size) (hT : h'.get? s.heap.objs.size = some { cls := .type "tuple", data := .seq #[.int i tk, u] })
    (hk : ∀ b o, b ≠ e → b ≠ it → s.heap.get? b = some o → h'.get? b = some o) {Q : Unit → Shared → Prop}
    (k : ∀ h'', Inv X pins σ (upd H s.heap.objs.size (.tup [.int (i : Nat), x])) { s with heap := h'', toks := tk + 1 } → IsEnum h'' e it ((i : Int) + 1) u → Heap.SameBut e h' h'' → (∀ b ∈ [e, it], upd H s.heap.objs.size (.tup [.int (i : Nat), x]) b = none) → Q () { s with heap := h'', toks := tk + 1 }) :
    wpAny (model X.prog X.w) X.A (letOwnedTupleGo (.Tuple elts kk tpos) (.ref e) (.ref s.heap.objs.size)) Q E { s with heap := h', toks := tk + 1 } := by
  refine wpAny_letOwnedTupleGo_enum (s := { s with heap := h', toks := tk + 1 }) ho fun h'' he' sb => ?_
  have hT2 : h''.get? s.heap.objs.size = some { cls := .type "tuple", data := .seq #[.int i tk, u] } := (sb.2 _ (Nat.ne_of_gt hel)).trans hT
  have new : ObjOk X.prog X.w (upd H s.heap.objs.size (.tup [.int (i : Nat), x])) h'' s.heap.objs.size (.tup [.int (i : Nat), x]) :=
    ⟨by show 2 ≤ sizeLine; decide, [.int i tk, u], .cons ⟨_, rfl⟩ (.cons ru .nil), ⟨_, hT2, rfl, _, rfl⟩⟩
  refine k h'' (I.turnedNew (ch := [e, it]) (fun b ob hb q => (sb.2 b (fun z => hb (by simp [z]))).trans (hk b ob (fun z => hb (by simp [z])) (fun z => hb (by simp [z])) q)) hf (Nat.le_refl _) new) he' sb fun b hb => ?_
  have hb' : b < s.heap.objs.size := by
    have e' : b = e ∨ b = it := by simpa using hb
    rcases e' with z | z
    · rw [z]; exact hel
    · rw [z]; exact hil
  rw [upd_ne (Nat.ne_of_lt hb')]
  exact (hf b hb).1
theorem turn_enumS {P : Program} {w : World} {K : Frag} {elts : List Expr} {kk : Nat} {tpos : Pos} (z : Str) (t : Tok) (e it : Addr) :
    Turn P w K (.Tuple elts kk tpos) (ItE (z.cps.toList.map fun c => V.str ⟨#[c]⟩)) [e, it] e (fun i h => (∃ old, IsEnum h e it ((i : Nat) : Int) old) ∧ h.IsStrIter it (strIterType z) z t i ∧ e ≠ it ∧ i ≤ z.cps.size) where
  mem := by simp
  obj := fun i h st b hb => by
    obtain ⟨⟨old, he⟩, ⟨o, ho, hc, hd⟩, _⟩ := st
    have e' : b = e ∨ b = it := by simpa using hb
    rcases e' with q | q
    · rw [q]; exact ⟨_, he, fun v q => nomatch q⟩
    · rw [q]; exact ⟨o, ho, fun v q => by rw [hd] at q; cases q⟩
  keep := fun i h h' st k => let ⟨⟨old, he⟩, ⟨o, ho, r⟩, hne⟩ := st; ⟨⟨old, k e (by simp) _ he⟩, ⟨o, k it (by simp) o ho, r⟩, hne⟩
  item := by
    intro X hP hw hK hc i pins s σ H E I hf st hg
    subst hP hw hK
    obtain ⟨⟨old, he⟩, hit, hne, _⟩ := st
    have hlen : i < z.cps.size := by
      have : i < (z.cps.toList.map fun c => V.str ⟨#[c]⟩).length := hg
      simpa using this
    have D : Draws X.prog X.w X.A.in1 it [it] z.cps.size (fun i v => ∃ c u, z.cps[i]? = some c ∧ v = .str ⟨#[c]⟩ u) (fun i h => h.IsStrIter it (strIterType z) z t i) := by
      unfold strIterType
      split
      · exact Draws.strAscii (A := X.A.in1) (I.ok.hd hc) it z t
      · exact Draws.strWide (A := X.A.in1) (I.ok.hd hc) it z t
    have hel : e < s.heap.objs.size := Heap.lt_size he
    have hil : it < s.heap.objs.size := by obtain ⟨_, q, _⟩ := hit; exact Heap.lt_size q
    refine wpAny_pyNext_enum_itemD D he hit hlen hne (by simpa using hne) fun u h' tk hP ho hit' hT hsz hk => ?_
    obtain ⟨c, tc, hcz, rfl⟩ := hP
    refine ⟨_, rfl, enum_out (x := .str ⟨#[c]⟩) I hf hel hil ⟨tc, rfl⟩ ho hT hk fun h'' I1 he' sb hfr => ?_⟩
    refine ⟨.ref s.heap.objs.size, _, I1, rfl, ⟨_, _, rfl, I.hok.fresh (Nat.le_refl _), rfl, ?_⟩, ⟨⟨.str ⟨#[c]⟩ tc, ?_⟩, ?_, hne, hlen⟩, hfr⟩
    · rw [List.getElem?_map, Array.getElem?_toList, hcz]; rfl
    · have e1 : ((i + 1 : Nat) : Int) = (i : Int) + 1 := by omega
      rw [e1]; exact he'
    · obtain ⟨o, ho', r⟩ := hit'
      exact ⟨o, (sb.2 it (Ne.symm hne)).trans ho', r⟩
  done := by
    intro X hP hw hK hc i pins s σ H E I hf st hg
    subst hP hw hK
    obtain ⟨⟨old, he⟩, hit, hne, hle⟩ := st
    obtain ⟨f0, f1, f2, f3, f4, f5⟩ := hf it (by simp)
    have ei : i = z.cps.size := by
      have : (z.cps.toList.map fun c => V.str ⟨#[c]⟩).length ≤ i := hg
      simp at this
      omega
    subst ei
    have D : Draws X.prog X.w X.A.in1 it [it] z.cps.size (fun i v => ∃ c u, z.cps[i]? = some c ∧ v = .str ⟨#[c]⟩ u) (fun i h => h.IsStrIter it (strIterType z) z t i) := by
      unfold strIterType
      split
      · exact Draws.strAscii (A := X.A.in1) (I.ok.hd hc) it z t
      · exact Draws.strWide (A := X.A.in1) (I.ok.hd hc) it z t
    exact wpAny_pyNext_enum_endD D he hit fun h' eb => ⟨rfl, I.turned (t' := s.toks) (fun b o hb q => eb b o hb q) f0 f1 f3 f4 f5⟩
  self := fun A i s Q E st h => let ⟨⟨_, he⟩, _⟩ := st; wpAny_pyIter_enum he h
theorem turn_enumT {P : Program} {w : World} {K : Frag} {elts : List Expr} {kk : Nat} {tpos : Pos} (a : Addr) (ys : List V) (hT : ∀ H, SqT K H a ys) (e it : Addr) :
    Turn P w K (.Tuple elts kk tpos) (ItE ys) [e, it] e (fun i h => (∃ old, IsEnum h e it ((i : Nat) : Int) old) ∧ h.IsTupleIter it a i ∧ e ≠ it ∧ i ≤ ys.length) where
  mem := by simp
  obj := fun i h st b hb => by
    obtain ⟨⟨old, he⟩, ⟨o, ho, hc, hd⟩, _⟩ := st
    have e' : b = e ∨ b = it := by simpa using hb
    rcases e' with q | q
    · rw [q]; exact ⟨_, he, fun v q => nomatch q⟩
    · rw [q]; exact ⟨o, ho, fun v q => by rw [hd] at q; cases q⟩
  keep := fun i h h' st k => let ⟨⟨old, he⟩, ⟨o, ho, r⟩, hne⟩ := st; ⟨⟨old, k e (by simp) _ he⟩, ⟨o, k it (by simp) o ho, r⟩, hne⟩
  item := by
    intro X hP hw hK hc i pins s σ H E I hf st hg
    subst hP hw hK
    obtain ⟨⟨old, he⟩, hit, hne, _⟩ := st
    obtain ⟨its, rv, p, hz⟩ := I.tuple (hT H)
    have hlen : i < its.toArray.size := by
      rw [List.size_toArray, ← rv.length]
      exact hg
    have nia : it ≠ a := fun q => by
      obtain ⟨o, ho, hco, _⟩ := hit
      obtain ⟨o2, ho2, hc2, _⟩ := p
      rw [q, ho2] at ho
      cases ho
      rw [hc2] at hco
      exact absurd hco (by simp)
    have nea : e ≠ a := fun q => by
      obtain ⟨o2, ho2, hc2, _⟩ := p
      have he' : s.heap.get? e = _ := he
      rw [q, ho2] at he'
      cases he'
      exact absurd hc2 (by simp)
    have D := drawsTup (prog := X.prog) (w := X.w) (A := X.A.in1) (I.ok.hd hc) it a nia its.toArray
    have hel : e < s.heap.objs.size := Heap.lt_size he
    have hil : it < s.heap.objs.size := by obtain ⟨_, q, _⟩ := hit; exact Heap.lt_size q
    refine wpAny_pyNext_enum_itemD D he ⟨hit, p⟩ hlen hne (by simp [hne, nea]) fun u h' tk hP ho hit' hTt hsz hk => ?_
    obtain ⟨y, hy⟩ : ∃ y, ys[i]? = some y := ⟨_, List.getElem?_eq_getElem hg⟩
    obtain ⟨u', hu', ru⟩ := rv.get hy
    have eu : u' = u := by
      have q : its.toArray[i]? = some u := hP
      rw [List.getElem?_toArray, hu'] at q
      exact Option.some.inj q
    subst eu
    refine ⟨_, rfl, enum_out (x := y) I hf hel hil ru ho hTt hk fun h'' I1 he' sb hfr => ?_⟩
    refine ⟨.ref s.heap.objs.size, _, I1, rfl, ⟨_, _, rfl, I.hok.fresh (Nat.le_refl _), rfl, hy⟩, ⟨⟨u', ?_⟩, ?_, hne, hg⟩, hfr⟩
    · have e1 : ((i + 1 : Nat) : Int) = (i : Int) + 1 := by omega
      rw [e1]; exact he'
    · obtain ⟨o, ho', r⟩ := hit'.1
      exact ⟨o, (sb.2 it (Ne.symm hne)).trans ho', r⟩
  done := by
    intro X hP hw hK hc i pins s σ H E I hf st hg
    subst hP hw hK
    obtain ⟨⟨old, he⟩, hit, hne, hle⟩ := st
    obtain ⟨f0, f1, f2, f3, f4, f5⟩ := hf it (by simp)
    obtain ⟨its, rv, p, hz⟩ := I.tuple (hT H)
    have ei : i = its.toArray.size := by
      have : ys.length ≤ i := hg
      rw [List.size_toArray, ← rv.length]
      omega
    have nia : it ≠ a := fun q => by
      obtain ⟨o, ho, hco, _⟩ := hit
      obtain ⟨o2, ho2, hc2, _⟩ := p
      rw [q, ho2] at ho
      cases ho
      rw [hc2] at hco
      exact absurd hco (by simp)
    have D := drawsTup (prog := X.prog) (w := X.w) (A := X.A.in1) (I.ok.hd hc) it a nia its.toArray
    rw [ei] at hit
    exact wpAny_pyNext_enum_endD D he ⟨hit, p⟩ fun h' eb => ⟨rfl, I.turned (t' := s.toks) (fun b o hb q => eb b o hb q) f0 f1 f3 f4 f5⟩
  self := fun A i s Q E st h => let ⟨⟨_, he⟩, _⟩ := st; wpAny_pyIter_enum he h
noncomputable def iEnumX (K : Frag) (ta : TA) : TI := fun σ H R => ta σ H fun vs H1 => (∃ z, vs = [.str z] ∧ R (ItE (z.cps.toList.map fun c => V.str ⟨#[c]⟩)) H1) ∨ ∃ a ys, vs = [.ref a] ∧ TupC K a ys ∧ R (ItE ys) H1
theorem pi_enumX {X : Cx} {e : Expr} {ta : TA} {p pos tpos : Pos} {elts : List Expr} {kk : Nat} (hg : Gl X "enumerate") (hm : X.mg "enumerate" = none) (ha : PA X [e] ta) (hs : starEach [e] X.env = [(false, eval e X.env)] := by rfl) :
    PI X (.Tuple elts kk tpos) (.Call (.Name "enumerate" p) [e] [] pos) (iEnumX X.K ta) := by
  intro pins s σ H R I h
  refine Call_ (ld_blt I hg hm boot_enumerate (PyProof.Rows.callWith_type1 (thn (ha pos pins s σ H _ I h) fun us s1 ⟨vs, H1, I1, r1, q1⟩ => ?_) hs rfl))
  have fin : ∀ b ∈ [s1.heap.objs.size + 1, s1.heap.objs.size], FpOk X pins H1 b := fun b hb => by
    have e' : b = s1.heap.objs.size + 1 ∨ b = s1.heap.objs.size := by simpa using hb
    have hle : s1.heap.objs.size ≤ b := by
      rcases e' with z | z
      · rw [z]; exact Nat.le_add_right _ _
      · rw [z]; exact Nat.le_refl _
    exact I1.fpOk hle (I1.hok.fresh hle)
  rcases q1 with ⟨z, ex, q⟩ | ⟨a, ys, ex, hq, q⟩
  · subst ex
    cases r1 with
    | cons r rr =>
      cases rr
      obtain ⟨t, rfl⟩ := r
      refine call_enumerate_str fun h' he hit hsz hk => wpAny_pyIter_enum he ?_
      have I2 : Inv X pins σ H1 { s1 with heap := h' } := I1.kept (t' := s1.toks) hk
      exact ⟨s1.heap.objs.size + 1, [s1.heap.objs.size + 1, s1.heap.objs.size], _, _, H1, rfl, I2, turn_enumS z t (s1.heap.objs.size + 1) s1.heap.objs.size, ⟨⟨.none, he⟩, hit, Nat.succ_ne_self _, Nat.zero_le _⟩, fin, q⟩
  · subst ex
    cases r1 with
    | cons r rr =>
      cases rr
      cases r
      obtain ⟨its, rv, p', hz⟩ := I1.tuple (hq H1)
      refine call_enumT (show s1.heap.IsTuple a its.toArray from p') fun h' he hit hk => wpAny_pyIter_enum he ?_
      have I2 : Inv X pins σ H1 { s1 with heap := h' } := I1.kept (t' := s1.toks) hk
      exact ⟨s1.heap.objs.size + 1, [s1.heap.objs.size + 1, s1.heap.objs.size], _, _, H1, rfl, I2, turn_enumT a ys hq (s1.heap.objs.size + 1) s1.heap.objs.size, ⟨⟨.none, he⟩, hit, Nat.succ_ne_self _, Nat.zero_le _⟩, fin, q⟩
end Lu
set_option Elab.async false
set_option linter.all false
set_option maxRecDepth 100000
set_option maxHeartbeats 4000000
namespace Lu
open PySem PySem.Spec PyProof.Rows L2 LX
open PySem.W (Frag findIn specialIn instIn typeIn keepIn readsIn findCls isFn)
structure TxB (K : Frag) (mg : Str → Option Value) : Prop where
  ntuple : mg "tuple" = none
  nrange : mg "range" = none
  nord : mg "ord" = none
  nstr : mg "str" = none
  nenum : mg "enumerate" = none
section
variable {P : Program} {w : World} {K : Frag} {mg : Str → Option Value} {base : Heap}
noncomputable def codesI (z : Str) : List Int := z.cps.toList.map fun (c : Nat) => (c : Int)
theorem codesI_V (z : Str) : (z.cps.toList.map fun (c : Nat) => V.int (c : Int)) = (codesI z).map V.int := by
  unfold codesI
  rw [List.map_map]
  rfl
theorem kI_inj {a b : List Int} : kI a = kI b ↔ a = b := by
  unfold kI
  constructor
  · intro h
    induction a generalizing b with
    | nil =>
      cases b with
      | nil => rfl
      | cons y b => cases h
    | cons x a ih =>
      cases b with
      | nil => cases h
      | cons y b =>
        rw [List.map_cons, List.map_cons] at h
        injection h with h1 h2
        injection h1 with h1
        rw [h1, ih h2]
  · intro h
    rw [h]
noncomputable def SgAt (K : Frag) (H : Hp) (sg : Addr) (S0 : List (Str × V)) : Prop := ∃ vs, (SqL K H sg vs ∨ SqT K H sg vs) ∧ Paired (fun s v => ∃ q, v = .ref q ∧ SqT K H q [.str s.1, s.2]) S0 vs
noncomputable def sgI (S0 : List (Str × V)) : List (List Int × V) := S0.map fun s => (codesI s.1, s.2)
theorem SqT.but {x CS dx : Addr} {fs : List (Str × V)} {H H' : Hp} {a : Addr} {xs : List V} (k : But x H H') (hx : H x = some (.ins CS dx fs)) (h : SqT K H a xs) : SqT K H' a xs := by
  rcases h with (h | ⟨o, h⟩) | h
  · exact .inl (.inl (k _ _ (ne_of h hx (by intro z; cases z)) h))
  · exact .inl (.inr ⟨o, k _ _ (ne_of h hx (by intro z; cases z)) h⟩)
  · exact .inr h
theorem isBeg_snoc (S : List (List Int × V)) (s : List Int × V) (ks : List Int) : isBeg (S ++ [s]) ks = (isBeg S ks || ks.isPrefixOf s.1) := by
  unfold isBeg
  rw [List.any_append]
  simp
theorem lookS_snoc (S : List (List Int × V)) (s : List Int × V) (ks : List Int) : lookS (S ++ [s]) ks = if s.1 = ks then some s.2 else lookS S ks := by
  unfold lookS
  rw [List.foldl_append]
  rfl
theorem cutV_take (xs : List V) (n : Nat) : cutV xs none (some (n : Int)) = xs.take n := by
  unfold cutV
  rw [HT.sIx_none, HT.sIx_nat, List.drop_zero, Nat.sub_zero]
  by_cases h : n ≤ xs.length
  · rw [Nat.min_eq_left h]
  · rw [Nat.min_eq_right (by omega), List.take_length, List.take_of_length_le (by omega)]
noncomputable def sp_SignTable_init (CS : Addr) (K : Frag) : Sp := fun vs H Q _ => ∃ (x dx sg : Addr) (S0 : List (Str × V)), vs = [.ref x, .ref sg] ∧ H x = some (.ins CS dx []) ∧ SgAt K H sg S0 ∧ S0.length ≤ 200 ∧ (∀ s ∈ S0, s.1.length ≤ 100) ∧ ∀ H', Tab CS H' x (sgI S0) → But x H H' → Q .non H'
theorem ok_SignTable_init {CR CS CF CP : Addr} {f : Addr} {fd : FuncData} (F : Fun K "__init__" "SignTable.__init__" s_SignTable_init f fd) (T : TxR K mg CR CS CF CP) (B : TxB K mg) : FnOk P w K mg base (CX1 P w) 1 f fd ["self", "signs"] (sp_SignTable_init CS K) := by
  refine FunX F sc_SignTable_init (fun vs H Q E h => ?_) (fun cdv A outer s H vs Q E hr h => ?_)
  · obtain ⟨x, dx, sg, S0, rfl, _⟩ := h
    rfl
  · obtain ⟨x, dx, sg, S0, rfl, hx, ⟨vs, hsq, hpr⟩, hS0, hsl, k⟩ := h
    have hu := hu_of hr
    refine ⟨_, pss_cons (ps_fld (pv 0) pe_dnewT rfl) (pss_cons (ps_fld (pv 0) pe_dnewT rfl)
      (pss_one (ps_for ownX rfl (pi_seq (pv 1)) (pg_tup (n := 2) rfl (pgs_cons (pg_name (i := 2) sc_SignTable_init.nd rfl (Or.inl rfl)) (pgs_cons (pg_name (i := 3) sc_SignTable_init.nd rfl (Or.inl rfl)) pgs_nil)))
        (pss_cons (ps_set (i := 4) sc_SignTable_init.nd rfl (Or.inl rfl) (pe_callTy call_tuple_of rfl B.ntuple (by decide +kernel) (pa_cons (pe_lc (own := [("letter", 6)]) rfl sc_SignTable_init.nd (pi_str (pv 2)) (blkOk_by (by kernel_rfl)) (fun _ _ _ _ _ => pg_name (i := 6) sc_SignTable_init.nd rfl (Or.inl rfl) (.inr rfl)) (fun _ _ _ _ _ => pts_nil)
            (fun _ _ _ _ _ => pe_callB call_ord rfl B.nord (by decide +kernel) (pa_cons (pv 6) pa_nil))) pa_nil)))
        (pss_cons (ps_for ownX rfl (pi_range2 rfl B.nrange (pa_cons pe_int (pa_cons (pe_op op_add (pe_callB call_len rfl T.nlen (by decide +kernel) (pa_cons (pv 4) pa_nil)) pe_int) pa_nil))) (pg_name (i := 5) sc_SignTable_init.nd rfl (Or.inl rfl))
          (pss_one (ps_dput hu (pe_fld (pv 0) rfl) (pe_slice sl_tupA (pv 4) po_none (po_some (pv 5))) pe_bl rfl)))
        (pss_one (ps_dput hu (pe_fld (pv 0) rfl) (pv 4) (pv 3) rfl))))))), ?_⟩
    intro bd hbd
    refine ⟨_, rfl, x, CS, dx, [], rfl, by rw [upd_ne (ne_of_none hx hbd)]; exact hx, T.cS, T.nb, (by show 0 < 1000; decide), ?_⟩
    have nxb : x ≠ bd := ne_of_none hx hbd
    intro md hmd
    have hmd0 : H md = none := by
      cases e : H md with
      | none => rfl
      | some o =>
        by_cases q : md = x
        · rw [q, upd_same] at hmd; cases hmd
        · rw [upd_ne q, upd_ne (ne_of_none e hbd), e] at hmd; cases hmd
    have nxm : x ≠ md := ne_of_none hx hmd0
    have nbm : bd ≠ md := fun z => by
      rw [← z, upd_ne (Ne.symm nxb), upd_same] at hmd
      cases hmd
    refine ⟨_, rfl, x, CS, dx, _, rfl, by rw [upd_ne nxm, upd_same], T.cS, T.nm, (by show 1 < 1000; decide), ?_⟩
    have etf : putF "meanings" (V.ref md) (putF "beginnings" (V.ref bd) []) = tf bd md := by
      show (if ("beginnings" : Str) = "meanings" then _ else ((("beginnings" : Str), V.ref bd) :: putF "meanings" (.ref md) [])) = _
      rw [if_neg (by decide +kernel)]
      rfl
    rw [etf]
    generalize hH0 : upd (upd (upd (upd H bd (.dT [])) x (.ins CS dx (putF "beginnings" (V.ref bd) []))) md (.dT [])) x (.ins CS dx (tf bd md)) = H0
    have b0 : But x H H0 := fun b o n z => by
      rw [← hH0, upd_ne n, upd_ne (ne_of_none z hmd0), upd_ne n, upd_ne (ne_of_none z hbd)]
      exact z
    let Pv : Nat → L2.St → Hp → Prop := fun i σ H' => ∃ (v2 v3 v4 v5 v6 : Option V) (Bd Md : List (List Key × V)), σ = [some (.ref x), some (.ref sg), v2, v3, v4, v5, v6] ∧ H' x = some (.ins CS dx (tf bd md)) ∧ H' bd = some (.dT Bd) ∧ H' md = some (.dT Md) ∧ But x H H' ∧
      (∀ ks : List Int, ks ≠ [] → (valV Bd (kI ks)).isSome = isBeg (sgI (S0.take i)) ks) ∧ (∀ ks : List Int, valV Md (kI ks) = lookS (sgI (S0.take i)) ks) ∧ Bd.length ≤ i * 101 ∧ Md.length ≤ i
    have p0 : Pv 0 [some (.ref x), some (.ref sg), none, none, none, none, none] H0 := by
      refine ⟨none, none, none, none, none, [], [], rfl, by rw [← hH0]; exact upd_same, ?_, ?_, b0, fun ks _ => rfl, fun ks => rfl, Nat.zero_le _, Nat.zero_le _⟩
      · rw [← hH0, upd_ne (Ne.symm nxb), upd_ne nbm, upd_ne (Ne.symm nxb), upd_same]
      · rw [← hH0, upd_ne (Ne.symm nxm), upd_same]
    have fin : ∀ σ H', Pv S0.length σ H' → Q .non H' := fun σ H' ⟨v2, v3, v4, v5, v6, Bd, Md, _, e1, e2, e3, b, h1, h2, _, _⟩ => by
      rw [List.take_length] at h1 h2
      exact k H' ⟨dx, bd, md, Bd, Md, e1, e2, e3, h1, h2⟩ b
    have turn : ∀ (D : Ends) (tb : TS), (∀ (i : Nat) (v : V) (σ : L2.St) (H' : Hp), vs[i]? = some v → Pv i σ H' → gTup K 2 (gCons (gName 2) (gCons (gName 3) gNil)) v σ H' fun σ2 H2 => tb { D with nx := Pv (i + 1), ct := Pv (i + 1), bk := D.nx } σ2 H2) →
        (∀ σ H', Pv S0.length σ H' → D.nx σ H') → ((∃ xs, SqL K H0 sg xs) ∧ ∃ W : Nat → Nat → L2.St → Hp → Prop, (∃ m, W 0 m [some (.ref x), some (.ref sg), none, none, none, none, none] H0) ∧ ∀ i m σ H, W i m σ H → ((Itl K sg).stop i H ∧ D.nx σ H) ∨ ((Itl K sg).go i H ∧ ∃ N : L2.St → Hp → Prop, (∀ σ' H', N σ' H' → ∃ m', m' < m ∧ W (i + 1) m' σ' H') ∧ ∀ x H', (Itl K sg).yld i H x H' → gTup K 2 (gCons (gName 2) (gCons (gName 3) gNil)) x σ H' fun σ2 H2 => tb { D with nx := N, ct := N, bk := D.nx } σ2 H2)) ∨
        ((∃ xs, SqT K H0 sg xs) ∧ ∃ W : Nat → Nat → L2.St → Hp → Prop, (∃ m, W 0 m [some (.ref x), some (.ref sg), none, none, none, none, none] H0) ∧ ∀ i m σ H, W i m σ H → ((Itt K sg).stop i H ∧ D.nx σ H) ∨ ((Itt K sg).go i H ∧ ∃ N : L2.St → Hp → Prop, (∀ σ' H', N σ' H' → ∃ m', m' < m ∧ W (i + 1) m' σ' H') ∧ ∀ x H', (Itt K sg).yld i H x H' → gTup K 2 (gCons (gName 2) (gCons (gName 3) gNil)) x σ H' fun σ2 H2 => tb { D with nx := N, ct := N, bk := D.nx } σ2 H2)) := fun D tb hturn hend => by
      have hlen := Paired.len' hpr
      rcases hsq with hq | hq
      · exact .inl ⟨⟨_, But.seq b0 hx hq⟩, for_list (K := K) (a := sg) (xs := vs) Pv p0 (fun i σ H' _ ⟨_, _, _, _, _, _, _, _, _, _, _, b, _⟩ => But.seq b hx hq) (fun i v σ H' => hturn i v σ H') fun σ H' p => hend σ H' (by rw [hlen]; exact p)⟩
      · exact .inr ⟨⟨_, SqT.but b0 hx hq⟩, for_tup (K := K) (a := sg) (xs := vs) Pv p0 (fun i σ H' _ ⟨_, _, _, _, _, _, _, _, _, _, _, b, _⟩ => SqT.but b hx hq) (fun i v σ H' => hturn i v σ H') fun σ H' p => hend σ H' (by rw [hlen]; exact p)⟩
    refine ⟨_, rfl, sg, rfl, turn _ _ ?_ fin⟩
    rintro i v σ H1 hv ⟨v2, v3, v4, v5, v6, Bd, Md, rfl, ex, eB, eM, hb, hBd, hMd, hlB, hlM⟩
    obtain ⟨⟨z, mv⟩, hs, q, rfl, hq⟩ := paired_at hpr hv
    have hil : i < S0.length := (List.getElem?_eq_some_iff.mp hs).1
    have hz : z.length ≤ 100 := hsl (z, mv) (List.mem_of_getElem? hs)
    have hzl : z.cps.toList.length = z.length := by simp [Str.length]
    have htk : S0.take (i + 1) = S0.take i ++ [(z, mv)] := by rw [List.take_add_one, hs]; rfl
    refine ⟨q, _, rfl, SqT.but hb hx hq, rfl, _, _, rfl, _, _, rfl, rfl, ?_⟩
    refine ⟨_, rfl, z, rfl, fun D hD => ?_⟩
    refine lc_str (x := z) (fun j H' => H' = upd H1 D (.lst (((codesI z).map V.int).take j))) rfl ?_ ?_
    · rintro j c H' hc rfl
      refine ⟨rfl, _, rfl, _, rfl, rfl, _, upd_same, ?_, ?_⟩
      · rw [List.length_take, List.length_map, sizeLine_eq]
        unfold codesI
        rw [List.length_map]
        omega
      · have hc' : ((codesI z).map V.int)[j]? = some (V.int (c : Nat)) := by
          rw [← codesI_V, List.getElem?_map, hc]
          rfl
        rw [upd_upd, List.take_add_one, hc']
        rfl
    rintro H' rfl
    have etk : ((codesI z).map V.int).take z.cps.size = (codesI z).map V.int := List.take_of_length_le (by unfold codesI; simp)
    rw [etk]
    refine ⟨D, _, rfl, .inl ⟨SqL.of upd_same, fun tc htc => ?_⟩⟩
    have hD1 : ∀ b o, H1 b = some o → (upd H1 D (.lst ((codesI z).map V.int))) b = some o := fun b o y => by rw [upd_ne (ne_of_none y hD)]; exact y
    have hD2 : ∀ b o, H1 b = some o → (upd (upd H1 D (.lst ((codesI z).map V.int))) tc (.tup ((codesI z).map V.int))) b = some o := fun b o y => by rw [upd_ne (ne_of_none (hD1 b o y) htc)]; exact hD1 b o y
    have hcl : (codesI z).length ≤ 100 := by unfold codesI; rw [List.length_map]; omega
    generalize hH2 : upd (upd H1 D (.lst ((codesI z).map V.int))) tc (.tup ((codesI z).map V.int)) = H2 at hD2
    have etc : H2 tc = some (.tup ((codesI z).map V.int)) := by rw [← hH2]; exact upd_same
    refine ⟨_, rfl, _, _, rfl, .inr ⟨_, SqT.of etc, rfl⟩, _, _, rfl, rfl, 1, _, rfl, ⟨by decide, by decide, by rw [List.length_map]; omega, by rw [List.length_map]; omega⟩, ?_⟩
    have en : ((((((codesI z).map V.int).length : Nat) : Int) + 1) - 1).toNat = (codesI z).length := by rw [List.length_map]; omega
    rw [en]
    refine for_range (lo := 1) (n := (codesI z).length) (fun j σ H' => ∃ (v5 : Option V) (Bj : List (List Key × V)), σ = [some (.ref x), some (.ref sg), some (.str z), some mv, some (.ref tc), v5, v6] ∧ H' x = some (.ins CS dx (tf bd md)) ∧ H' bd = some (.dT Bj) ∧ H' md = some (.dT Md) ∧ H' tc = some (.tup ((codesI z).map V.int)) ∧ But x H H' ∧
        (∀ ks : List Int, ks ≠ [] → (valV Bj (kI ks)).isSome = (isBeg (sgI (S0.take i)) ks || (decide (ks.length ≤ j) && ks.isPrefixOf (codesI z)))) ∧ Bj.length ≤ Bd.length + j)
      ⟨v5, Bd, rfl, hD2 _ _ ex, hD2 _ _ eB, hD2 _ _ eM, etc, hb.trans (But.of hD2), fun ks hn => ?_, Nat.le_refl _⟩ ?_ ?_
    · rw [hBd ks hn]
      have : decide (ks.length ≤ 0) = false := decide_eq_false (by cases ks with | nil => exact absurd rfl hn | cons a b => simp)
      rw [this, Bool.false_and, Bool.or_false]
    · rintro j σ H3 hj ⟨v5', Bj, rfl, ex3, eB3, eM3, et3, hb3, hB3, hl3⟩
      refine ⟨_, rfl, x, CS, dx, _, _, rfl, ex3, T.cS, T.nb, rfl, _, rfl, _, rfl, _, rfl, tc, _, rfl, et3, fun kt H4 hkt s4 => ?_⟩
      have e1j : ((1 : Int) + (j : Nat)) = ((j + 1 : Nat) : Int) := by omega
      rw [e1j, cutV_take] at hkt
      have ekt : H4 kt = some (.tup ((kI ((codesI z).take (j + 1))).map kV)) := by rw [kI_ints, hkt, ← List.map_take]
      refine ⟨bd, _, rfl, DPut.t (s4 _ _ eB3) ekt (by rw [sizeLine_eq]; omega), ?_⟩
      have nbx : ∀ b o, H4 b = some o → (∀ kvs, o ≠ .dT kvs) → (upd H4 bd (.dT (putK Bj (kI ((codesI z).take (j + 1))) (.bl true)))) b = some o := fun b o y n => by
        rw [upd_ne (ne_of y (s4 _ _ eB3) (n _))]
        exact y
      refine ⟨_, putK Bj (kI ((codesI z).take (j + 1))) (.bl true), rfl, nbx _ _ (s4 _ _ ex3) (by intro kvs y; cases y), upd_same, ?_, nbx _ _ (s4 _ _ et3) (by intro kvs y; cases y), ?_, fun ks hn => ?_, ?_⟩
      · rw [upd_ne (Ne.symm nbm)]; exact s4 _ _ eM3
      · exact fun b o n y => by rw [upd_ne (ne_of_none y hbd)]; exact s4 _ _ (hb3 b o n y)
      · rw [valV_put]
        by_cases e : kI ks = kI ((codesI z).take (j + 1))
        · rw [if_pos e]
          have e' := kI_inj.mp e
          have hp : ks.isPrefixOf (codesI z) = true := List.isPrefixOf_iff_prefix.mpr (by rw [e']; exact List.take_prefix _ _)
          have hl : decide (ks.length ≤ j + 1) = true := decide_eq_true (by rw [e', List.length_take]; omega)
          rw [hp, hl]
          simp
        · rw [if_neg e, hB3 ks hn]
          congr 1
          cases hp : ks.isPrefixOf (codesI z) with
          | false => simp
          | true =>
            have hp' := List.isPrefixOf_iff_prefix.mp hp
            have hne : ¬ ks.length = j + 1 := fun q => e (kI_inj.mpr (by rw [← q]; exact List.prefix_iff_eq_take.mp hp'))
            rw [Bool.and_true, Bool.and_true, decide_eq_decide]
            omega
      · have := length_putK Bj (kI ((codesI z).take (j + 1))) (.bl true)
        omega
    · rintro σ H3 ⟨v5', Bj, rfl, ex3, eB3, eM3, et3, hb3, hB3, hl3⟩
      have ekt : H3 tc = some (.tup ((kI (codesI z)).map kV)) := by rw [kI_ints]; exact et3
      refine ⟨_, rfl, _, rfl, x, CS, dx, _, _, rfl, ex3, T.cS, T.nm, rfl, _, rfl, md, _, rfl, DPut.t eM3 ekt (by rw [sizeLine_eq]; omega), ?_⟩
      refine ⟨_, _, _, _, _, Bj, putK Md (kI (codesI z)) mv, rfl, ?_, ?_, upd_same, ?_, fun ks hn => ?_, fun ks => ?_, ?_, ?_⟩
      · rw [upd_ne nxm]; exact ex3
      · rw [upd_ne nbm]; exact eB3
      · exact fun b o n y => by rw [upd_ne (ne_of_none y hmd0)]; exact hb3 b o n y
      · rw [hB3 ks hn, htk]
        unfold sgI
        rw [List.map_append]
        show _ = isBeg (sgI (S0.take i) ++ [(codesI z, mv)]) ks
        rw [isBeg_snoc]
        congr 1
        cases hp : ks.isPrefixOf (codesI z) with
        | false => simp
        | true =>
          have hp' := List.isPrefixOf_iff_prefix.mp hp
          rw [decide_eq_true hp'.length_le]
          rfl
      · rw [valV_put, htk]
        unfold sgI
        rw [List.map_append]
        show _ = lookS (sgI (S0.take i) ++ [(codesI z, mv)]) ks
        rw [lookS_snoc]
        by_cases e : kI ks = kI (codesI z)
        · rw [if_pos e, if_pos (kI_inj.mp e).symm]
        · rw [if_neg e, if_neg (fun q => e (by rw [← q])), hMd ks]
      · omega
      · have := length_putK Md (kI (codesI z)) mv
        omega
end
end Lu
set_option Elab.async false
set_option linter.all false
set_option maxRecDepth 100000
set_option maxHeartbeats 4000000
namespace Lu
open PySem PySem.Spec PyProof.Rows L2 LX
open PySem.W (Frag findIn specialIn instIn typeIn keepIn readsIn findCls isFn)
noncomputable def lettersL : List Str := ["abcdefghiklmnopq", "0123456789xyzvuw"].map Str.ofString
noncomputable def bassL : List (List Str) := [["a", "/a", "//a", "///a", "4", "5", "6", "7"].map Str.ofString, ["7", "8", "9", "10", "11", "12", "13", "14"].map Str.ofString, ["-7", "-8", "-9", "-10", "-11", "-12", "-13", "-14"].map Str.ofString]
structure TxG (K : Frag) (mg : Str → Option Value) : Prop where
  cross : ∃ t, mg "GERMAN_CROSSINGS" = some (.str (Str.ofString "abcdefghiklmnopqrstvxyz&9") t)
  sixth : ∃ t, mg "GERMAN_SIXTH" = some (.str (Str.ofString "+ABCDEFGHIKLMNOP") t)
  first : ∃ t, mg "FIRST_BASS" = some (.int 7 t)
  frets : ∃ t, mg "FRETS" = some (.int 16 t)
  nostop : ∃ t, mg "NO_STOP" = some (.str (Str.ofString ".") t)
  letters : ∃ a, mg "FRET_LETTERS" = some (.ref a) ∧ TupC K a (lettersL.map V.str)
  basses : ∃ a b0 b1 b2, mg "BASSES" = some (.ref a) ∧ TupC K a [.ref b0, .ref b1, .ref b2] ∧ TupC K b0 ((bassL.getD 0 []).map V.str) ∧ TupC K b1 ((bassL.getD 1 []).map V.str) ∧ TupC K b2 ((bassL.getD 2 []).map V.str)
  nstr : mg "str" = none
section
variable {P : Program} {w : World} {K : Frag} {mg : Str → Option Value} {base : Heap}
noncomputable def crossS : Str := Str.ofString "abcdefghiklmnopqrstvxyz&9"
noncomputable def sixthS : Str := Str.ofString "+ABCDEFGHIKLMNOP"
noncomputable def gsign (c f : Int) : Str := if c = 6 then ⟨#[sixthS.cps.toList.getD f.toNat 0]⟩ else if f = 0 then Str.ofString (toString (6 - c)) else
  Txt.mul ⟨#[crossS.cps.toList.getD (5 * ((f - 1) % 5) + 5 - c).toNat 0]⟩ ((f - 1) / 5 + 1)
noncomputable def sp_german_sign : Sp := fun vs H Q _ => ∃ c f : Int, vs = [.int c, .int f] ∧ 1 ≤ c ∧ c ≤ 6 ∧ 0 ≤ f ∧ f ≤ 15 ∧ Q (.str (gsign c f)) H
theorem atI_getD {xs : List Nat} {i : Int} (h0 : 0 ≤ i) (h1 : i < xs.length) : atI xs i = some (xs.getD i.toNat 0) := by
  obtain ⟨j, rfl⟩ : ∃ j : Nat, i = (j : Int) := ⟨i.toNat, by omega⟩
  refine atI_nat ?_
  have hj : j < xs.length := by omega
  rw [Int.toNat_natCast, List.getElem?_eq_getElem hj, List.getD_eq_getElem?_getD, List.getElem?_eq_getElem hj]
  rfl
theorem len_cross : crossS.cps.toList.length = 25 := by decide +kernel
theorem len_sixth : sixthS.cps.toList.length = 16 := by decide +kernel
theorem small_cross : crossS.length ≤ sizeLine := by decide +kernel
theorem small_sixth : sixthS.length ≤ sizeLine := by decide +kernel
theorem ok_german_sign {f : Addr} {fd : FuncData} (F : Fun K "german_sign" "german_sign" s_german_sign f fd) (T : TxG K mg) : FnOk P w K mg base (CX1 P w) 1 f fd ["course", "fret"] sp_german_sign := by
  refine FunX F sc_german_sign (fun vs H Q E h => ?_) (fun cdv A outer s H vs Q E hr h => ?_)
  · obtain ⟨c, f, rfl, _⟩ := h
    rfl
  · obtain ⟨c, f, rfl, hc1, hc6, hf0, hf15, k⟩ := h
    refine ⟨_, pss_cons (ps_if (pt_cmpR op_eq (pv 0) pe_int (nomark _)) (pss_one (ps_ret (pe_ix ix_str (pe_gS T.sixth rfl) (pv 1) (fun _ _ => rfl)))) pss_nil)
      (pss_cons (ps_if (pt_cmpR op_eq (pv 1) pe_int (nomark _)) (pss_one (ps_ret (pe_callTy call_str_int rfl T.nstr (by decide +kernel) (pa_cons (pe_op op_sub pe_int (pv 0)) pa_nil)))) pss_nil)
      (pss_cons (ps_set (i := 2) sc_german_sign.nd rfl (Or.inl rfl) (pe_ix ix_str (pe_gS T.cross rfl) (pe_op op_sub (pe_op op_add (pe_op op_mul pe_int (pe_op op_mod (pe_op op_sub (pv 1) pe_int) pe_int)) pe_int) (pv 0)) (fun _ _ => rfl)))
      (pss_one (ps_ret (pe_op op_mul_str (pv 2) (pe_op op_add (pe_op op_fdiv (pe_op op_sub (pv 1) pe_int) pe_int) pe_int)))))), ?_⟩
    refine ⟨_, rfl, rfl, _, rfl, ?_⟩
    refine ite2 (fun h1 => ?_) fun h1 => ?_
    · have e : c = 6 := by simpa using h1
      subst e
      refine ⟨_, rfl, sixthS, f, _, rfl, rfl, small_sixth, atI_getD hf0 (by rw [len_sixth]; omega), ?_⟩
      have e : gsign 6 f = ⟨#[sixthS.cps.toList.getD f.toNat 0]⟩ := by unfold gsign; rw [if_pos rfl]
      rw [e] at k
      exact k
    · have n6 : ¬ c = 6 := by simpa using h1
      refine ⟨_, rfl, rfl, _, rfl, ?_⟩
      refine ite2 (fun h2 => ?_) fun h2 => ?_
      · have e : f = 0 := by simpa using h2
        subst e
        refine ⟨_, rfl, _, _, rfl, rfl, _, rfl, ?_, ?_⟩
        · have : (6 - c).natAbs ≤ 5 := by omega
          exact Nat.lt_of_le_of_lt (Nat.log2_le_self _) (by omega)
        · have e : gsign c 0 = Str.ofString (toString (6 - c)) := by unfold gsign; rw [if_neg n6, if_pos rfl]
          rw [e] at k
          exact k
      · have n0 : ¬ f = 0 := by simpa using h2
        have hm : 0 ≤ (f - 1) % 5 ∧ (f - 1) % 5 < 5 := ⟨by omega, by omega⟩
        have hd : 0 ≤ (f - 1) / 5 ∧ (f - 1) / 5 ≤ 2 := ⟨by omega, by omega⟩
        refine ⟨_, rfl, _, _, rfl, rfl, _, _, rfl, rfl, (by show (0 : Int) < 5; decide), _, _, rfl, rfl, .inl ⟨by decide, by decide⟩, _, _, rfl, rfl, _, rfl, _, _, rfl, rfl, crossS, _, _, rfl, rfl, small_cross, atI_getD (by omega) (by rw [len_cross]; omega), ?_⟩
        refine ⟨_, rfl, _, rfl, _, _, rfl, rfl, _, _, rfl, rfl, ⟨by decide, by decide⟩, _, _, rfl, rfl, _, _, rfl, rfl, (by show (1 : Nat) ≤ 100; decide), by omega, by omega, ?_⟩
        have e : gsign c f = Txt.mul ⟨#[crossS.cps.toList.getD (5 * ((f - 1) % 5) + 5 - c).toNat 0]⟩ ((f - 1) / 5 + 1) := by unfold gsign; rw [if_neg n6, if_neg n0]
        rw [e] at k
        exact k
theorem passF {X : Cx} : Passes (CX1 X.prog X.w) X (fun _ _ _ => False) := fun _ _ _ _ _ _ _ ⟨_, _, _, _, _, _, _, _, _, _, _, _, _, _, _, z⟩ => z.elim
theorem lc_E {ys : List V} {g : TG} {tt : TT} {te : TE} {vs : List Nat} {σ : L2.St} {H1 : Hp} {D : Addr} {Qd : Hp → Prop} (Pv : Nat → Hp → Prop) (h0 : Pv 0 (upd H1 D (.lst [])))
    (hs : ∀ i y T H, ys[i]? = some y → Pv i H → H T = none → g (.ref T) (wipe σ vs) (upd H T (.tup [.int (i : Nat), y])) fun σ2 H2 => wipe σ2 vs = wipe σ vs ∧ tt σ2 H2 fun b H3 =>
      if b = true then te σ2 H3 fun y H4 => ∃ acc, H4 D = some (.lst acc) ∧ acc.length < sizeLine ∧ Pv (i + 1) (upd H4 D (.lst (acc ++ [y]))) else Pv (i + 1) H3) (hd : ∀ H, Pv ys.length H → Qd H) :
    ∃ W : Nat → Nat → Hp → Prop, (∃ m, W 0 m (upd H1 D (.lst []))) ∧ ∀ i m H, W i m H →
      ((ItE ys).stop i H ∧ Qd H) ∨ ((ItE ys).go i H ∧ ∃ Nx : Hp → Prop, (∀ H', Nx H' → ∃ m', m' < m ∧ W (i + 1) m' H') ∧ ∀ y H', (ItE ys).yld i H y H' → g y (wipe σ vs) H' fun σ2 H2 => wipe σ2 vs = wipe σ vs ∧ tt σ2 H2 fun b H3 =>
        if b = true then te σ2 H3 fun y H4 => ∃ acc, H4 D = some (.lst acc) ∧ acc.length < sizeLine ∧ Nx (upd H4 D (.lst (acc ++ [y]))) else Nx H3) := by
  refine ⟨fun i m H => m = ys.length - i ∧ i ≤ ys.length ∧ Pv i H, ⟨ys.length, by simp, Nat.zero_le _, h0⟩, ?_⟩
  rintro i m H ⟨rfl, hi, p⟩
  by_cases hlt : i < ys.length
  · refine .inr ⟨hlt, Pv (i + 1), fun H' p' => ⟨ys.length - (i + 1), by omega, rfl, hlt, p'⟩, fun y H' hy => ?_⟩
    obtain ⟨T, x, ey, hT, e, hx⟩ := hy
    subst e ey
    exact hs i x T _ hx p hT
  · have e : i = ys.length := by omega
    subst e
    exact .inl ⟨Nat.le_refl _, hd H p⟩
theorem for_E {ys : List V} {g : TG} {tb : TS} {D : Ends} {σ : L2.St} {H : Hp} (Pv : Nat → L2.St → Hp → Prop) (h0 : Pv 0 σ H)
    (hs : ∀ i y T σ H, ys[i]? = some y → Pv i σ H → H T = none → g (.ref T) σ (upd H T (.tup [.int (i : Nat), y])) fun σ2 H2 => tb { D with nx := Pv (i + 1), ct := Pv (i + 1), bk := D.nx } σ2 H2) (hd : ∀ σ H, Pv ys.length σ H → D.nx σ H) :
    ∃ W : Nat → Nat → L2.St → Hp → Prop, (∃ m, W 0 m σ H) ∧ ∀ i m σ H, W i m σ H →
      ((ItE ys).stop i H ∧ D.nx σ H) ∨ ((ItE ys).go i H ∧ ∃ N : L2.St → Hp → Prop, (∀ σ' H', N σ' H' → ∃ m', m' < m ∧ W (i + 1) m' σ' H') ∧ ∀ x H', (ItE ys).yld i H x H' → g x σ H' fun σ2 H2 => tb { D with nx := N, ct := N, bk := D.nx } σ2 H2) := by
  refine ⟨fun i m σ H => m = ys.length - i ∧ i ≤ ys.length ∧ Pv i σ H, ⟨ys.length, by simp, Nat.zero_le _, h0⟩, ?_⟩
  rintro i m σ H ⟨rfl, hi, p⟩
  by_cases hlt : i < ys.length
  · refine .inr ⟨hlt, Pv (i + 1), fun σ' H' p' => ⟨ys.length - (i + 1), by omega, rfl, hlt, p'⟩, fun y H' hy => ?_⟩
    obtain ⟨T, x, ey, hT, e, hx⟩ := hy
    subst e ey
    exact hs i x T σ _ hx p hT
  · have e : i = ys.length := by omega
    subst e
    exact .inl ⟨Nat.le_refl _, hd σ H p⟩
noncomputable def rowV (k : Nat) : List (Str × V) := if k = 2 then [] else ((List.range 16).map fun i => ((⟨#[(lettersL.getD k ⟨#[]⟩).cps.toList.getD i 0]⟩ : Str), V.int (i : Int))) ++ [(Str.ofString ".", V.non)]
noncomputable def fretV : Option Int → V
  | some x => .int x
  | none => .non
theorem rowV_eq : ∀ k : Nat, k ≤ 2 → sgI (rowV k) = (rowS k).map fun p => (p.1, fretV p.2)
  | 0, _ => by decide +kernel
  | 1, _ => by decide +kernel
  | 2, _ => by decide +kernel
  | k + 3, h => by omega
theorem sg_map {α : Type} {R : α → V → Prop} {g : α → V} (h : ∀ a, R a (g a)) : ∀ S : List (List Int × α), SgR R S (S.map fun p => (p.1, g p.2))
  | [] => .nil
  | s :: S => .cons ⟨rfl, h _⟩ (sg_map h S)
theorem row_sg {k : Nat} (hk : k ≤ 2) : SgR RFret (rowS k) (sgI (rowV k)) := by
  rw [rowV_eq k hk]
  exact sg_map (fun a => by cases a <;> rfl) _
noncomputable abbrev Pairs (H : Hp) (S0 : List (Str × V)) (vs : List V) : Prop := Paired (fun s v => ∃ q, v = .ref q ∧ H q = some (.tup [.str s.1, s.2])) S0 vs
theorem Pairs.sg {H : Hp} {q : Addr} {S0 : List (Str × V)} {vs : List V} (e : H q = some (.lst vs)) (h : Pairs H S0 vs) : SgAt K H q S0 :=
  ⟨vs, .inl (SqL.of e), Paired.mono' (fun s v ⟨q, e1, e2⟩ => ⟨q, e1, SqT.of e2⟩) h⟩
noncomputable def sp_row_signs (K : Frag) : Sp := fun vs H Q _ => ∃ k : Nat, vs = [.int (k : Int)] ∧ k ≤ 2 ∧ ∀ q H', H q = none → SgAt K H' q (rowV k) → (∀ b o, H b = some o → H' b = some o) → Q (.ref q) H'
theorem ok_row_signs {CR CS CF CP : Addr} {f : Addr} {fd : FuncData} (F : Fun K "row_signs" "row_signs" s_row_signs f fd) (T : TxR K mg CR CS CF CP) (B : TxB K mg) (G : TxG K mg) : FnOk P w K mg base (CX1 P w) 1 f fd ["kind"] (sp_row_signs K) := by
  obtain ⟨aL, mL, tL⟩ := G.letters
  refine FunX F sc_row_signs (fun vs H Q E h => ?_) (fun cdv A outer s H vs Q E hr h => ?_)
  · obtain ⟨k, rfl, _⟩ := h
    rfl
  · obtain ⟨k, rfl, hk, kq⟩ := h
    refine ⟨_, pss_cons (ps_if (pt_cmpR op_eq (pv 0) (pe_gI T.german rfl) (nomark _)) (pss_one (ps_ret (pe_lst pa_nil))) pss_nil)
      (pss_cons (ps_setLc (i := 1) (g := gTup K 2 (gCons (gName 2) (gCons (gName 3) gNil))) (own := [("fret", 2), ("letter", 3)]) rfl sc_row_signs.nd rfl rfl (sw_true rfl rfl rfl (by decide +kernel)) (pi_enumX rfl B.nenum (pa_cons (pe_ix ix_tup (pe_gR mL rfl) (pv 0) (fun _ _ => rfl)) pa_nil)) (blkOk_by (by kernel_rfl))
        (fun _ _ _ _ _ => pg_tup (n := 2) rfl (pgs_cons (pg_name (i := 2) sc_row_signs.nd rfl (Or.inl rfl) (.inr rfl)) (pgs_cons (pg_name (i := 3) sc_row_signs.nd rfl (Or.inl rfl) (.inr rfl)) pgs_nil))) (fun _ _ _ _ _ => pts_nil)
        (fun _ _ _ _ _ => pe_tup (pa_cons (pv 3) (pa_cons (pv 2) pa_nil))))
      (pss_cons (ps_expr (pe_bm PySem.F.plainAttrs_list PySem.F.slot_list_append PySem.F.type_list_append mt_append (pv 1) (pa_cons (pe_tup (pa_cons (pe_gS G.nostop rfl) (pa_cons pe_non pa_nil))) pa_nil)))
      (pss_one (ps_ret (pv 1))))), ?_⟩
    refine ⟨_, rfl, rfl, _, rfl, ?_⟩
    refine ite2 (fun h1 => ?_) fun h1 => ?_
    · have ek : k = 2 := by
        have : (k : Int) = 2 := by simpa using h1
        omega
      subst ek
      refine ⟨Nat.zero_le _, fun q hq => kq q _ hq (Pairs.sg upd_same .nil) fun b o z => by rw [upd_ne (ne_of_none z hq)]; exact z⟩
    · have nk : ¬ k = 2 := fun z => h1 (by rw [z]; rfl)
      obtain ⟨z, ez, e16⟩ : ∃ z, lettersL[k]? = some z ∧ z.cps.toList.length = 16 := by
        have k01 : k = 0 ∨ k = 1 := by omega
        rcases k01 with rfl | rfl
        · exact ⟨_, rfl, by decide +kernel⟩
        · exact ⟨_, rfl, by decide +kernel⟩
      have hrow : ∀ i c, z.cps.toList[i]? = some c → i < 16 ∧ (rowV k)[i]? = some (⟨#[c]⟩, V.int (i : Nat)) := fun i c hc => by
        have hi : i < 16 := by rw [← e16]; exact (List.getElem?_eq_some_iff.mp hc).1
        refine ⟨hi, ?_⟩
        unfold rowV
        rw [if_neg nk, List.getElem?_append_left (by rw [List.length_map, List.length_range]; exact hi), List.getElem?_map, List.getElem?_range hi]
        have e1 : lettersL.getD k ⟨#[]⟩ = z := by rw [List.getD_eq_getElem?_getD, ez]; rfl
        have e2 : z.cps.toList.getD i 0 = c := by rw [List.getD_eq_getElem?_getD, hc]; rfl
        show some ((⟨#[(lettersL.getD k ⟨#[]⟩).cps.toList.getD i 0]⟩ : Str), V.int (i : Int)) = _
        rw [e1, e2]
      refine ⟨_, rfl, aL, _, _, _, rfl, rfl, tL H, atI_nat (j := k) (by rw [List.getElem?_map, ez]; rfl), .inl ⟨z, rfl, fun D hD => ?_⟩⟩
      refine lc_E (fun i H' => ∃ vs, H' D = some (.lst vs) ∧ Pairs H' ((rowV k).take i) vs ∧ (∀ b o, H b = some o → H' b = some o)) ⟨[], upd_same, .nil, fun b o y => by rw [upd_ne (ne_of_none y hD)]; exact y⟩ ?_ ?_
      · rintro i y Tp H1 hy ⟨vs, hl, hp, hsm⟩ hTp
        obtain ⟨c, hc, rfl⟩ : ∃ c, z.cps.toList[i]? = some c ∧ y = V.str ⟨#[c]⟩ := by
          rw [List.getElem?_map] at hy
          cases e : z.cps.toList[i]? with
          | none => rw [e] at hy; cases hy
          | some c => rw [e] at hy; exact ⟨c, rfl, (Option.some.inj hy).symm⟩
        obtain ⟨hi16, hri⟩ := hrow i c hc
        have s1 : ∀ b o, H1 b = some o → (upd H1 Tp (.tup [.int (i : Nat), .str ⟨#[c]⟩])) b = some o := fun b o y => by rw [upd_ne (ne_of_none y hTp)]; exact y
        refine ⟨Tp, _, rfl, SqT.of upd_same, rfl, _, _, rfl, _, _, rfl, rfl, rfl, _, rfl, _, rfl, (by show 2 ≤ sizeLine; decide), fun q hq => ?_⟩
        have s2 : ∀ b o, H1 b = some o → (upd (upd H1 Tp (.tup [.int (i : Nat), .str ⟨#[c]⟩])) q (.tup [.str ⟨#[c]⟩, .int (i : Nat)])) b = some o := fun b o y => by rw [upd_ne (ne_of_none (s1 b o y) hq)]; exact s1 b o y
        have nqD : q ≠ D := fun e => by rw [e, s1 _ _ hl] at hq; cases hq
        refine ⟨vs, s2 _ _ hl, ?_, vs ++ [.ref q], upd_same, ?_, fun b o y => ?_⟩
        · have := Paired.len' hp
          rw [List.length_take] at this
          rw [sizeLine_eq]
          omega
        · rw [List.take_add_one, hri]
          refine Paired.snoc' ⟨q, rfl, by rw [upd_ne nqD, upd_same]⟩ (Paired.mono' (fun s v ⟨q', e1, e2⟩ => ⟨q', e1, ?_⟩) hp)
          rw [upd_ne (ne_of e2 hl (by intro y; cases y))]
          exact s2 _ _ e2
        · rw [upd_ne (ne_of_none y hD)]
          exact s2 _ _ (hsm b o y)
      · rintro H1 ⟨vs, hl, hp, hsm⟩
        rw [List.length_map, e16] at hp
        refine ⟨_, rfl, .inl ⟨rfl, _, SqL.of hl⟩, (by show 2 ≤ sizeLine; decide), fun q hq => ?_⟩
        have s2 : ∀ b o, H1 b = some o → (upd H1 q (.tup [.str (Str.ofString "."), .non])) b = some o := fun b o y => by rw [upd_ne (ne_of_none y hq)]; exact y
        have nqD : q ≠ D := fun e => by rw [e, hl] at hq; cases hq
        refine ⟨D, vs, _, rfl, rfl, s2 _ _ hl, ?_, ?_⟩
        · have := Paired.len' hp
          rw [List.length_take] at this
          rw [sizeLine_eq]
          omega
        · refine ⟨_, rfl, kq D _ hD (Pairs.sg upd_same ?_) fun b o y => by rw [upd_ne (ne_of_none y hD)]; exact s2 _ _ (hsm b o y)⟩
          have erow : rowV k = (rowV k).take 16 ++ [(Str.ofString ".", V.non)] := by
            unfold rowV
            rw [if_neg nk, List.take_append_of_le_length (by rw [List.length_map, List.length_range]; exact Nat.le_refl _), List.take_of_length_le (by rw [List.length_map, List.length_range]; exact Nat.le_refl _)]
          rw [erow]
          refine Paired.snoc' ⟨q, rfl, by rw [upd_ne nqD, upd_same]⟩ (Paired.mono' (fun s v ⟨q', e1, e2⟩ => ⟨q', e1, ?_⟩) hp)
          rw [upd_ne (ne_of e2 hl (by intro y; cases y))]
          exact s2 _ _ e2
end
end Lu
set_option Elab.async false
set_option linter.all false
set_option maxRecDepth 100000
set_option maxHeartbeats 4000000
namespace Lu
open PySem PySem.Spec PyProof.Rows L2 LX
open PySem.W (Frag findIn specialIn instIn typeIn keepIn readsIn findCls isFn)
section
variable {P : Program} {w : World} {K : Frag} {mg : Str → Option Value} {base : Heap}
noncomputable def gerC (c : Nat) : List (Str × StopI) := (List.range 16).map fun (f : Nat) => (gsign (c : Int) (f : Int), ((c : Int), (f : Int)))
noncomputable def basE (k : Nat) : List (Str × StopI) := (List.range 8).map fun n => ((bassL.getD k []).getD n ⟨#[]⟩, (7 + (n : Int), 0))
noncomputable def gerE : List (Str × StopI) := [1, 2, 3, 4, 5, 6].flatMap gerC
noncomputable def stopE (k : Nat) : List (Str × StopI) := (if k = 2 then gerE else []) ++ basE k
theorem stopE_eq : ∀ k : Nat, k ≤ 2 → (stopE k).map (fun e => (codesI e.1, e.2)) = stopS k
  | 0, _ => by decide +kernel
  | 1, _ => by decide +kernel
  | 2, _ => by decide +kernel
  | k + 3, h => by omega
noncomputable abbrev Ents (H : Hp) (es : List (Str × StopI)) (vs : List V) : Prop := Paired (fun e v => ∃ q q2, v = .ref q ∧ H q = some (.tup [.str e.1, .ref q2]) ∧ H q2 = some (.tup [.int e.2.1, .int e.2.2])) es vs
theorem Ents.sg {H : Hp} : ∀ {es : List (Str × StopI)} {vs : List V}, Ents H es vs → ∃ S0, Pairs H S0 vs ∧ SgR (RStop H) (es.map fun e => (codesI e.1, e.2)) (sgI S0) ∧ S0.length = es.length ∧ (S0.map (·.1)) = es.map (·.1)
  | _, _, .nil => ⟨[], .nil, .nil, rfl, rfl⟩
  | e :: es, v :: vs, .cons ⟨q, q2, e1, e2, e3⟩ t => by
    obtain ⟨S0, h1, h2, h3, h4⟩ := Ents.sg t
    exact ⟨(e.1, .ref q2) :: S0, .cons ⟨q, e1, e2⟩ h1, .cons ⟨rfl, q2, rfl, e3⟩ h2, by rw [List.length_cons, List.length_cons, h3], by rw [List.map_cons, List.map_cons, h4]⟩
theorem Ents.mono {H H' : Hp} (m : ∀ b xs, H b = some (.tup xs) → H' b = some (.tup xs)) : ∀ {es : List (Str × StopI)} {vs : List V}, Ents H es vs → Ents H' es vs
  | _, _, .nil => .nil
  | _, _, .cons ⟨q, q2, e1, e2, e3⟩ t => .cons ⟨q, q2, e1, m _ _ e2, m _ _ e3⟩ (Ents.mono m t)
theorem Ents.app {H : Hp} : ∀ {es es' : List (Str × StopI)} {vs vs' : List V}, Ents H es vs → Ents H es' vs' → Ents H (es ++ es') (vs ++ vs')
  | _, _, _, _, .nil, h => h
  | _, _, _, _, .cons r t, h => .cons r (Ents.app t h)
noncomputable def sp_stop_signs (K : Frag) : Sp := fun vs H Q _ => ∃ k : Nat, vs = [.int (k : Int)] ∧ k ≤ 2 ∧ ∀ q H' S0, H q = none → SgAt K H' q S0 → SgR (RStop H') (stopS k) (sgI S0) → S0.length ≤ 200 → (∀ s ∈ S0, s.1.length ≤ 100) → (∀ b o, H b = some o → H' b = some o) → Q (.ref q) H'
theorem stopE_small : ∀ k : Nat, k ≤ 2 → (stopE k).length ≤ 200 ∧ ∀ e ∈ (stopE k).map (·.1), e.length ≤ 100
  | 0, _ => by decide +kernel
  | 1, _ => by decide +kernel
  | 2, _ => by decide +kernel
  | k + 3, h => by omega
theorem upd_tup {l : Addr} {H : Hp} {xs ys : List V} (hl : H l = some (.lst xs)) : ∀ b zs, H b = some (.tup zs) → (upd H l (.lst ys)) b = some (.tup zs) := fun b zs z => by
  rw [upd_ne (ne_of z hl (by intro y; cases y))]
  exact z
theorem ok_stop_signs {CR CS CF CP : Addr} {f : Addr} {fd : FuncData} (F : Fun K "stop_signs" "stop_signs" s_stop_signs f fd) (T : TxR K mg CR CS CF CP) (B : TxB K mg) (G : TxG K mg) (GG : HasFn P w K mg base 1 "german_sign" ["course", "fret"] sp_german_sign) :
    FnOk P w K mg base (CX1 P w) 2 f fd ["kind"] (sp_stop_signs K) := by
  obtain ⟨aB, b0, b1, b2, mB, tB, t0, t1, t2⟩ := G.basses
  refine FunX F sc_stop_signs (fun vs H Q E h => ?_) (fun cdv A outer s H vs Q E hr h => ?_)
  · obtain ⟨k, rfl, _⟩ := h
    rfl
  · obtain ⟨k, rfl, hk, kq⟩ := h
    refine ⟨_, pss_cons (ps_set (i := 1) sc_stop_signs.nd rfl (Or.inl rfl) (pe_lst pa_nil))
      (pss_cons (ps_if (pt_cmpR op_eq (pv 0) (pe_gI T.german rfl) (nomark _))
        (pss_one (ps_for ownX rfl (pi_range2 rfl B.nrange (pa_cons pe_int (pa_cons (pe_gI G.first rfl) pa_nil))) (pg_name (i := 2) sc_stop_signs.nd rfl (Or.inr rfl))
          (pss_one (ps_expr (pe_bm PySem.F.plainAttrs_list PySem.F.slot_list_extend PySem.F.type_list_extend mt_extend (pv 1) (pa_cons (pe_lc (te := tTup (tCons (tCall sp_german_sign [] (fun _ _ _ => False) (tCons (tVar 2) (tCons (tVar 5) tNil))) (tCons (tTup (tCons (tVar 2) (tCons (tVar 5) tNil))) tNil))) (own := [("fret", 5)]) rfl sc_stop_signs.nd (pi_range1 rfl B.nrange (pa_cons (pe_gI G.frets rfl) pa_nil)) (blkOk_by (by kernel_rfl))
            (fun _ _ _ _ _ => pg_name (i := 5) sc_stop_signs.nd rfl (Or.inl rfl) (.inr rfl)) (fun _ _ _ _ _ => pts_nil)
            (fun _ _ _ _ _ => pe_tup (pa_cons (pe_fn GG hr rfl passF (pa_cons (pv 2) (pa_cons (pv 5) pa_nil))) (pa_cons (pe_tup (pa_cons (pv 2) (pa_cons (pv 5) pa_nil))) pa_nil)))) pa_nil)))))) pss_nil)
      (pss_cons (ps_for ownX rfl (pi_enumX rfl B.nenum (pa_cons (pe_ix ix_tup (pe_gR mB rfl) (pv 0) (fun _ _ => rfl)) pa_nil)) (pg_tup (n := 2) rfl (pgs_cons (pg_name (i := 3) sc_stop_signs.nd rfl (Or.inl rfl)) (pgs_cons (pg_name (i := 4) sc_stop_signs.nd rfl (Or.inl rfl)) pgs_nil)))
        (pss_one (ps_expr (pe_bm PySem.F.plainAttrs_list PySem.F.slot_list_append PySem.F.type_list_append mt_append (pv 1) (pa_cons (pe_tup (pa_cons (pv 4) (pa_cons (pe_tup (pa_cons (pe_op op_add (pe_gI G.first rfl) (pv 3)) (pa_cons pe_int pa_nil))) pa_nil))) pa_nil)))))
      (pss_one (ps_ret (pv 1))))), ?_⟩
    refine ⟨Nat.zero_le _, fun ls hls => ?_⟩
    have s0 : ∀ b o, H b = some o → (upd H ls (.lst [])) b = some o := fun b o z => by rw [upd_ne (ne_of_none z hls)]; exact z
    have tail : ∀ (D : Ends) (H1 : Hp) (es : List (Str × StopI)) (vs : List V) (v2 v3 v4 v5 : Option V), D.rt = Q → (stopE k = es ++ basE k) → H1 ls = some (.lst vs) → Ents H1 es vs → (∀ b o, H b = some o → H1 b = some o) →
        tSeq (tFor (iEnumX K (tCons (tOp (rIxT K) (tC (.ref aB)) (tVar 0)) tNil)) (gTup K 2 (gCons (gName 3) (gCons (gName 4) gNil))) (tDrop (tBM K "list" rAppend (tVar 1) (tCons (tTup (tCons (tVar 4) (tCons (tTup (tCons (tOp (rI0 fun i j => .int (i + j)) (tC (.int 7)) (tVar 3)) (tCons (tC (.int 0)) tNil))) tNil))) tNil)))) (tRet (tVar 1))
        D [some (.int (k : Int)), some (.ref ls), v2, v3, v4, v5] H1 := fun D H1 es vs v2 v3 v4 v5 hD hes hl1 he1 hs1 => by
      obtain ⟨cA, tcA, eA⟩ : ∃ cA, TupC K cA ((bassL.getD k []).map V.str) ∧ atI ([.ref b0, .ref b1, .ref b2] : List V) (k : Int) = some (.ref cA) := by
        have k012 : k = 0 ∨ k = 1 ∨ k = 2 := by omega
        rcases k012 with rfl | rfl | rfl
        · exact ⟨b0, t0, atI_nat (j := 0) rfl⟩
        · exact ⟨b1, t1, atI_nat (j := 1) rfl⟩
        · exact ⟨b2, t2, atI_nat (j := 2) rfl⟩
      have e8 : (bassL.getD k []).length = 8 := by
        have k012 : k = 0 ∨ k = 1 ∨ k = 2 := by omega
        rcases k012 with rfl | rfl | rfl <;> rfl
      have hsm := stopE_small k hk
      rw [hes, List.length_append] at hsm
      refine ⟨_, rfl, aB, _, _, _, rfl, rfl, tB H1, eA, .inr ⟨cA, _, rfl, tcA, ?_⟩⟩
      refine for_E (fun i σ H' => ∃ (v3 v4 : Option V) (vs : List V), σ = [some (.int (k : Int)), some (.ref ls), v2, v3, v4, v5] ∧ H' ls = some (.lst vs) ∧ Ents H' (es ++ (basE k).take i) vs ∧ (∀ b o, H b = some o → H' b = some o))
        ⟨v3, v4, vs, rfl, hl1, by rw [List.take_zero, List.append_nil]; exact he1, hs1⟩ ?_ ?_
      · rintro i y Tp σ H2 hy ⟨v3, v4, vs2, rfl, hl2, he2, hs2⟩ hTp
        obtain ⟨x, hx, rfl⟩ : ∃ x, (bassL.getD k [])[i]? = some x ∧ y = V.str x := by
          rw [List.getElem?_map] at hy
          cases e : (bassL.getD k [])[i]? with
          | none => rw [e] at hy; cases hy
          | some x => rw [e] at hy; exact ⟨x, rfl, (Option.some.inj hy).symm⟩
        have hi8 : i < 8 := by rw [← e8]; exact (List.getElem?_eq_some_iff.mp hx).1
        have hbi : (basE k)[i]? = some (x, (7 + (i : Int), 0)) := by
          unfold basE
          rw [List.getElem?_map, List.getElem?_range hi8]
          show some ((bassL.getD k []).getD i ⟨#[]⟩, (7 + (i : Int), (0 : Int))) = _
          rw [List.getD_eq_getElem?_getD, hx]
          rfl
        have s1 : ∀ b o, H2 b = some o → (upd H2 Tp (.tup [.int (i : Nat), .str x])) b = some o := fun b o y => by rw [upd_ne (ne_of_none y hTp)]; exact y
        refine ⟨Tp, _, rfl, SqT.of upd_same, rfl, _, _, rfl, _, _, rfl, rfl, ?_⟩
        refine ⟨_, rfl, .inl ⟨rfl, _, SqL.of (s1 _ _ hl2)⟩, _, rfl, _, rfl, _, _, rfl, rfl, (by show 2 ≤ sizeLine; decide), fun q2 hq2 => ⟨(by show 2 ≤ sizeLine; decide), fun q hq => ?_⟩⟩
        generalize hH3 : upd H2 Tp (.tup [.int (i : Nat), .str x]) = H3 at hq2 hq s1
        have s2 : ∀ b o, H3 b = some o → (upd H3 q2 (.tup [.int (7 + (i : Nat)), .int 0])) b = some o := fun b o y => by rw [upd_ne (ne_of_none y hq2)]; exact y
        have s3 : ∀ b o, (upd H3 q2 (.tup [.int (7 + (i : Nat)), .int 0])) b = some o → (upd (upd H3 q2 (.tup [.int (7 + (i : Nat)), .int 0])) q (.tup [.str x, .ref q2])) b = some o := fun b o y => by rw [upd_ne (ne_of_none y hq)]; exact y
        have s4 : ∀ b o, H2 b = some o → (upd (upd H3 q2 (.tup [.int (7 + (i : Nat)), .int 0])) q (.tup [.str x, .ref q2])) b = some o := fun b o y => s3 _ _ (s2 _ _ (s1 b o y))
        have nq : q ≠ ls := fun e => by rw [e, s2 _ _ (s1 _ _ hl2)] at hq; cases hq
        have nq2 : q2 ≠ ls := fun e => by rw [e, s1 _ _ hl2] at hq2; cases hq2
        have hlen := Paired.len' he2
        refine ⟨ls, vs2, _, rfl, rfl, s4 _ _ hl2, ?_, ?_⟩
        · rw [List.length_append, List.length_take] at hlen
          rw [sizeLine_eq]
          omega
        · refine ⟨_, _, vs2 ++ [.ref q], rfl, upd_same, ?_, fun b o y => ?_⟩
          · rw [List.take_add_one, hbi]
            show Ents _ (es ++ ((basE k).take i ++ [(x, (7 + (i : Int), 0))])) _
            rw [← List.append_assoc]
            refine Ents.app (Ents.mono (upd_tup (s4 _ _ hl2)) (Ents.mono (fun b xs z => s4 _ _ z) he2)) (.cons ⟨q, q2, rfl, ?_, ?_⟩ .nil)
            · rw [upd_ne nq, upd_same]
            · rw [upd_ne nq2]; exact s3 _ _ upd_same
          · rw [upd_ne (ne_of_none y hls)]
            exact s4 _ _ (hs2 b o y)
      · rintro σ H2 ⟨v3, v4, vs2, rfl, hl2, he2, hs2⟩
        have ebas : (basE k).take ((bassL.getD k []).map V.str).length = basE k := List.take_of_length_le (by rw [List.length_map, e8]; unfold basE; rw [List.length_map, List.length_range]; exact Nat.le_refl _)
        rw [ebas, ← hes] at he2
        obtain ⟨S0, h1, h2, h3, h4⟩ := he2.sg
        rw [stopE_eq k hk] at h2
        obtain ⟨hz1, hz2⟩ := stopE_small k hk
        refine ⟨_, rfl, ?_⟩
        rw [hD]
        refine kq ls H2 S0 hls (Pairs.sg hl2 h1) h2 (by rw [h3]; exact hz1) (fun s hs => ?_) hs2
        exact hz2 s.1 (by rw [← h4]; exact List.mem_map_of_mem hs)
    refine ⟨_, rfl, rfl, _, rfl, ?_⟩
    refine ite2 (fun h1 => ?_) fun h1 => ?_
    · have ek : k = 2 := by
        have : (k : Int) = 2 := by simpa using h1
        omega
      subst ek
      refine ⟨1, 7, rfl, ⟨by decide, by decide, by decide, by decide⟩, ?_⟩
      have e6 : ((7 : Int) - 1).toNat = 6 := by decide
      rw [e6]
      have gpart : ∀ i : Nat, i < 6 → (([1, 2, 3, 4, 5, 6] : List Nat).take (i + 1)).flatMap gerC = (([1, 2, 3, 4, 5, 6] : List Nat).take i).flatMap gerC ++ gerC (i + 1) := fun i hi => by
        have : i = 0 ∨ i = 1 ∨ i = 2 ∨ i = 3 ∨ i = 4 ∨ i = 5 := by omega
        rcases this with rfl | rfl | rfl | rfl | rfl | rfl <;> simp
      refine for_range (lo := 1) (n := 6) (fun i σ H' => ∃ (v2 : Option V) (vs : List V), σ = [some (.int ((2 : Nat) : Int)), some (.ref ls), v2, none, none, none] ∧ H' ls = some (.lst vs) ∧ Ents H' ((([1, 2, 3, 4, 5, 6] : List Nat).take i).flatMap gerC) vs ∧ vs.length = 16 * i ∧ (∀ b o, H b = some o → H' b = some o))
        ⟨none, [], rfl, upd_same, .nil, rfl, s0⟩ ?_ ?_
      · rintro i σ H1 hi ⟨v2, vs, rfl, hl1, he1, hvl, hs1⟩
        refine ⟨_, rfl, .inl ⟨rfl, _, SqL.of hl1⟩, _, rfl, by decide, by decide, fun D hD => ?_⟩
        have nD : D ≠ ls := fun e => by rw [e, hl1] at hD; cases hD
        have e16 : (16 : Int).toNat = 16 := by decide
        rw [e16]
        refine lc_range (lo := 0) (n := 16) (fun j H' => ∃ ws, H' D = some (.lst ws) ∧ Ents H' ((gerC (i + 1)).take j) ws ∧ ws.length = j ∧ (∀ b o, H1 b = some o → H' b = some o)) ⟨[], upd_same, .nil, rfl, fun b o y => by rw [upd_ne (ne_of_none y hD)]; exact y⟩ ?_ ?_
        · rintro j H2 hj ⟨ws, hw, hew, hwl, hs2⟩
          have e1i : ((1 : Int) + (i : Nat)) = ((i + 1 : Nat) : Int) := by omega
          have e0j : ((0 : Int) + (j : Nat)) = ((j : Nat) : Int) := by omega
          rw [e0j]
          refine ⟨rfl, _, rfl, _, rfl, _, _, rfl, ?_, ?_, ?_, ?_, _, rfl, _, rfl, (by show 2 ≤ sizeLine; decide), fun q2 hq2 => ⟨(by show 2 ≤ sizeLine; decide), fun q hq => ?_⟩⟩
          · omega
          · omega
          · omega
          · omega
          rw [e1i]
          rw [e1i] at hq
          have s2 : ∀ b o, H2 b = some o → (upd H2 q2 (.tup [.int ((i + 1 : Nat) : Int), .int ((j : Nat) : Int)])) b = some o := fun b o y => by rw [upd_ne (ne_of_none y hq2)]; exact y
          have s3 : ∀ b o, (upd H2 q2 (.tup [.int ((i + 1 : Nat) : Int), .int ((j : Nat) : Int)])) b = some o → (upd (upd H2 q2 (.tup [.int ((i + 1 : Nat) : Int), .int ((j : Nat) : Int)])) q (.tup [.str (gsign ((i + 1 : Nat) : Int) ((j : Nat) : Int)), .ref q2])) b = some o := fun b o y => by rw [upd_ne (ne_of_none y hq)]; exact y
          have nqD : q ≠ D := fun e => by rw [e, s2 _ _ hw] at hq; cases hq
          have nq2D : q2 ≠ D := fun e => by rw [e, hw] at hq2; cases hq2
          have hgj : (gerC (i + 1))[j]? = some (gsign ((i + 1 : Nat) : Int) ((j : Nat) : Int), (((i + 1 : Nat) : Int), ((j : Nat) : Int))) := by
            unfold gerC
            rw [List.getElem?_map, List.getElem?_range hj]
            rfl
          refine ⟨ws, s3 _ _ (s2 _ _ hw), by rw [sizeLine_eq]; omega, ws ++ [.ref q], upd_same, ?_, by rw [List.length_append, hwl]; rfl, fun b o y => ?_⟩
          · rw [List.take_add_one, hgj]
            refine Ents.app (Ents.mono (upd_tup (s3 _ _ (s2 _ _ hw))) (Ents.mono (fun b xs z => s3 _ _ (s2 _ _ z)) hew)) (.cons ⟨q, q2, rfl, ?_, ?_⟩ .nil)
            · rw [upd_ne nqD, upd_same]
            · rw [upd_ne nq2D]; exact s3 _ _ upd_same
          · rw [upd_ne (ne_of_none y hD)]
            exact s3 _ _ (s2 _ _ (hs2 b o y))
        · rintro H2 ⟨ws, hw, hew, hwl, hs2⟩
          have etk : (gerC (i + 1)).take 16 = gerC (i + 1) := List.take_of_length_le (by unfold gerC; rw [List.length_map, List.length_range]; exact Nat.le_refl _)
          rw [etk] at hew
          refine ⟨ls, D, vs, ws, rfl, rfl, hs2 _ _ hl1, hw, by rw [sizeLine_eq]; omega, ?_⟩
          refine ⟨_, vs ++ ws, rfl, upd_same, ?_, by rw [List.length_append]; omega, fun b o y => ?_⟩
          · rw [gpart i hi]
            exact Ents.app (Ents.mono (upd_tup (hs2 _ _ hl1)) (Ents.mono (fun b xs z => hs2 _ _ z) he1)) (Ents.mono (upd_tup (hs2 _ _ hl1)) hew)
          · rw [upd_ne (ne_of_none y hls)]
            exact hs2 _ _ (hs1 b o y)
      · rintro σ H1 ⟨v2, vs, rfl, hl1, he1, hvl, hs1⟩
        exact tail _ H1 gerE vs v2 none none none rfl rfl hl1 he1 hs1
    · have nk : ¬ k = 2 := fun z => h1 (by rw [z]; rfl)
      exact tail _ _ [] [] none none none none rfl (by unfold stopE; rw [if_neg nk]) upd_same .nil s0
end
end Lu
set_option Elab.async false
set_option linter.all false
set_option maxRecDepth 100000
set_option maxHeartbeats 4000000
namespace Lu
open PySem PySem.Spec PyProof.Rows L2 LX
open PySem.W (Frag findIn specialIn instIn typeIn keepIn readsIn findCls isFn)
noncomputable def lenV : List (Str × V) := [("x", 1), ("t", 2), ("t.", 3), ("s", 4), ("s.", 6), ("e", 8), ("e.", 12), ("q", 16), ("q.", 24), ("h", 32), ("h.", 48), ("w", 64), ("w.", 96)].map fun p => (Str.ofString p.1, V.int p.2)
noncomputable def kindV : List (Str × V) := [("french", 0), ("italian", 1), ("german", 2)].map fun p => (Str.ofString p.1, V.int p.2)
structure TxK (K : Frag) (mg : Str → Option Value) : Prop where
  lens : ∃ a, mg "LENGTH_SIGNS" = some (.ref a) ∧ ∀ H, SgAt K H a lenV
  kinds : ∃ a, mg "KIND_WORDS" = some (.ref a) ∧ ∀ H, SgAt K H a kindV
  bytes : ∃ t, mg "MOST_BYTES" = some (.int 65536 t)
section
variable {P : Program} {w : World} {K : Frag} {mg : Str → Option Value} {base : Heap}
noncomputable abbrev Grow (H H' : Hp) : Prop := ∀ b o, H b = some o → H' b = some o
theorem lenV_eq : sgI lenV = lengthS.map fun p => (p.1, V.int p.2) := by decide +kernel
theorem kindV_eq : sgI kindV = kindS.map fun p => (p.1, V.int p.2) := by decide +kernel
theorem len_sg : SgR RInt lengthS (sgI lenV) := by
  rw [lenV_eq]
  exact sg_map (R := RInt) (g := V.int) (fun a => rfl) _
theorem kind_sg : SgR RInt kindS (sgI kindV) := by
  rw [kindV_eq]
  exact sg_map (R := RInt) (g := V.int) (fun a => rfl) _
theorem lenV_small : lenV.length ≤ 200 ∧ ∀ s ∈ lenV, s.1.length ≤ 100 := by decide +kernel
theorem kindV_small : kindV.length ≤ 200 ∧ ∀ s ∈ kindV, s.1.length ≤ 100 := by decide +kernel
theorem rowV_small : ∀ k : Nat, k ≤ 2 → (rowV k).length ≤ 200 ∧ ∀ s ∈ rowV k, s.1.length ≤ 100
  | 0, _ => by decide +kernel
  | 1, _ => by decide +kernel
  | 2, _ => by decide +kernel
  | k + 3, h => by omega
theorem SqT.grow {H H' : Hp} {a : Addr} {xs : List V} (k : Grow H H') (h : SqT K H a xs) : SqT K H' a xs := by
  rcases h with (h | ⟨o, h⟩) | h
  · exact .inl (.inl (k _ _ h))
  · exact .inl (.inr ⟨o, k _ _ h⟩)
  · exact .inr h
theorem SgAt.grow {H H' : Hp} {sg : Addr} {S0 : List (Str × V)} (k : Grow H H') (h : SgAt K H sg S0) : SgAt K H' sg S0 := by
  obtain ⟨vs, h1, h2⟩ := h
  refine ⟨vs, ?_, Paired.mono' (fun s v ⟨q, e1, e2⟩ => ⟨q, e1, SqT.grow k e2⟩) h2⟩
  rcases h1 with h1 | h1
  · exact .inl (Same.seq k h1)
  · exact .inr (SqT.grow k h1)
theorem Tab.grow {CS tb : Addr} {H H' : Hp} {S : List (List Int × V)} (k : Grow H H') (h : Tab CS H tb S) : Tab CS H' tb S := by
  obtain ⟨dx, b, m, B, M, e1, e2, e3, h1, h2⟩ := h
  exact ⟨dx, b, m, B, M, k _ _ e1, k _ _ e2, k _ _ e3, h1, h2⟩
theorem Tab.ins {CS tb x C d : Addr} {fs : List (Str × V)} {o : HO} {H : Hp} {S : List (List Int × V)} (h : Tab CS H tb S) (hx : H x = some (.ins C d fs)) (n : tb ≠ x) : Tab CS (upd H x o) tb S := by
  obtain ⟨dx, b, m, B, M, e1, e2, e3, h1, h2⟩ := h
  exact ⟨dx, b, m, B, M, by rw [upd_ne n]; exact e1, by rw [upd_ne (ne_of e2 hx (by intro z; cases z))]; exact e2, by rw [upd_ne (ne_of e3 hx (by intro z; cases z))]; exact e3, h1, h2⟩
theorem grow_made {H H' : Hp} {y d C : Addr} (hy : H y = none) (hd : H d = none) (b : But y (upd (upd H d (.own y)) y (.ins C d [])) H') : Grow H H' := fun c o z => by
  have n1 := ne_of_none z hy
  have n2 := ne_of_none z hd
  exact b c o n1 (by rw [upd_ne n1, upd_ne n2]; exact z)
theorem grow_new {H : Hp} {y d C : Addr} (hy : H y = none) (hd : H d = none) : Grow H (upd (upd H d (.own y)) y (.ins C d [])) := fun c o z => by
  rw [upd_ne (ne_of_none z hy), upd_ne (ne_of_none z hd)]
  exact z
theorem tab_call {CS sg y d : Addr} {H : Hp} {S0 : List (Str × V)} {Q : VK} {E : XK} (h : SgAt K H sg S0) (hz : S0.length ≤ 200 ∧ ∀ s ∈ S0, s.1.length ≤ 100) (hy : H y = none) (hd : H d = none) (k : ∀ H', Tab CS H' y (sgI S0) → Grow H H' → Q .non H') :
    sp_SignTable_init CS K (.ref y :: ([.ref sg] ++ [])) (upd (upd H d (.own y)) y (.ins CS d [])) Q E :=
  ⟨y, d, sg, S0, rfl, upd_same, h.grow (grow_new hy hd), hz.1, hz.2, fun H' ht hb => k H' ht (grow_made hy hd hb)⟩
noncomputable def sp_Form_init (CF CS : Addr) : Sp := fun vs H Q _ => ∃ (x dx : Addr) (k : Nat), vs = [.ref x, .int (k : Int)] ∧ k ≤ 2 ∧ H x = some (.ins CF dx []) ∧ ∀ H', FormAt CF CS H' x k → But x H H' → Q .non H'
theorem ok_Form_init {CR CS CF CP : Addr} {f : Addr} {fd : FuncData} (F : Fun K "__init__" "Form.__init__" s_Form_init f fd) (T : TxR K mg CR CS CF CP) (TK : TxK K mg) (GT : HasMk P w K mg base 1 CS "SignTable" ["self", "signs"] (sp_SignTable_init CS K))
    (GR : HasFn P w K mg base 1 "row_signs" ["kind"] (sp_row_signs K)) (GS : HasFn P w K mg base 2 "stop_signs" ["kind"] (sp_stop_signs K)) : FnOk P w K mg base (CX1 P w) 3 f fd ["self", "kind"] (sp_Form_init CF CS) := by
  obtain ⟨aL, mL, sL⟩ := TK.lens
  refine FunX F sc_Form_init (fun vs H Q E h => ?_) (fun cdv A outer s H vs Q E hr h => ?_)
  · obtain ⟨x, dx, k, rfl, _⟩ := h
    rfl
  · obtain ⟨x, dx, k, rfl, hk, hx, kq⟩ := h
    have hr1 : Room 1 _ := hr.mono (by decide)
    refine ⟨_, pss_cons (ps_fld (pv 0) (pv 1) rfl) (pss_cons (ps_fld (pv 0) (pe_mk GT hr rfl passX (pa_cons (pe_gR mL rfl) pa_nil)) rfl)
      (pss_cons (ps_fld (pv 0) (pe_mk GT hr rfl passX (pa_cons (pe_fn GR hr1 rfl passX (pa_cons (pv 1) pa_nil)) pa_nil)) rfl)
      (pss_one (ps_fld (pv 0) (pe_mk GT hr rfl passX (pa_cons (pe_fn GS hr rfl passX (pa_cons (pv 1) pa_nil)) pa_nil)) rfl)))), ?_⟩
    refine ⟨_, rfl, _, rfl, x, CF, dx, [], rfl, hx, T.cF, T.nk, (by show 0 < 1000; decide), ?_⟩
    have b1 : But x H (upd H x (.ins CF dx (putF "kind" (.int (k : Int)) []))) := But.upd
    generalize hH1 : upd H x (.ins CF dx (putF "kind" (.int (k : Int)) [])) = H1 at b1
    have ex1 : H1 x = some (.ins CF dx [(("kind" : Str), V.int (k : Int))]) := by rw [← hH1]; exact upd_same
    intro y1 dz ny1 hd hn
    refine tab_call (sL _) lenV_small ny1 hd fun H2 t1 g2 => ⟨rfl, ?_⟩
    refine ⟨_, rfl, x, CF, dx, _, rfl, g2 _ _ ex1, T.cF, T.nl, (by show 1 < 1000; decide), ?_⟩
    have n1x : y1 ≠ x := fun z => by rw [z, ex1] at ny1; cases ny1
    have e2 : putF "lengths" (V.ref y1) [(("kind" : Str), V.int (k : Int))] = [(("kind" : Str), V.int (k : Int)), (("lengths" : Str), V.ref y1)] := by
      show (if ("kind" : Str) = "lengths" then _ else _) = _
      rw [if_neg (by decide +kernel)]
      rfl
    rw [e2]
    have t1' := t1.ins (o := .ins CF dx [(("kind" : Str), V.int (k : Int)), (("lengths" : Str), V.ref y1)]) (g2 _ _ ex1) n1x
    have b3 : But x H (upd H2 x (.ins CF dx [(("kind" : Str), V.int (k : Int)), (("lengths" : Str), V.ref y1)])) := (b1.trans (But.of g2)).trans But.upd
    generalize hH3 : upd H2 x (.ins CF dx [(("kind" : Str), V.int (k : Int)), (("lengths" : Str), V.ref y1)]) = H3 at t1' b3
    have ex3 : H3 x = some (.ins CF dx [(("kind" : Str), V.int (k : Int)), (("lengths" : Str), V.ref y1)]) := by rw [← hH3]; exact upd_same
    refine ⟨_, rfl, k, rfl, hk, fun q4 H4 nq4 sg4 g4 => ?_⟩
    intro y2 dz ny2 hd hn
    refine tab_call sg4 (rowV_small k hk) ny2 hd fun H5 t2 g5 => ⟨rfl, ?_⟩
    have g35 : Grow H3 H5 := fun b o z => g5 _ _ (g4 _ _ z)
    refine ⟨_, rfl, x, CF, dx, _, rfl, g35 _ _ ex3, T.cF, T.nf, (by show 2 < 1000; decide), ?_⟩
    have n2x : y2 ≠ x := fun z => by rw [z, g4 _ _ ex3] at ny2; cases ny2
    have e6 : putF "frets" (V.ref y2) [(("kind" : Str), V.int (k : Int)), (("lengths" : Str), V.ref y1)] = [(("kind" : Str), V.int (k : Int)), (("lengths" : Str), V.ref y1), (("frets" : Str), V.ref y2)] := by
      show (if ("kind" : Str) = "frets" then _ else ((("kind" : Str), V.int (k : Int)) :: (if ("lengths" : Str) = "frets" then _ else _))) = _
      rw [if_neg (by decide +kernel), if_neg (by decide +kernel)]
      rfl
    rw [e6]
    have t1b := (t1'.grow g35).ins (o := .ins CF dx [(("kind" : Str), V.int (k : Int)), (("lengths" : Str), V.ref y1), (("frets" : Str), V.ref y2)]) (g35 _ _ ex3) n1x
    have t2b := t2.ins (o := .ins CF dx [(("kind" : Str), V.int (k : Int)), (("lengths" : Str), V.ref y1), (("frets" : Str), V.ref y2)]) (g35 _ _ ex3) n2x
    have b6 : But x H (upd H5 x (.ins CF dx [(("kind" : Str), V.int (k : Int)), (("lengths" : Str), V.ref y1), (("frets" : Str), V.ref y2)])) := (b3.trans (But.of g35)).trans But.upd
    generalize hH6 : upd H5 x (.ins CF dx [(("kind" : Str), V.int (k : Int)), (("lengths" : Str), V.ref y1), (("frets" : Str), V.ref y2)]) = H6 at t1b t2b b6
    have ex6 : H6 x = some (.ins CF dx [(("kind" : Str), V.int (k : Int)), (("lengths" : Str), V.ref y1), (("frets" : Str), V.ref y2)]) := by rw [← hH6]; exact upd_same
    refine ⟨_, rfl, k, rfl, hk, fun q7 H7 S7 nq7 sg7 sr7 hz1 hz2 g7 => ?_⟩
    intro y3 dz ny3 hd hn
    refine tab_call sg7 ⟨hz1, hz2⟩ ny3 hd fun H8 t3 g8 => ⟨rfl, ?_⟩
    have g68 : Grow H6 H8 := fun b o z => g8 _ _ (g7 _ _ z)
    refine ⟨_, rfl, x, CF, dx, _, rfl, g68 _ _ ex6, T.cF, T.ns, (by show 3 < 1000; decide), ?_⟩
    have n3x : y3 ≠ x := fun z => by rw [z, g7 _ _ ex6] at ny3; cases ny3
    have e9 : putF "stops" (V.ref y3) [(("kind" : Str), V.int (k : Int)), (("lengths" : Str), V.ref y1), (("frets" : Str), V.ref y2)] = ff k y1 y2 y3 := by
      show (if ("kind" : Str) = "stops" then _ else ((("kind" : Str), V.int (k : Int)) :: (if ("lengths" : Str) = "stops" then _ else ((("lengths" : Str), V.ref y1) :: (if ("frets" : Str) = "stops" then _ else _))))) = _
      rw [if_neg (by decide +kernel), if_neg (by decide +kernel), if_neg (by decide +kernel)]
      rfl
    rw [e9]
    have ex8 := g68 _ _ ex6
    refine kq _ ⟨hk, dx, y1, y2, y3, _, _, _, upd_same, (t1b.grow g68).ins ex8 n1x, len_sg, (t2b.grow g68).ins ex8 n2x, row_sg hk, t3.ins ex8 n3x, sg_mono (fun a v ⟨q, e1, e2⟩ => ⟨q, e1, ?_⟩) sr7⟩ ((b6.trans (But.of g68)).trans But.upd)
    have e2' := g8 _ _ e2
    rw [upd_ne (ne_of e2' ex8 (by intro z; cases z))]
    exact e2'
theorem look_mem {α : Type} {w : List Int} : ∀ {S : List (List Int × α)} {acc : Option α} {a : α}, S.foldl (fun acc s => if s.1 = w then some s.2 else acc) acc = some a → acc = some a ∨ a ∈ S.map (·.2)
  | [], _, _, h => .inl h
  | s :: S, acc, a, h => by
    rw [List.foldl_cons] at h
    rcases look_mem h with z | z
    · by_cases e : s.1 = w
      · rw [if_pos e] at z
        exact .inr (by rw [← Option.some.inj z]; exact List.mem_cons_self)
      · rw [if_neg e] at z
        exact .inl z
    · exact .inr (List.mem_cons_of_mem _ z)
theorem take_mem {α : Type} {S : List (List Int × α)} {u r : List Int} {a : α} (h : takeS S u = some (a, r)) : a ∈ S.map (·.2) := by
  unfold takeS at h
  cases e : lookS S (greedy S [] u).1 with
  | none => rw [e] at h; cases h
  | some x =>
    rw [e] at h
    have z : (x, (greedy S [] u).2) = (a, r) := Option.some.inj h
    injection z with z _
    subst z
    rcases look_mem e with q | q
    · cases q
    · exact q
theorem good_kind : GoodS kindS := by unfold GoodS; decide +kernel
noncomputable def sp_read_piece (CP NP : Addr) (K : Frag) : Sp := fun vs H Q E => ∃ (a : Addr) (ns : List Int), vs = [.ref a] ∧ TxL K H a (ns.map V.int) ∧ ns.length ≤ 100000 ∧ (∀ c ∈ ns, c ≠ 256) ∧
  (∀ k ls, mRead ns = some (k, ls) → k ≤ 2 → ls.length ≤ 512 → ∀ x dx l H', H' x = some (.ins CP dx (pf k l)) → LinesAt H' l ls → Grow H H' → Q (.ref x) H') ∧ (mRead ns = none → Fault E NP)
theorem ok_read_piece {CR CS CF CP R NP : Addr} {f : Addr} {fd : FuncData} (F : Fun K "read_piece" "read_piece" s_read_piece f fd) (T : TxR K mg CR CS CF CP) (TK : TxK K mg) (c : XC K mg R NP "NoPiece") (GR : HasMk P w K mg base 1 CR "Reader" ["self", "t"] (sp_Reader_init CR))
    (GT : HasMk P w K mg base 1 CS "SignTable" ["self", "signs"] (sp_SignTable_init CS K)) (GF : HasMk P w K mg base 3 CF "Form" ["self", "kind"] (sp_Form_init CF CS)) (GP : HasMk P w K mg base 1 CP "Piece" ["self", "kind", "lines"] (sp_Piece_init CP))
    (GK : HasMeth P w K mg base 4 CR "take" ["self", "byte"] (sp_take CR NP K)) (GS : HasMeth P w K mg base 4 CR "take_sign" ["self", "table"] (sp_take_sign CR CS NP K)) (GL : HasFn P w K mg base 8 "read_lines" ["reader", "form"] (sp_read_lines CR CS CF NP K))
    (GM : HasFn P w K mg base 1 "has_moment" ["lines"] sp_has_moment) (GN : HasMkX P w K mg base 2 NP "NoPiece" ["self", "place"] (InitX K NP okPl)) : FnOk P w K mg base (CX1 P w) 9 f fd ["t"] (sp_read_piece CP NP K) := by
  obtain ⟨aK, mK, sK⟩ := TK.kinds
  refine FunX F sc_read_piece (fun vs H Q E h => ?_) (fun cdv A outer s H vs Q E hr h => ?_)
  · obtain ⟨a, ns, rfl, _⟩ := h
    rfl
  · obtain ⟨a, ns, rfl, hT, hul, hby, k1, k2⟩ := h
    have hr1 : Room 1 _ := hr.mono (by decide)
    have hr2 : Room 2 _ := hr.mono (by decide)
    have hr3 : Room 3 _ := hr.mono (by decide)
    have hr4 : Room 4 _ := hr.mono (by decide)
    refine ⟨_, pss_cons (ps_set (i := 1) sc_read_piece.nd rfl (Or.inl rfl) (pe_mk GR hr2 rfl passX (pa_cons (pv 0) pa_nil)))
      (pss_cons (ps_set (i := 2) sc_read_piece.nd rfl (Or.inl rfl) (pe_me T.cR GS hr4 passX (pv 1) (pa_cons (pe_mk GT hr2 rfl passX (pa_cons (pe_gR mK rfl) pa_nil)) pa_nil)))
      (pss_cons (ps_expr (pe_me T.cR GK hr4 passX (pv 1) (pa_cons (pe_gI T.endB rfl) pa_nil)))
      (pss_cons (ps_set (i := 3) sc_read_piece.nd rfl (Or.inl rfl) (pe_fn GL hr rfl passX (pa_cons (pv 1) (pa_cons (pe_mk GF hr4 rfl passX (pa_cons (pv 2) pa_nil)) pa_nil))))
      (pss_cons (ps_if (pt_not (pt_val (pe_fn GM hr1 rfl passX (pa_cons (pv 3) pa_nil)) (fun _ => rfl))) (pss_one (ps_raise rfl leavesX (pe_mkX GN hr3 rfl passX (pa_cons (pe_callB call_len rfl T.nlen (by decide +kernel) (pa_cons (pv 0) pa_nil)) pa_nil)))) pss_nil)
      (pss_one (ps_ret (pe_mk GP hr2 rfl passX (pa_cons (pv 2) (pa_cons (pv 3) pa_nil))))))))), ?_⟩
    refine ⟨_, rfl, fun r dr nr ndr ner => ?_⟩
    refine ⟨r, dr, a, rfl, upd_same, fun H1 er1 bb1 => ⟨rfl, ?_⟩⟩
    have g1 : Grow H H1 := grow_made nr ndr fun b o n z => bb1 b o n z
    have hR1 : RdAt CR K H1 r ns ns := ⟨dr, a, 0, er1, hT.keep fun b o u z => g1 _ _ z, Nat.zero_le _, rfl⟩
    refine ⟨_, rfl, r, dr, _, rfl, er1, rfl, ?_⟩
    intro tb dz ntb hd hn
    refine tab_call (sK _) kindV_small ntb hd fun H2 tt g2 => ⟨rfl, ?_⟩
    have hR2 := hR1.keep (r' := r) g2
    refine sign_of hR2 tt kind_sg good_kind hul (fun kk u3 v eS rv H3 hR3 hb3 => ?_) fun eS => k2 (by unfold mRead; rw [eS])
    cases (show v = V.int kk from rv)
    obtain ⟨k, rfl, hk2⟩ : ∃ k : Nat, kk = (k : Int) ∧ k ≤ 2 := by
      have hm := take_mem eS
      have : kk = 0 ∨ kk = 1 ∨ kk = 2 := by simpa [kindS] using hm
      rcases this with rfl | rfl | rfl
      · exact ⟨0, rfl, by decide⟩
      · exact ⟨1, rfl, by decide⟩
      · exact ⟨2, rfl, by decide⟩
    have em : mRead ns = (match mTake 10 u3 with | none => none | some z => match mLines k (z.length + 1) 0 0 z with | none => none | some ls => if ls.any (fun l => decide (0 < l.1)) = true then some (k, ls) else none) := by
      unfold mRead
      rw [eS]
      rfl
    obtain ⟨dx3, a3, p3, e3, _⟩ := id hR3
    refine ⟨_, rfl, r, dx3, _, rfl, e3, rfl, r, ns, u3, 10, rfl, hR3, by decide, fun u4 eT H4 hR4 hb4 => ?_, fun eT => k2 (by rw [em, eT])⟩
    rw [eT] at em
    dsimp only at em
    have g14 : But r H1 H4 := ((But.of g2).trans hb3).trans hb4
    refine ⟨_, rfl, _, rfl, fun fm dfm nfm ndf nef => ?_⟩
    refine ⟨fm, dfm, k, rfl, hk2, upd_same, fun H5 hF5 bb5 => ⟨rfl, ?_⟩⟩
    have g5 : Grow H4 H5 := grow_made nfm ndf bb5
    have hR5 := hR4.keep (r' := r) g5
    refine ⟨r, ns, u4, fm, k, rfl, hR5, hF5, hul, hby, u4.length + 1, Nat.le_succ _, fun ls eL q H6 nq hL6 h512 hR6 hb6 => ?_, fun eL => k2 (by rw [em, eL])⟩
    rw [eL] at em
    dsimp only at em
    have g16 : But r H1 H6 := (g14.trans (But.of g5)).trans hb6
    refine ⟨_, rfl, q, ls, rfl, hL6, h512, fun H7 g7 => ?_⟩
    refine ⟨_, rfl, ?_⟩
    have gH : Grow H H7 := fun b o z => g7 _ _ (g16 b o (ne_of_none z nr) (g1 _ _ z))
    refine ite2 (fun h1 => ?_) fun h1 => ?_
    · have hn : ¬ (ls.any fun l => decide (0 < l.1)) = true := by simpa using h1
      refine raise_of c.cls ?_ fun Q Q' m h => ?_
      · exact ⟨_, rfl, _, _, rfl, .inl ⟨_, Same.seq gH hT.sq, rfl⟩, _, ⟨_, rfl, rfl⟩, k2 (by rw [em, if_neg hn]) _⟩
      · obtain ⟨v, e1, x', n', e2, e3, h⟩ := h
        exact ⟨v, e1, x', n', e2, e3, m _ _ h⟩
    · have hy : (ls.any fun l => decide (0 < l.1)) = true := by simpa using h1
      rw [if_pos hy] at em
      refine ⟨_, rfl, _, rfl, fun x dx nx ndx nex => ?_⟩
      refine ⟨x, dx, k, q, rfl, upd_same, fun H8 ex8 bb8 => ⟨rfl, ?_⟩⟩
      have g8 : Grow H7 H8 := grow_made nx ndx fun b o n z => bb8 b o n z
      obtain ⟨vs, hq, hv⟩ := hL6
      refine k1 k ls em hk2 h512 x dx q H8 ex8 ⟨vs, g8 _ _ (g7 _ _ hq), Paired.mono' (fun ln v ⟨q', sl, e1, e2, ⟨ws, e3, e4⟩, e5⟩ => ⟨q', sl, e1, g8 _ _ (g7 _ _ e2), ⟨ws, g8 _ _ (g7 _ _ e3), e4.mono fun s v ⟨q2, e6, e7⟩ => ⟨q2, e6, g8 _ _ (g7 _ _ e7)⟩⟩, e5⟩) hv⟩ fun b o z => g8 _ _ (gH b o z)
noncomputable def sp_check_size (TL : Addr) (K : Frag) : Sp := fun vs H Q E => ∃ (a : Addr) (ns : List Int), vs = [.ref a] ∧ TxL K H a (ns.map V.int) ∧ (ns.length ≤ 65536 → Q .non H) ∧ (65536 < ns.length → Raises E TL (fNum (-2)))
theorem ok_check_size {CR CS CF CP R TL : Addr} {f : Addr} {fd : FuncData} (F : Fun K "check_size" "check_size" s_check_size f fd) (T : TxR K mg CR CS CF CP) (TK : TxK K mg) (c : XC K mg R TL "TooLong") (GN : HasMkX P w K mg base 2 TL "TooLong" ["self"] (InitX K TL (okC (-2)))) :
    FnOk P w K mg base (CX1 P w) 4 f fd ["t"] (sp_check_size TL K) := by
  refine FunX F sc_check_size (fun vs H Q E h => ?_) (fun cdv A outer s H vs Q E hr h => ?_)
  · obtain ⟨a, ns, rfl, _⟩ := h
    rfl
  · obtain ⟨a, ns, rfl, hT, h1, h2⟩ := h
    refine ⟨_, pss_one (ps_if (pt_cmpR op_gt (pe_callB call_len rfl T.nlen (by decide +kernel) (pa_cons (pv 0) pa_nil)) (pe_gI TK.bytes rfl) (nomark _)) (pss_one (ps_raise rfl leavesX (pe_mkX0 GN hr rfl passX))) pss_nil), ?_⟩
    refine ⟨_, rfl, _, _, rfl, .inl ⟨_, hT.sq, rfl⟩, _, _, rfl, rfl, _, rfl, ?_⟩
    refine ite2 (fun q => ?_) fun q => ?_
    · have q' : 65536 < ns.length := by
        have : (65536 : Int) < ((ns.map V.int).length : Nat) := by simpa using q
        rw [List.length_map] at this
        omega
      exact raise_of c.cls (show tNil _ _ _ from ⟨_, ⟨rfl, rfl⟩, h2 q'⟩) fun Q Q' m h => m _ _ h
    · have q' : ¬ (65536 : Int) < ((ns.map V.int).length : Nat) := by simpa using q
      rw [List.length_map] at q'
      exact h1 (by omega)
noncomputable def sp_read_text (CP NP TL : Addr) (K : Frag) : Sp := fun vs H Q E => ∃ (a : Addr) (ns : List Int), vs = [.ref a] ∧ TxL K H a (ns.map V.int) ∧ (∀ c ∈ ns, c ≠ 256) ∧
  (ns.length ≤ 65536 → ∀ k ls, mRead ns = some (k, ls) → k ≤ 2 → ls.length ≤ 512 → ∀ x dx l H', H' x = some (.ins CP dx (pf k l)) → LinesAt H' l ls → Grow H H' → Q (.ref x) H') ∧ (ns.length ≤ 65536 → mRead ns = none → Fault E NP) ∧ (65536 < ns.length → Raises E TL (fNum (-2)))
theorem ok_read_text {CP NP TL : Addr} {f : Addr} {fd : FuncData} (F : Fun K "read_text" "read_text" s_read_text f fd) (G1 : HasFn P w K mg base 4 "check_size" ["t"] (sp_check_size TL K)) (G2 : HasFn P w K mg base 9 "read_piece" ["t"] (sp_read_piece CP NP K)) :
    FnOk P w K mg base (CX1 P w) 10 f fd ["t"] (sp_read_text CP NP TL K) := by
  refine FunX F sc_read_text (fun vs H Q E h => ?_) (fun cdv A outer s H vs Q E hr h => ?_)
  · obtain ⟨a, ns, rfl, _⟩ := h
    rfl
  · obtain ⟨a, ns, rfl, hT, hby, h1, h2, h3⟩ := h
    have hr4 : Room 4 _ := hr.mono (by decide)
    refine ⟨_, pss_cons (ps_expr (pe_fn G1 hr4 rfl passX (pa_cons (pv 0) pa_nil))) (pss_one (ps_ret (pe_fn G2 hr rfl passX (pa_cons (pv 0) pa_nil)))), ?_⟩
    refine ⟨_, rfl, a, ns, rfl, hT, fun hz => ?_, h3⟩
    exact ⟨_, rfl, a, ns, rfl, hT, by omega, hby, h1 hz, h2 hz⟩
end
end Lu
set_option Elab.async false
set_option linter.all false
set_option maxRecDepth 100000
set_option maxHeartbeats 4000000
namespace Lu
open PySem PySem.Spec PyProof.Rows L2 LX
open PySem.W (Frag findIn specialIn instIn typeIn keepIn readsIn findCls isFn)
noncomputable def momL (ls : List LineI) : List LineI := ls.filter fun l => decide (0 < l.1)
noncomputable def sizesOut (ns : List Int) : List Int := if 65536 < ns.length then [-2] else match mRead ns with
  | none => [-6]
  | some (k, ls) => [(k : Int), ((momL ls).length : Int), (ls.length : Int) - ((momL ls).length : Int), ((momL ls).map fun l => (l.2.length : Int)).sum, (ls.map fun l => l.1).sum]
section
variable {P : Program} {w : World} {K : Frag} {mg : Str → Option Value} {base : Heap}
noncomputable def MomV (H : Hp) (D : Addr) (ln : LineI) (v : V) : Prop := ∃ sl, v = .ref sl ∧ StL H sl ln.2 ∧ sl ≠ D
theorem StL.grow {H H' : Hp} {sl : Addr} {ss : List StopI} (g : Grow H H') (h : StL H sl ss) : StL H' sl ss := by
  obtain ⟨vs, e, hs⟩ := h
  exact ⟨vs, g _ _ e, hs.mono fun s v ⟨q, e1, e2⟩ => ⟨q, e1, g _ _ e2⟩⟩
theorem MomV.put {H : Hp} {D : Addr} {xs ys : List V} {ln : LineI} {v : V} (hD : H D = some (.lst xs)) (h : MomV H D ln v) : MomV (upd H D (.lst ys)) D ln v := by
  obtain ⟨sl, e1, e2, e3⟩ := h
  exact ⟨sl, e1, e2.put hD e3, e3⟩
theorem mom_take {ls : List LineI} {i : Nat} {ln : LineI} (h : ls[i]? = some ln) : momL (ls.take (i + 1)) = momL (ls.take i) ++ (if 0 < ln.1 then [ln] else []) := by
  unfold momL
  rw [List.take_add_one, h, Option.toList, List.filter_append]
  congr 1
  by_cases q : 0 < ln.1
  · rw [if_pos q, List.filter_cons_of_pos (by simpa using q)]; rfl
  · rw [if_neg q, List.filter_cons_of_neg (by simpa using q)]; rfl
theorem mom_le (ls : List LineI) : (momL ls).length ≤ ls.length := List.length_filter_le _ _
noncomputable def sp_sizes (K : Frag) : Sp := fun vs H Q _ => ∃ (a : Addr) (ns : List Int), vs = [.ref a] ∧ TxL K H a (ns.map V.int) ∧ (∀ c ∈ ns, c ≠ 256) ∧ ∀ H' l, H' l = some (.lst ((sizesOut ns).map V.int)) → Q (.ref l) H'
theorem ok_sizes {CR CS CF CP R NP TL : Addr} {f : Addr} {fd : FuncData} (F : Fun K "sizes" "sizes" s_sizes f fd) (T : TxR K mg CR CS CF CP) (TR : Ref K mg R) (c1 : XC K mg R NP "NoPiece") (c2 : XC K mg R TL "TooLong") (ns_ : mg "sum" = none)
    (G : HasFn P w K mg base 10 "read_text" ["t"] (sp_read_text CP NP TL K)) : FnOk P w K mg base (CX1 P w) 11 f fd ["t"] (sp_sizes K) := by
  refine FunX F sc_sizes (fun vs H Q E h => ?_) (fun cdv A outer s H vs Q E hr h => ?_)
  · obtain ⟨a, ns, rfl, _⟩ := h
    rfl
  · obtain ⟨a, ns, rfl, hT, hby, q⟩ := h
    refine ⟨_, pss_cons (ps_try (tb := fun R => tAsg (tCall (sp_read_text CP NP TL K) [] R (tCons (tVar 0) tNil)) (gName 1)) rfl rfl (fun pins R => pss_one (ps_set (i := 1) sc_sizes.nd rfl (Or.inl rfl) (pe_fn G hr rfl passT (pa_cons (pv 0) pa_nil))))
        (.cons (t := tRet (tLst (tCons (tFldX K (tVar 2) "number") tNil))) rfl TR.mg (by decide) TR.cls sc_sizes.nd (i := 2) rfl rfl (fun x => pss_one (ps_ret (pe_lst (pa_cons (pe_fldX (pv 2) rfl) pa_nil)))) .nil))
      (pss_cons (ps_setLc (i := 3) (g := gTup K 2 (gCons (gName 7) (gCons (gName 8) gNil))) (own := [("length", 7), ("stops", 8)]) rfl sc_sizes.nd rfl rfl (sw_true rfl rfl rfl (by decide +kernel)) (pi_list (pe_fld (pv 1) rfl)) (blkOk_by (by kernel_rfl))
        (fun _ _ _ _ _ => pg_tup (n := 2) rfl (pgs_cons (pg_name (i := 7) sc_sizes.nd rfl (Or.inl rfl) (.inr rfl)) (pgs_cons (pg_name (i := 8) sc_sizes.nd rfl (Or.inl rfl) (.inr rfl)) pgs_nil))) (fun _ _ _ _ _ => pts_one (pt_cmpR op_gt (pv 7) pe_int (nomark _)))
        (fun _ _ _ _ _ => pv 8))
      (pss_cons (ps_set (i := 4) sc_sizes.nd rfl (Or.inl rfl) (pe_op op_sub (pe_callB call_len rfl T.nlen (by decide +kernel) (pa_cons (pe_fld (pv 1) rfl) pa_nil)) (pe_callB call_len rfl T.nlen (by decide +kernel) (pa_cons (pv 3) pa_nil))))
      (pss_cons (ps_set (i := 5) sc_sizes.nd rfl (Or.inl rfl) (pe_callB (cr_sum rfl) rfl ns_ (by decide +kernel) (pa_cons (pe_lc (g := gName 8) (te := tCB (fun xs H Q => ∃ (x : V) (n : Nat), xs = [x] ∧ LenV K x H n ∧ Q (V.int (n : Int)) H) (tCons (tVar 8) tNil)) (own := [("stops", 8)]) rfl sc_sizes.nd (pi_list (pv 3)) (blkOk_by (by kernel_rfl))
        (fun _ _ _ _ _ => pg_name (i := 8) sc_sizes.nd rfl (Or.inl rfl) (.inr rfl)) (fun _ _ _ _ _ => pts_nil) (fun _ _ _ _ _ => pe_callB (id := "len") call_len rfl T.nlen (by decide +kernel) (pa_cons (pv 8) pa_nil))) pa_nil)))
      (pss_cons (ps_set (i := 6) sc_sizes.nd rfl (Or.inl rfl) (pe_callB (cr_sum rfl) rfl ns_ (by decide +kernel) (pa_cons (pe_lc (g := gTup K 2 (gCons (gName 7) (gCons (gName 8) gNil))) (own := [("length", 7), ("stops", 8)]) rfl sc_sizes.nd (pi_list (pe_fld (pv 1) rfl)) (blkOk_by (by kernel_rfl))
        (fun _ _ _ _ _ => pg_tup (n := 2) rfl (pgs_cons (pg_name (i := 7) sc_sizes.nd rfl (Or.inl rfl) (.inr rfl)) (pgs_cons (pg_name (i := 8) sc_sizes.nd rfl (Or.inl rfl) (.inr rfl)) pgs_nil))) (fun _ _ _ _ _ => pts_nil) (fun _ _ _ _ _ => pv 7)) pa_nil)))
      (pss_one (ps_ret (pe_lst (pa_cons (pe_fld (pv 1) rfl) (pa_cons (pe_callB call_len rfl T.nlen (by decide +kernel) (pa_cons (pv 3) pa_nil)) (pa_cons (pv 4) (pa_cons (pv 5) (pa_cons (pv 6) pa_nil)))))))))))), ?_⟩
    refine ⟨_, rfl, a, ns, rfl, hT, hby, fun hz k ls eR hk h512 x dx l H1 ex hL g1 => ?_, fun hz eR p d H' hd => ?_, fun hz d H' hd => ?_⟩
    · have eo : sizesOut ns = [(k : Int), ((momL ls).length : Int), (ls.length : Int) - ((momL ls).length : Int), ((momL ls).map fun l => (l.2.length : Int)).sum, (ls.map fun l => l.1).sum] := by
        unfold sizesOut
        rw [if_neg (by omega), eR]
      rw [eo] at q
      obtain ⟨vs, hl, hv⟩ := id hL
      have hlen := Paired.len' hv
      have lpl : (pf k l).lookup ("lines" : Str) = some (V.ref l) := by
        unfold pf
        rw [List.lookup_cons, show (("lines" : Str) == ("kind" : Str)) = false by decide +kernel]
        rfl
      have lpk : (pf k l).lookup ("kind" : Str) = some (V.int (k : Int)) := by
        unfold pf
        rw [List.lookup_cons, show (("kind" : Str) == ("kind" : Str)) = true by decide +kernel]
      refine ⟨_, rfl, x, CP, dx, _, _, rfl, ex, T.cP, T.pl, lpl, l, rfl, ⟨_, SqL.of hl⟩, fun D hD => ?_⟩
      refine lc_list (K := K) (a := l) (xs := vs) (fun i H' => ∃ ws, H' D = some (.lst ws) ∧ Paired (MomV H' D) (momL (ls.take i)) ws ∧ Grow H1 H') ⟨[], upd_same, .nil, fun b o z => by rw [upd_ne (ne_of_none z hD)]; exact z⟩ (fun i H' _ ⟨ws, _, _, g⟩ => SqL.of (g _ _ hl)) ?_ ?_
      · rintro i v H' hvi ⟨ws, hD1, hp, g⟩
        obtain ⟨ln, hln, q', sl, rfl, eq, est, _⟩ := paired_at hv hvi
        have hsz : ws.length < sizeLine := by
          rw [← Paired.len' hp, sizeLine_eq]
          have := mom_le (ls.take i)
          rw [List.length_take] at this
          omega
        refine ⟨q', _, rfl, SqT.of (g _ _ eq), rfl, _, _, rfl, _, _, rfl, rfl, rfl, _, rfl, _, _, rfl, rfl, _, rfl, ?_⟩
        refine ite2 (fun h1 => ?_) fun h1 => ?_
        · have h1' : 0 < ln.1 := by simpa using h1
          refine ⟨_, rfl, ws, hD1, hsz, _, upd_same, ?_, fun b o z => ?_⟩
          · rw [mom_take hln, if_pos h1']
            have nD : sl ≠ D := by
              obtain ⟨_, e, _⟩ := est
              exact ne_of_none e hD
            exact Paired.snoc' (MomV.put hD1 ⟨sl, rfl, est.grow g, nD⟩) (Paired.mono' (fun _ _ h => h.put hD1) hp)
          · have := g _ _ z
            rw [upd_ne (ne_of_none z hD)]
            exact this
        · have h1' : ¬ 0 < ln.1 := by simpa using h1
          refine ⟨ws, hD1, ?_, g⟩
          rw [mom_take hln, if_neg h1', List.append_nil]
          exact hp
      · rintro H2 ⟨ws, hD2, hp, g2⟩
        rw [List.take_of_length_le (by rw [← hlen]; exact Nat.le_refl _)] at hp
        have lws := Paired.len' hp
        have lm := mom_le ls
        refine ⟨_, rfl, x, CP, dx, _, _, rfl, g2 _ _ ex, T.cP, T.pl, lpl, _, _, rfl, .inl ⟨_, SqL.of (g2 _ _ hl), rfl⟩, _, rfl, _, _, rfl, .inl ⟨_, SqL.of hD2, rfl⟩, _, _, rfl, rfl, ?_⟩
        refine ⟨_, rfl, D, rfl, ⟨_, SqL.of hD2⟩, fun D2 hE => ?_⟩
        have s2 : ∀ (ys : List V), Grow H2 (upd H2 D2 (.lst ys)) := fun ys b o z => by rw [upd_ne (ne_of_none z hE)]; exact z
        refine lc_list (K := K) (a := D) (xs := ws) (fun i H' => H' = upd H2 D2 (.lst ((((momL ls).map fun l => (l.2.length : Int)).map V.int).take i))) rfl (fun i H' _ e => by rw [e]; exact SqL.of (s2 _ _ _ hD2)) ?_ ?_
        · rintro i v H' hvi rfl
          obtain ⟨ln, hln, sl, rfl, ⟨us, hus, hu⟩, _⟩ := paired_at hp hvi
          have hul' : us.length = ln.2.length := (hu.len).symm
          refine ⟨rfl, _, rfl, _, _, rfl, .inl ⟨_, SqL.of (s2 _ _ _ hus), rfl⟩, _, upd_same, ?_, ?_⟩
          · rw [List.length_take, List.length_map, List.length_map, sizeLine_eq]
            omega
          · have hc : (((momL ls).map fun l => (l.2.length : Int)).map V.int)[i]? = some (V.int (us.length : Int)) := by
              rw [List.getElem?_map, List.getElem?_map, hln, hul']
              rfl
            rw [upd_upd, List.take_add_one, hc]
            rfl
        · rintro H3 rfl
          rw [List.take_of_length_le (by rw [List.length_map, List.length_map, lws]; exact Nat.le_refl _)]
          refine ⟨D2, _, rfl, SqL.of upd_same, ?_⟩
          have g3 := s2 (((momL ls).map fun l => (l.2.length : Int)).map V.int)
          generalize upd H2 D2 (.lst (((momL ls).map fun l => (l.2.length : Int)).map V.int)) = H3 at g3
          have ex3 := g3 _ _ (g2 _ _ ex)
          have hl3 := g3 _ _ (g2 _ _ hl)
          refine ⟨_, rfl, x, CP, dx, _, _, rfl, ex3, T.cP, T.pl, lpl, l, rfl, ⟨_, SqL.of hl3⟩, fun D3 hF => ?_⟩
          have s3 : ∀ (ys : List V), Grow H3 (upd H3 D3 (.lst ys)) := fun ys b o z => by rw [upd_ne (ne_of_none z hF)]; exact z
          refine lc_list (K := K) (a := l) (xs := vs) (fun i H' => H' = upd H3 D3 (.lst (((ls.map fun l => l.1).map V.int).take i))) rfl (fun i H' _ e => by rw [e]; exact SqL.of (s3 _ _ _ hl3)) ?_ ?_
          · rintro i v H' hvi rfl
            obtain ⟨ln, hln, q', sl, rfl, eq, _⟩ := paired_at hv hvi
            refine ⟨q', _, rfl, SqT.of (s3 _ _ _ (g3 _ _ (g2 _ _ eq))), rfl, _, _, rfl, _, _, rfl, rfl, rfl, _, rfl, _, upd_same, ?_, ?_⟩
            · rw [List.length_take, List.length_map, List.length_map, sizeLine_eq]
              omega
            · have hc : ((ls.map fun l => l.1).map V.int)[i]? = some (V.int ln.1) := by
                rw [List.getElem?_map, List.getElem?_map, hln]
                rfl
              rw [upd_upd, List.take_add_one, hc]
              rfl
          · rintro H4 rfl
            rw [List.take_of_length_le (by rw [List.length_map, List.length_map, hlen]; exact Nat.le_refl _)]
            refine ⟨D3, _, rfl, SqL.of upd_same, ?_⟩
            have g4 := s3 ((ls.map fun l => l.1).map V.int)
            generalize upd H3 D3 (.lst ((ls.map fun l => l.1).map V.int)) = H4 at g4
            have hD4 := g4 _ _ (g3 _ _ hD2)
            refine ⟨_, rfl, x, CP, dx, _, _, rfl, g4 _ _ ex3, T.cP, T.pk, lpk, _, rfl, _, _, rfl, .inl ⟨_, SqL.of hD4, rfl⟩, _, rfl, _, rfl, _, rfl, (by show 5 ≤ sizeLine; decide), fun r hr' => q _ r ?_⟩
            rw [upd_same, ← lws, ← hlen]
            rfl
    · refine ⟨NP, [R], rfl, c1.cls, fun x hx => ?_⟩
      refine (if_pos (show R ∈ [NP, R] by simp)).mpr ?_
      refine ⟨_, rfl, x, NP, [R], d, _, _, rfl, upd_same, by rw [upd_ne (ne_of_none hd hx)]; exact hd, c1.cls, c1.num, rfl, (by show 1 ≤ sizeLine; decide), fun l hl => q _ l ?_⟩
      have e : sizesOut ns = [-6] := by unfold sizesOut; rw [if_neg (by omega), eR]
      rw [upd_same, e]
      rfl
    · refine ⟨TL, [R], rfl, c2.cls, fun x hx => ?_⟩
      refine (if_pos (show R ∈ [TL, R] by simp)).mpr ?_
      refine ⟨_, rfl, x, TL, [R], d, _, _, rfl, upd_same, by rw [upd_ne (ne_of_none hd hx)]; exact hd, c2.cls, c2.num, rfl, (by show 1 ≤ sizeLine; decide), fun l hl => q _ l ?_⟩
      have e : sizesOut ns = [-2] := by unfold sizesOut; rw [if_pos hz]
      rw [upd_same, e]
      rfl
end
end Lu
set_option Elab.async false
set_option linter.all false
set_option maxRecDepth 100000
set_option maxHeartbeats 4000000
namespace Lu
open PySem PySem.Spec PyProof.Rows L2 LX
open PySem.W (Frag findIn specialIn instIn typeIn keepIn readsIn findCls isFn Codec WData OpenSpec)
theorem txt_arg {K : Frag} {H : Hp} {v : V} {ns : List Int} (hO : OnlyF H) (h : Dw K H v (.list (ns.map WData.int))) : ∃ a, v = .ref a ∧ TxL K H a (ns.map V.int) := by
  cases h with
  | @lst a xs _ hs hd =>
    have e := ints_dw ns _ hd
    subst e
    refine ⟨a, rfl, ?_⟩
    rcases hs with (hs | ⟨o, hs⟩) | hs
    · rcases hO a with z | ⟨o, u, z⟩
      · rw [z] at hs; cases hs
      · rw [z] at hs; cases hs
    · exact .inl ⟨o, hs⟩
    · exact .inr fun H' => .inr hs
theorem in_bytes {n : Nat} {ns : List Int} (h : Codec.inList 0 n (Codec.inInt (Int.ofNat 0) (Int.ofNat 255)) ns = true) : ∀ c ∈ ns, 0 ≤ c ∧ c ≤ 255 := by
  simp only [Codec.inList, Codec.inInt, Bool.and_eq_true, List.all_eq_true, decide_eq_true_eq] at h
  exact fun c hc => h.2 c hc
theorem xcls_mk {K : Frag} {C : Addr} {rs : List Addr} {nm q : Str} {N : Addr} {bs : List Value} {sn : List Str} {sub : List Value} {ab : Bool} {col : Option Bool} {dd : Option Addr} {k0 k1 k2 k3 k5 : Option Value}
    (l : List.lookup C K = some (excClassObj nm q C N bs (rs.map Value.ref ++ tailX) true sn sub ab col dd k0 k1 k2 k3 k5 "Exception.__new__")) (h1 : specialIn K (.ref C) "__call__" = some (some (.builtin "type.__call__"))) (h2 : instIn K (.ref C) (.type "type") = some true)
    (h3 : findIn K (.ref C) "__setattr__" = some (some (.builtin "object.__setattr__"))) (h4 : findIn K (.ref C) "__getattribute__" = some (some (.builtin "BaseException.__getattribute__"))) (h5 : findIn K (.ref C) "__getattr__" = some none) : XCls K C rs := ⟨⟨nm, q, N, bs, sn, sub, ab, col, dd, k0, k1, k2, k3, k5, l⟩, h1, h2, h3, h4, h5⟩
theorem hasFn_mk {P : Program} {w : World} {K : Frag} {mg : Str → Option Value} {base : Heap} {h : Heap} {k : Nat} {x : Str} {ps : List Str} {sp : Sp} {f : Addr} {fd : FuncData} {st : Stmt} (e : mg x = some (.ref f)) (F : Fun K x x st f fd) (b : Binds K fd ps []) (G : FnOk P w K mg base (CX1 P w) k f fd ps sp) :
    HasFn P w K mg base k x ps sp := ⟨f, fd, e, F.kp, b, G⟩
theorem walk_specX {r : OpenSpec} {k : Nat} {q : Program} {loose : List Str} {XP : (Str → Option Value) → Heap → Prop} {YP : World → Heap → Prop} {d : DefRec} {K : Params → Frag} {ps : List Str} {sp : Frag → Sp}
    (hwell : r.wellSaid = true) (hdf : d.params.defaults = []) (hlen : r.args.length = ps.length) (hr : Room k callerA)
    (hY : ∀ (w : World) (h : Heap), YP w h → (K w.params).In h)
    (F : ∀ (w : World) (mg : Str → Option Value) (fa : Addr) (h : Heap), YP w h → (K w.params).In h → h.Ns mainGlobals mg → mg d.name = some (.ref fa) →
      ∃ fd : FuncData, (∀ (s : Shared) (us : List Value), us.length = ps.length → BindsTo s fd ⟨us, []⟩ (ps.zip us)) ∧
        ∀ base : Heap, (K w.params).In base → base.Ns mainGlobals mg → FnOk r.prog w (K w.params) mg base (CX1 r.prog w) k fa fd ps (sp (K w.params)))
    (hsp : ∀ (K : Frag) (H : Hp) (xs : List V) (a : Codec.denoteAll r.args), OnlyF H → Codec.withinAll r.args a = true → Codec.app r.args r.asked a = true → DwAll K H xs (Codec.encAll r.args a) →
      sp K xs H (fun v H' => Dw K H' v (r.ret.enc (Codec.app r.args r.f a))) fun _ _ _ => False) :
    PySem.W.WalkOS q loose XP YP r d [] (fun f vs => PySem.call f vs) :=
  walk_spec (K := K) (CX := fun w => CX1 r.prog w) (sp := fun w => sp (K w.params)) hwell hdf hlen hr hY F (fun w H xs a h1 h2 h3 h4 => hsp (K w.params) H xs a h1 h2 h3 h4) fun w H s e s' h => by
    obtain ⟨_, _, _, _, _, _, _, _, _, _, _, _, _, _, _, z⟩ := h
    exact z
theorem of_read {ns : List Int} (h : ∀ c ∈ ns, 0 ≤ c ∧ c ≤ 255) (g : LuteTab.Kind → LuteTab.Piece → List Int) (g' : Nat → List LineI → List Int) (hg : ∀ k x, (∀ l ∈ x, LineG l) → x.length ≤ 512 → x.any LuteTab.Line.isMoment = true → g k x = g' k.num (x.map lineI)) :
    LuteC.of (LuTabNeutral.bytes ns) g = if 65536 < ns.length then [-2] else match mRead ns with | none => [-6] | some (k, ls) => g' k ls := by
  have e := read_eq (LuTabNeutral.bytes ns)
  rw [bytes_iN h] at e
  have hl : (LuTabNeutral.bytes ns).length = ns.length := by unfold LuTabNeutral.bytes; rw [List.length_map]
  unfold LuteC.of
  rw [hl, e]
  by_cases hz : 65536 < ns.length
  · rw [if_pos hz, if_pos (show LuteC.TEXT < ns.length from hz)]
    rfl
  · rw [if_neg hz, if_neg (show ¬ LuteC.TEXT < ns.length from hz)]
    cases hr : LuteTab.read (LuTabNeutral.bytes ns) with
    | error p => rfl
    | ok y =>
      obtain ⟨k, x⟩ := y
      obtain ⟨i1, i2, i3⟩ := read_facts hr
      exact hg k x i1 i2 i3
theorem lg_pos {n : Nat} {l : List LuteTab.Stop} (h : LineG (.moment n l)) : 0 < n := len_pos h.1
end Lu
set_option Elab.async false
set_option linter.all false
set_option maxRecDepth 100000
set_option maxHeartbeats 4000000
namespace Lu
open LuteTab
theorem mom_map : ∀ (x : Piece), (∀ l ∈ x, LineG l) → momL (x.map lineI) = (x.filter Line.isMoment).map lineI
  | [], _ => rfl
  | .bar :: x, h => by
    have ih := mom_map x fun l hl => h l (List.mem_cons_of_mem _ hl)
    show momL (x.map lineI) = _
    rw [ih]
    rfl
  | .moment n l :: x, h => by
    have ih := mom_map x fun l hl => h l (List.mem_cons_of_mem _ hl)
    have hp := lg_pos (h _ List.mem_cons_self)
    unfold momL at ih ⊢
    rw [List.map_cons, List.filter_cons_of_pos (by show decide (0 < (n : Int)) = true; simpa using hp), ih]
    rfl
theorem bars_len : ∀ (x : Piece), x.length = (x.filter Line.isMoment).length + (x.filter fun (l : Line) => !l.isMoment).length
  | [] => rfl
  | .bar :: x => by
    have := bars_len x
    show x.length + 1 = (x.filter Line.isMoment).length + ((x.filter fun (l : Line) => !l.isMoment).length + 1)
    omega
  | .moment n l :: x => by
    have := bars_len x
    show x.length + 1 = ((x.filter Line.isMoment).length + 1) + (x.filter fun (l : Line) => !l.isMoment).length
    omega
theorem stops_sum : ∀ (x : Piece), (((x.filter Line.isMoment).map lineI).map fun l => (l.2.length : Int)).sum = ((x.flatMap LuteC.stopsOf).length : Int)
  | [] => rfl
  | .bar :: x => stops_sum x
  | .moment n l :: x => by
    have := stops_sum x
    show ((l.map stopI).length : Int) + (((x.filter Line.isMoment).map lineI).map fun l => (l.2.length : Int)).sum = ((l ++ x.flatMap LuteC.stopsOf).length : Int)
    rw [this, List.length_append, List.length_map]
    omega
theorem units_sum : ∀ (x : Piece), ((x.map lineI).map fun l => l.1).sum = (units x : Int)
  | [] => rfl
  | .bar :: x => by
    have := units_sum x
    show (0 : Int) + ((x.map lineI).map fun l => l.1).sum = ((0 + units x : Nat) : Int)
    rw [this]
    omega
  | .moment n l :: x => by
    have := units_sum x
    show (n : Int) + ((x.map lineI).map fun l => l.1).sum = ((n + units x : Nat) : Int)
    rw [this]
    omega
theorem sizes_spec {ns : List Int} (h : ∀ c ∈ ns, 0 ≤ c ∧ c ≤ 255) : sizesOut ns = PyWqaucm.sizes ns := by
  refine Eq.symm (Eq.trans (of_read h (fun k p => LuteC.nats [k.num, (p.filter Line.isMoment).length, (p.filter fun (l : Line) => !l.isMoment).length, (p.flatMap LuteC.stopsOf).length, units p]) (fun (k : Nat) (ls : List LineI) => [(k : Int), ((momL ls).length : Int), (ls.length : Int) - ((momL ls).length : Int), ((momL ls).map fun (l : LineI) => (l.2.length : Int)).sum, (ls.map fun (l : LineI) => l.1).sum]) ?_) ?_)
  rotate_left
  · rfl
  intro k x hx _ _
  show [(k.num : Int), ((x.filter Line.isMoment).length : Int), ((x.filter fun (l : Line) => !l.isMoment).length : Int), ((x.flatMap LuteC.stopsOf).length : Int), (units x : Int)] = _
  rw [mom_map x hx, stops_sum, units_sum, List.length_map, List.length_map]
  have := bars_len x
  rw [show ((x.filter fun (l : Line) => !l.isMoment).length : Int) = (x.length : Int) - ((x.filter Line.isMoment).length : Int) by omega]
end Lu
set_option Elab.async false
set_option linter.all false
set_option maxRecDepth 100000
set_option maxHeartbeats 4000000
namespace Lu
open PySem PySem.Spec PyProof.Rows L2 LX
open PySem.W (Frag findIn specialIn instIn typeIn keepIn readsIn findCls isFn Codec)
theorem bn_Refusal_init {K : Frag} {f : Addr} {fd : FuncData} (F : Fun K "__init__" "Refusal.__init__" s_Refusal_init f fd) : Binds K fd ["self", "number"] [] := F.binds (ps := ["self", "number"]) fun _ _ _ _ _ _ us hl => match us, hl with | [_, _], _ => rfl
theorem bn_TooLong_init {K : Frag} {f : Addr} {fd : FuncData} (F : Fun K "__init__" "TooLong.__init__" s_TooLong_init f fd) : Binds K fd ["self"] [] := F.binds (ps := ["self"]) fun _ _ _ _ _ _ us hl => match us, hl with | [_], _ => rfl
theorem bn_NoPiece_init {K : Frag} {f : Addr} {fd : FuncData} (F : Fun K "__init__" "NoPiece.__init__" s_NoPiece_init f fd) : Binds K fd ["self", "place"] [] := F.binds (ps := ["self", "place"]) fun _ _ _ _ _ _ us hl => match us, hl with | [_, _], _ => rfl
theorem bn_Reader_init {K : Frag} {f : Addr} {fd : FuncData} (F : Fun K "__init__" "Reader.__init__" s_Reader_init f fd) : Binds K fd ["self", "t"] [] := F.binds (ps := ["self", "t"]) fun _ _ _ _ _ _ us hl => match us, hl with | [_, _], _ => rfl
theorem bn_Reader_peek {K : Frag} {f : Addr} {fd : FuncData} (F : Fun K "peek" "Reader.peek" s_Reader_peek f fd) : Binds K fd ["self"] [] := F.binds (ps := ["self"]) fun _ _ _ _ _ _ us hl => match us, hl with | [_], _ => rfl
theorem bn_Reader_take {K : Frag} {f : Addr} {fd : FuncData} (F : Fun K "take" "Reader.take" s_Reader_take f fd) : Binds K fd ["self", "byte"] [] := F.binds (ps := ["self", "byte"]) fun _ _ _ _ _ _ us hl => match us, hl with | [_, _], _ => rfl
theorem bn_Reader_take_sign {K : Frag} {f : Addr} {fd : FuncData} (F : Fun K "take_sign" "Reader.take_sign" s_Reader_take_sign f fd) : Binds K fd ["self", "table"] [] := F.binds (ps := ["self", "table"]) fun _ _ _ _ _ _ us hl => match us, hl with | [_, _], _ => rfl
theorem bn_SignTable_init {K : Frag} {f : Addr} {fd : FuncData} (F : Fun K "__init__" "SignTable.__init__" s_SignTable_init f fd) : Binds K fd ["self", "signs"] [] := F.binds (ps := ["self", "signs"]) fun _ _ _ _ _ _ us hl => match us, hl with | [_, _], _ => rfl
theorem bn_Form_init {K : Frag} {f : Addr} {fd : FuncData} (F : Fun K "__init__" "Form.__init__" s_Form_init f fd) : Binds K fd ["self", "kind"] [] := F.binds (ps := ["self", "kind"]) fun _ _ _ _ _ _ us hl => match us, hl with | [_, _], _ => rfl
theorem bn_Piece_init {K : Frag} {f : Addr} {fd : FuncData} (F : Fun K "__init__" "Piece.__init__" s_Piece_init f fd) : Binds K fd ["self", "kind", "lines"] [] := F.binds (ps := ["self", "kind", "lines"]) fun _ _ _ _ _ _ us hl => match us, hl with | [_, _, _], _ => rfl
theorem bn_german_sign {K : Frag} {f : Addr} {fd : FuncData} (F : Fun K "german_sign" "german_sign" s_german_sign f fd) : Binds K fd ["course", "fret"] [] := F.binds (ps := ["course", "fret"]) fun _ _ _ _ _ _ us hl => match us, hl with | [_, _], _ => rfl
theorem bn_row_signs {K : Frag} {f : Addr} {fd : FuncData} (F : Fun K "row_signs" "row_signs" s_row_signs f fd) : Binds K fd ["kind"] [] := F.binds (ps := ["kind"]) fun _ _ _ _ _ _ us hl => match us, hl with | [_], _ => rfl
theorem bn_stop_signs {K : Frag} {f : Addr} {fd : FuncData} (F : Fun K "stop_signs" "stop_signs" s_stop_signs f fd) : Binds K fd ["kind"] [] := F.binds (ps := ["kind"]) fun _ _ _ _ _ _ us hl => match us, hl with | [_], _ => rfl
theorem bn_has_moment {K : Frag} {f : Addr} {fd : FuncData} (F : Fun K "has_moment" "has_moment" s_has_moment f fd) : Binds K fd ["lines"] [] := F.binds (ps := ["lines"]) fun _ _ _ _ _ _ us hl => match us, hl with | [_], _ => rfl
theorem bn_read_length {K : Frag} {f : Addr} {fd : FuncData} (F : Fun K "read_length" "read_length" s_read_length f fd) : Binds K fd ["reader", "form", "before"] [] := F.binds (ps := ["reader", "form", "before"]) fun _ _ _ _ _ _ us hl => match us, hl with | [_, _, _], _ => rfl
theorem bn_read_row {K : Frag} {f : Addr} {fd : FuncData} (F : Fun K "read_row" "read_row" s_read_row f fd) : Binds K fd ["reader", "form"] [] := F.binds (ps := ["reader", "form"]) fun _ _ _ _ _ _ us hl => match us, hl with | [_, _], _ => rfl
theorem bn_read_single_signs {K : Frag} {f : Addr} {fd : FuncData} (F : Fun K "read_single_signs" "read_single_signs" s_read_single_signs f fd) : Binds K fd ["reader", "form", "above"] [] := F.binds (ps := ["reader", "form", "above"]) fun _ _ _ _ _ _ us hl => match us, hl with | [_, _, _], _ => rfl
theorem bn_read_stops {K : Frag} {f : Addr} {fd : FuncData} (F : Fun K "read_stops" "read_stops" s_read_stops f fd) : Binds K fd ["reader", "form"] [] := F.binds (ps := ["reader", "form"]) fun _ _ _ _ _ _ us hl => match us, hl with | [_, _], _ => rfl
theorem bn_read_line {K : Frag} {f : Addr} {fd : FuncData} (F : Fun K "read_line" "read_line" s_read_line f fd) : Binds K fd ["reader", "form", "before"] [] := F.binds (ps := ["reader", "form", "before"]) fun _ _ _ _ _ _ us hl => match us, hl with | [_, _, _], _ => rfl
theorem bn_read_lines {K : Frag} {f : Addr} {fd : FuncData} (F : Fun K "read_lines" "read_lines" s_read_lines f fd) : Binds K fd ["reader", "form"] [] := F.binds (ps := ["reader", "form"]) fun _ _ _ _ _ _ us hl => match us, hl with | [_, _], _ => rfl
theorem bn_read_piece {K : Frag} {f : Addr} {fd : FuncData} (F : Fun K "read_piece" "read_piece" s_read_piece f fd) : Binds K fd ["t"] [] := F.binds (ps := ["t"]) fun _ _ _ _ _ _ us hl => match us, hl with | [_], _ => rfl
theorem bn_check_size {K : Frag} {f : Addr} {fd : FuncData} (F : Fun K "check_size" "check_size" s_check_size f fd) : Binds K fd ["t"] [] := F.binds (ps := ["t"]) fun _ _ _ _ _ _ us hl => match us, hl with | [_], _ => rfl
theorem bn_read_text {K : Frag} {f : Addr} {fd : FuncData} (F : Fun K "read_text" "read_text" s_read_text f fd) : Binds K fd ["t"] [] := F.binds (ps := ["t"]) fun _ _ _ _ _ _ us hl => match us, hl with | [_], _ => rfl
theorem bn_sizes {K : Frag} {f : Addr} {fd : FuncData} (F : Fun K "sizes" "sizes" s_sizes f fd) : Binds K fd ["t"] [] := F.binds (ps := ["t"]) fun _ _ _ _ _ _ us hl => match us, hl with | [_], _ => rfl
theorem all_mk {P : Program} {w : World} {K : Frag} {h : Heap} {mg : Str → Option Value} {fa : Addr} {C_Refusal f_Refusal_init C_TooLong f_TooLong_init C_NoPiece f_NoPiece_init C_Reader f_Reader_init f_Reader_peek f_Reader_take f_Reader_take_sign C_SignTable f_SignTable_init C_Form f_Form_init C_Piece f_Piece_init v_KIND_WORDS v_KIND_WORDS_0 v_KIND_WORDS_1 v_KIND_WORDS_2 v_LENGTH_SIGNS v_LENGTH_SIGNS_0 v_LENGTH_SIGNS_1 v_LENGTH_SIGNS_2 v_LENGTH_SIGNS_3 v_LENGTH_SIGNS_4 v_LENGTH_SIGNS_5 v_LENGTH_SIGNS_6 v_LENGTH_SIGNS_7 v_LENGTH_SIGNS_8 v_LENGTH_SIGNS_9 v_LENGTH_SIGNS_10 v_LENGTH_SIGNS_11 v_LENGTH_SIGNS_12 v_FRET_LETTERS v_BASSES v_BASSES_0 v_BASSES_1 v_BASSES_2 v_ROW_COURSES v_ROW_COURSES_0 v_ROW_COURSES_1 v_ROW_COURSES_2 f_german_sign f_row_signs f_stop_signs f_has_moment f_read_length f_read_row f_read_single_signs f_read_stops f_read_line f_read_lines f_read_piece f_check_size f_read_text f_sizes : Addr} (X : K.In h) (G : h.Ns mainGlobals mg) (hfa : mg "sizes" = some (.ref fa))
    {nm_Refusal q_Refusal : Str} {N_Refusal : Addr} {bs_Refusal : List Value} {sn_Refusal : List Str} {sub_Refusal : List Value} {ab_Refusal : Bool} {col_Refusal : Option Bool} {dd_Refusal : Option Addr} {k0_Refusal k1_Refusal k2_Refusal k3_Refusal k5_Refusal : Option Value}
    {od_Refusal_init an_Refusal_init : Option Addr} {sl_Refusal_init : Array (Option Value)} {oc_Refusal_init kV_Refusal_init dc_Refusal_init pm_Refusal_init cd_Refusal_init ct_Refusal_init : Value}
    {nm_TooLong q_TooLong : Str} {N_TooLong : Addr} {bs_TooLong : List Value} {sn_TooLong : List Str} {sub_TooLong : List Value} {ab_TooLong : Bool} {col_TooLong : Option Bool} {dd_TooLong : Option Addr} {k0_TooLong k1_TooLong k2_TooLong k3_TooLong k5_TooLong : Option Value}
    {od_TooLong_init an_TooLong_init : Option Addr} {sl_TooLong_init : Array (Option Value)} {oc_TooLong_init kV_TooLong_init dc_TooLong_init pm_TooLong_init cd_TooLong_init ct_TooLong_init : Value}
    {nm_NoPiece q_NoPiece : Str} {N_NoPiece : Addr} {bs_NoPiece : List Value} {sn_NoPiece : List Str} {sub_NoPiece : List Value} {ab_NoPiece : Bool} {col_NoPiece : Option Bool} {dd_NoPiece : Option Addr} {k0_NoPiece k1_NoPiece k2_NoPiece k3_NoPiece k5_NoPiece : Option Value}
    {od_NoPiece_init an_NoPiece_init : Option Addr} {sl_NoPiece_init : Array (Option Value)} {oc_NoPiece_init kV_NoPiece_init dc_NoPiece_init pm_NoPiece_init cd_NoPiece_init ct_NoPiece_init : Value}
    {od_Reader_init an_Reader_init : Option Addr} {sl_Reader_init : Array (Option Value)} {oc_Reader_init kV_Reader_init dc_Reader_init pm_Reader_init cd_Reader_init ct_Reader_init : Value}
    {od_Reader_peek an_Reader_peek : Option Addr} {sl_Reader_peek : Array (Option Value)} {oc_Reader_peek kV_Reader_peek dc_Reader_peek pm_Reader_peek cd_Reader_peek ct_Reader_peek : Value}
    {od_Reader_take an_Reader_take : Option Addr} {sl_Reader_take : Array (Option Value)} {oc_Reader_take kV_Reader_take dc_Reader_take pm_Reader_take cd_Reader_take ct_Reader_take : Value}
    {od_Reader_take_sign an_Reader_take_sign : Option Addr} {sl_Reader_take_sign : Array (Option Value)} {oc_Reader_take_sign kV_Reader_take_sign dc_Reader_take_sign pm_Reader_take_sign cd_Reader_take_sign ct_Reader_take_sign : Value}
    {od_SignTable_init an_SignTable_init : Option Addr} {sl_SignTable_init : Array (Option Value)} {oc_SignTable_init kV_SignTable_init dc_SignTable_init pm_SignTable_init cd_SignTable_init ct_SignTable_init : Value}
    {od_Form_init an_Form_init : Option Addr} {sl_Form_init : Array (Option Value)} {oc_Form_init kV_Form_init dc_Form_init pm_Form_init cd_Form_init ct_Form_init : Value}
    {od_Piece_init an_Piece_init : Option Addr} {sl_Piece_init : Array (Option Value)} {oc_Piece_init kV_Piece_init dc_Piece_init pm_Piece_init cd_Piece_init ct_Piece_init : Value}
    {o_KIND_WORDS : Option Addr} {e_KIND_WORDS : List Value} {n_KIND_WORDS : Nat} {w_KIND_WORDS : Array (Option Value)}
    {o_KIND_WORDS_0 : Option Addr} {e_KIND_WORDS_0 : List Value} {n_KIND_WORDS_0 : Nat} {w_KIND_WORDS_0 : Array (Option Value)}
    {o_KIND_WORDS_1 : Option Addr} {e_KIND_WORDS_1 : List Value} {n_KIND_WORDS_1 : Nat} {w_KIND_WORDS_1 : Array (Option Value)}
    {o_KIND_WORDS_2 : Option Addr} {e_KIND_WORDS_2 : List Value} {n_KIND_WORDS_2 : Nat} {w_KIND_WORDS_2 : Array (Option Value)}
    {t_GERMAN : Tok}
    {o_LENGTH_SIGNS : Option Addr} {e_LENGTH_SIGNS : List Value} {n_LENGTH_SIGNS : Nat} {w_LENGTH_SIGNS : Array (Option Value)}
    {o_LENGTH_SIGNS_0 : Option Addr} {e_LENGTH_SIGNS_0 : List Value} {n_LENGTH_SIGNS_0 : Nat} {w_LENGTH_SIGNS_0 : Array (Option Value)}
    {o_LENGTH_SIGNS_1 : Option Addr} {e_LENGTH_SIGNS_1 : List Value} {n_LENGTH_SIGNS_1 : Nat} {w_LENGTH_SIGNS_1 : Array (Option Value)}
    {o_LENGTH_SIGNS_2 : Option Addr} {e_LENGTH_SIGNS_2 : List Value} {n_LENGTH_SIGNS_2 : Nat} {w_LENGTH_SIGNS_2 : Array (Option Value)}
    {o_LENGTH_SIGNS_3 : Option Addr} {e_LENGTH_SIGNS_3 : List Value} {n_LENGTH_SIGNS_3 : Nat} {w_LENGTH_SIGNS_3 : Array (Option Value)}
    {o_LENGTH_SIGNS_4 : Option Addr} {e_LENGTH_SIGNS_4 : List Value} {n_LENGTH_SIGNS_4 : Nat} {w_LENGTH_SIGNS_4 : Array (Option Value)}
    {o_LENGTH_SIGNS_5 : Option Addr} {e_LENGTH_SIGNS_5 : List Value} {n_LENGTH_SIGNS_5 : Nat} {w_LENGTH_SIGNS_5 : Array (Option Value)}
    {o_LENGTH_SIGNS_6 : Option Addr} {e_LENGTH_SIGNS_6 : List Value} {n_LENGTH_SIGNS_6 : Nat} {w_LENGTH_SIGNS_6 : Array (Option Value)}
    {o_LENGTH_SIGNS_7 : Option Addr} {e_LENGTH_SIGNS_7 : List Value} {n_LENGTH_SIGNS_7 : Nat} {w_LENGTH_SIGNS_7 : Array (Option Value)}
    {o_LENGTH_SIGNS_8 : Option Addr} {e_LENGTH_SIGNS_8 : List Value} {n_LENGTH_SIGNS_8 : Nat} {w_LENGTH_SIGNS_8 : Array (Option Value)}
    {o_LENGTH_SIGNS_9 : Option Addr} {e_LENGTH_SIGNS_9 : List Value} {n_LENGTH_SIGNS_9 : Nat} {w_LENGTH_SIGNS_9 : Array (Option Value)}
    {o_LENGTH_SIGNS_10 : Option Addr} {e_LENGTH_SIGNS_10 : List Value} {n_LENGTH_SIGNS_10 : Nat} {w_LENGTH_SIGNS_10 : Array (Option Value)}
    {o_LENGTH_SIGNS_11 : Option Addr} {e_LENGTH_SIGNS_11 : List Value} {n_LENGTH_SIGNS_11 : Nat} {w_LENGTH_SIGNS_11 : Array (Option Value)}
    {o_LENGTH_SIGNS_12 : Option Addr} {e_LENGTH_SIGNS_12 : List Value} {n_LENGTH_SIGNS_12 : Nat} {w_LENGTH_SIGNS_12 : Array (Option Value)}
    {t_FRETS : Tok}
    {o_FRET_LETTERS : Option Addr} {e_FRET_LETTERS : List Value} {n_FRET_LETTERS : Nat} {w_FRET_LETTERS : Array (Option Value)}
    {t_NO_STOP : Tok}
    {t_FIRST_BASS : Tok}
    {o_BASSES : Option Addr} {e_BASSES : List Value} {n_BASSES : Nat} {w_BASSES : Array (Option Value)}
    {o_BASSES_0 : Option Addr} {e_BASSES_0 : List Value} {n_BASSES_0 : Nat} {w_BASSES_0 : Array (Option Value)}
    {o_BASSES_1 : Option Addr} {e_BASSES_1 : List Value} {n_BASSES_1 : Nat} {w_BASSES_1 : Array (Option Value)}
    {o_BASSES_2 : Option Addr} {e_BASSES_2 : List Value} {n_BASSES_2 : Nat} {w_BASSES_2 : Array (Option Value)}
    {t_GERMAN_CROSSINGS : Tok}
    {t_GERMAN_SIXTH : Tok}
    {o_ROW_COURSES : Option Addr} {e_ROW_COURSES : List Value} {n_ROW_COURSES : Nat} {w_ROW_COURSES : Array (Option Value)}
    {o_ROW_COURSES_0 : Option Addr} {e_ROW_COURSES_0 : List Value} {n_ROW_COURSES_0 : Nat} {w_ROW_COURSES_0 : Array (Option Value)}
    {o_ROW_COURSES_1 : Option Addr} {e_ROW_COURSES_1 : List Value} {n_ROW_COURSES_1 : Nat} {w_ROW_COURSES_1 : Array (Option Value)}
    {o_ROW_COURSES_2 : Option Addr} {e_ROW_COURSES_2 : List Value} {n_ROW_COURSES_2 : Nat} {w_ROW_COURSES_2 : Array (Option Value)}
    {t_MOST_LINES : Tok}
    {t_ROW_END : Tok}
    {t_BLANK : Tok}
    {t_POINT : Tok}
    {t_STROKE : Tok}
    {t_NO_BYTE : Tok}
    {t_MOST_BYTES : Tok}
    {od_german_sign an_german_sign : Option Addr} {sl_german_sign : Array (Option Value)} {oc_german_sign kV_german_sign dc_german_sign pm_german_sign cd_german_sign ct_german_sign : Value}
    {od_row_signs an_row_signs : Option Addr} {sl_row_signs : Array (Option Value)} {oc_row_signs kV_row_signs dc_row_signs pm_row_signs cd_row_signs ct_row_signs : Value}
    {od_stop_signs an_stop_signs : Option Addr} {sl_stop_signs : Array (Option Value)} {oc_stop_signs kV_stop_signs dc_stop_signs pm_stop_signs cd_stop_signs ct_stop_signs : Value}
    {od_has_moment an_has_moment : Option Addr} {sl_has_moment : Array (Option Value)} {oc_has_moment kV_has_moment dc_has_moment pm_has_moment cd_has_moment ct_has_moment : Value}
    {od_read_length an_read_length : Option Addr} {sl_read_length : Array (Option Value)} {oc_read_length kV_read_length dc_read_length pm_read_length cd_read_length ct_read_length : Value}
    {od_read_row an_read_row : Option Addr} {sl_read_row : Array (Option Value)} {oc_read_row kV_read_row dc_read_row pm_read_row cd_read_row ct_read_row : Value}
    {od_read_single_signs an_read_single_signs : Option Addr} {sl_read_single_signs : Array (Option Value)} {oc_read_single_signs kV_read_single_signs dc_read_single_signs pm_read_single_signs cd_read_single_signs ct_read_single_signs : Value}
    {od_read_stops an_read_stops : Option Addr} {sl_read_stops : Array (Option Value)} {oc_read_stops kV_read_stops dc_read_stops pm_read_stops cd_read_stops ct_read_stops : Value}
    {od_read_line an_read_line : Option Addr} {sl_read_line : Array (Option Value)} {oc_read_line kV_read_line dc_read_line pm_read_line cd_read_line ct_read_line : Value}
    {od_read_lines an_read_lines : Option Addr} {sl_read_lines : Array (Option Value)} {oc_read_lines kV_read_lines dc_read_lines pm_read_lines cd_read_lines ct_read_lines : Value}
    {od_read_piece an_read_piece : Option Addr} {sl_read_piece : Array (Option Value)} {oc_read_piece kV_read_piece dc_read_piece pm_read_piece cd_read_piece ct_read_piece : Value}
    {od_check_size an_check_size : Option Addr} {sl_check_size : Array (Option Value)} {oc_check_size kV_check_size dc_check_size pm_check_size cd_check_size ct_check_size : Value}
    {od_read_text an_read_text : Option Addr} {sl_read_text : Array (Option Value)} {oc_read_text kV_read_text dc_read_text pm_read_text cd_read_text ct_read_text : Value}
    {od_sizes an_sizes : Option Addr} {sl_sizes : Array (Option Value)} {oc_sizes kV_sizes dc_sizes pm_sizes cd_sizes ct_sizes : Value}
    (n_Refusal : PySem.W.nsIn K mainGlobals "Refusal" = some (some (.ref C_Refusal)))
    (l_Refusal : List.lookup C_Refusal K = some (excClassObj nm_Refusal q_Refusal C_Refusal N_Refusal bs_Refusal (([] : List Addr).map Value.ref ++ tailX) true sn_Refusal sub_Refusal ab_Refusal col_Refusal dd_Refusal k0_Refusal k1_Refusal k2_Refusal k3_Refusal k5_Refusal "Exception.__new__"))
    (x1_Refusal : specialIn K (.ref C_Refusal) "__call__" = some (some (.builtin "type.__call__")))
    (x2_Refusal : instIn K (.ref C_Refusal) (.type "type") = some true)
    (x3_Refusal : findIn K (.ref C_Refusal) "__setattr__" = some (some (.builtin "object.__setattr__")))
    (x4_Refusal : findIn K (.ref C_Refusal) "__getattribute__" = some (some (.builtin "BaseException.__getattribute__")))
    (x6_Refusal : findIn K (.ref C_Refusal) "__getattr__" = some none)
    (x5_Refusal : keepIn K (.ref C_Refusal) = true)
    (a_Refusal_init : findIn K (.ref C_Refusal) "__init__" = some (some (.ref f_Refusal_init)))
    (i_Refusal_init : isFn K (.ref f_Refusal_init) = true)
    (l_Refusal_init : List.lookup f_Refusal_init K = some ⟨oc_Refusal_init, od_Refusal_init, .func (PySem.W.fnOf "__init__" "Refusal.__init__" (defArgs s_Refusal_init) (defBody s_Refusal_init) (defScope s_Refusal_init) .none kV_Refusal_init dc_Refusal_init pm_Refusal_init an_Refusal_init cd_Refusal_init ct_Refusal_init), sl_Refusal_init⟩)
    (c_Refusal_init : PySem.W.codeIn K cd_Refusal_init "Refusal.__init__" = true)
    (k_Refusal_init : keepIn K (.ref f_Refusal_init) = true)
    (y1_Refusal : specialIn K (.ref C_Refusal) "__getattribute__" = some (some (.builtin "type.__getattribute__")))
    (y2_Refusal : readsIn K C_Refusal (.type "type") = true)
    (y3_Refusal : findCls K (.ref C_Refusal) (.type "type") "__init__" = some (.val (.ref f_Refusal_init)))
    (n_TooLong : PySem.W.nsIn K mainGlobals "TooLong" = some (some (.ref C_TooLong)))
    (l_TooLong : List.lookup C_TooLong K = some (excClassObj nm_TooLong q_TooLong C_TooLong N_TooLong bs_TooLong (([C_Refusal] : List Addr).map Value.ref ++ tailX) true sn_TooLong sub_TooLong ab_TooLong col_TooLong dd_TooLong k0_TooLong k1_TooLong k2_TooLong k3_TooLong k5_TooLong "Exception.__new__"))
    (x1_TooLong : specialIn K (.ref C_TooLong) "__call__" = some (some (.builtin "type.__call__")))
    (x2_TooLong : instIn K (.ref C_TooLong) (.type "type") = some true)
    (x3_TooLong : findIn K (.ref C_TooLong) "__setattr__" = some (some (.builtin "object.__setattr__")))
    (x4_TooLong : findIn K (.ref C_TooLong) "__getattribute__" = some (some (.builtin "BaseException.__getattribute__")))
    (x6_TooLong : findIn K (.ref C_TooLong) "__getattr__" = some none)
    (x5_TooLong : keepIn K (.ref C_TooLong) = true)
    (x_number_TooLong : findIn K (.ref C_TooLong) "number" = some none)
    (x_place_TooLong : findIn K (.ref C_TooLong) "place" = some none)
    (a_TooLong_init : findIn K (.ref C_TooLong) "__init__" = some (some (.ref f_TooLong_init)))
    (i_TooLong_init : isFn K (.ref f_TooLong_init) = true)
    (l_TooLong_init : List.lookup f_TooLong_init K = some ⟨oc_TooLong_init, od_TooLong_init, .func (PySem.W.fnOf "__init__" "TooLong.__init__" (defArgs s_TooLong_init) (defBody s_TooLong_init) (defScope s_TooLong_init) .none kV_TooLong_init dc_TooLong_init pm_TooLong_init an_TooLong_init cd_TooLong_init ct_TooLong_init), sl_TooLong_init⟩)
    (c_TooLong_init : PySem.W.codeIn K cd_TooLong_init "TooLong.__init__" = true)
    (k_TooLong_init : keepIn K (.ref f_TooLong_init) = true)
    (n_NoPiece : PySem.W.nsIn K mainGlobals "NoPiece" = some (some (.ref C_NoPiece)))
    (l_NoPiece : List.lookup C_NoPiece K = some (excClassObj nm_NoPiece q_NoPiece C_NoPiece N_NoPiece bs_NoPiece (([C_Refusal] : List Addr).map Value.ref ++ tailX) true sn_NoPiece sub_NoPiece ab_NoPiece col_NoPiece dd_NoPiece k0_NoPiece k1_NoPiece k2_NoPiece k3_NoPiece k5_NoPiece "Exception.__new__"))
    (x1_NoPiece : specialIn K (.ref C_NoPiece) "__call__" = some (some (.builtin "type.__call__")))
    (x2_NoPiece : instIn K (.ref C_NoPiece) (.type "type") = some true)
    (x3_NoPiece : findIn K (.ref C_NoPiece) "__setattr__" = some (some (.builtin "object.__setattr__")))
    (x4_NoPiece : findIn K (.ref C_NoPiece) "__getattribute__" = some (some (.builtin "BaseException.__getattribute__")))
    (x6_NoPiece : findIn K (.ref C_NoPiece) "__getattr__" = some none)
    (x5_NoPiece : keepIn K (.ref C_NoPiece) = true)
    (x_number_NoPiece : findIn K (.ref C_NoPiece) "number" = some none)
    (x_place_NoPiece : findIn K (.ref C_NoPiece) "place" = some none)
    (a_NoPiece_init : findIn K (.ref C_NoPiece) "__init__" = some (some (.ref f_NoPiece_init)))
    (i_NoPiece_init : isFn K (.ref f_NoPiece_init) = true)
    (l_NoPiece_init : List.lookup f_NoPiece_init K = some ⟨oc_NoPiece_init, od_NoPiece_init, .func (PySem.W.fnOf "__init__" "NoPiece.__init__" (defArgs s_NoPiece_init) (defBody s_NoPiece_init) (defScope s_NoPiece_init) .none kV_NoPiece_init dc_NoPiece_init pm_NoPiece_init an_NoPiece_init cd_NoPiece_init ct_NoPiece_init), sl_NoPiece_init⟩)
    (c_NoPiece_init : PySem.W.codeIn K cd_NoPiece_init "NoPiece.__init__" = true)
    (k_NoPiece_init : keepIn K (.ref f_NoPiece_init) = true)
    (n_Reader : PySem.W.nsIn K mainGlobals "Reader" = some (some (.ref C_Reader)))
    (z1_Reader : PySem.W.plainGet K C_Reader Str.empty = true)
    (z2_Reader : PySem.W.hasDictIn K C_Reader = true)
    (z3_Reader : PySem.W.plainOver K C_Reader = true)
    (z4_Reader : findIn K (.ref C_Reader) "__setattr__" = some (some (.builtin "object.__setattr__")))
    (z5_Reader : PySem.W.makesIn K C_Reader = true)
    (z6_Reader : keepIn K (.ref C_Reader) = true)
    (z_t_Reader : findIn K (.ref C_Reader) "t" = some none)
    (z_place_Reader : findIn K (.ref C_Reader) "place" = some none)
    (a_Reader_init : findIn K (.ref C_Reader) "__init__" = some (some (.ref f_Reader_init)))
    (i_Reader_init : isFn K (.ref f_Reader_init) = true)
    (l_Reader_init : List.lookup f_Reader_init K = some ⟨oc_Reader_init, od_Reader_init, .func (PySem.W.fnOf "__init__" "Reader.__init__" (defArgs s_Reader_init) (defBody s_Reader_init) (defScope s_Reader_init) .none kV_Reader_init dc_Reader_init pm_Reader_init an_Reader_init cd_Reader_init ct_Reader_init), sl_Reader_init⟩)
    (c_Reader_init : PySem.W.codeIn K cd_Reader_init "Reader.__init__" = true)
    (k_Reader_init : keepIn K (.ref f_Reader_init) = true)
    (a_Reader_peek : findIn K (.ref C_Reader) "peek" = some (some (.ref f_Reader_peek)))
    (i_Reader_peek : isFn K (.ref f_Reader_peek) = true)
    (l_Reader_peek : List.lookup f_Reader_peek K = some ⟨oc_Reader_peek, od_Reader_peek, .func (PySem.W.fnOf "peek" "Reader.peek" (defArgs s_Reader_peek) (defBody s_Reader_peek) (defScope s_Reader_peek) .none kV_Reader_peek dc_Reader_peek pm_Reader_peek an_Reader_peek cd_Reader_peek ct_Reader_peek), sl_Reader_peek⟩)
    (c_Reader_peek : PySem.W.codeIn K cd_Reader_peek "Reader.peek" = true)
    (k_Reader_peek : keepIn K (.ref f_Reader_peek) = true)
    (a_Reader_take : findIn K (.ref C_Reader) "take" = some (some (.ref f_Reader_take)))
    (i_Reader_take : isFn K (.ref f_Reader_take) = true)
    (l_Reader_take : List.lookup f_Reader_take K = some ⟨oc_Reader_take, od_Reader_take, .func (PySem.W.fnOf "take" "Reader.take" (defArgs s_Reader_take) (defBody s_Reader_take) (defScope s_Reader_take) .none kV_Reader_take dc_Reader_take pm_Reader_take an_Reader_take cd_Reader_take ct_Reader_take), sl_Reader_take⟩)
    (c_Reader_take : PySem.W.codeIn K cd_Reader_take "Reader.take" = true)
    (k_Reader_take : keepIn K (.ref f_Reader_take) = true)
    (a_Reader_take_sign : findIn K (.ref C_Reader) "take_sign" = some (some (.ref f_Reader_take_sign)))
    (i_Reader_take_sign : isFn K (.ref f_Reader_take_sign) = true)
    (l_Reader_take_sign : List.lookup f_Reader_take_sign K = some ⟨oc_Reader_take_sign, od_Reader_take_sign, .func (PySem.W.fnOf "take_sign" "Reader.take_sign" (defArgs s_Reader_take_sign) (defBody s_Reader_take_sign) (defScope s_Reader_take_sign) .none kV_Reader_take_sign dc_Reader_take_sign pm_Reader_take_sign an_Reader_take_sign cd_Reader_take_sign ct_Reader_take_sign), sl_Reader_take_sign⟩)
    (c_Reader_take_sign : PySem.W.codeIn K cd_Reader_take_sign "Reader.take_sign" = true)
    (k_Reader_take_sign : keepIn K (.ref f_Reader_take_sign) = true)
    (n_SignTable : PySem.W.nsIn K mainGlobals "SignTable" = some (some (.ref C_SignTable)))
    (z1_SignTable : PySem.W.plainGet K C_SignTable Str.empty = true)
    (z2_SignTable : PySem.W.hasDictIn K C_SignTable = true)
    (z3_SignTable : PySem.W.plainOver K C_SignTable = true)
    (z4_SignTable : findIn K (.ref C_SignTable) "__setattr__" = some (some (.builtin "object.__setattr__")))
    (z5_SignTable : PySem.W.makesIn K C_SignTable = true)
    (z6_SignTable : keepIn K (.ref C_SignTable) = true)
    (z_beginnings_SignTable : findIn K (.ref C_SignTable) "beginnings" = some none)
    (z_meanings_SignTable : findIn K (.ref C_SignTable) "meanings" = some none)
    (a_SignTable_init : findIn K (.ref C_SignTable) "__init__" = some (some (.ref f_SignTable_init)))
    (i_SignTable_init : isFn K (.ref f_SignTable_init) = true)
    (l_SignTable_init : List.lookup f_SignTable_init K = some ⟨oc_SignTable_init, od_SignTable_init, .func (PySem.W.fnOf "__init__" "SignTable.__init__" (defArgs s_SignTable_init) (defBody s_SignTable_init) (defScope s_SignTable_init) .none kV_SignTable_init dc_SignTable_init pm_SignTable_init an_SignTable_init cd_SignTable_init ct_SignTable_init), sl_SignTable_init⟩)
    (c_SignTable_init : PySem.W.codeIn K cd_SignTable_init "SignTable.__init__" = true)
    (k_SignTable_init : keepIn K (.ref f_SignTable_init) = true)
    (n_Form : PySem.W.nsIn K mainGlobals "Form" = some (some (.ref C_Form)))
    (z1_Form : PySem.W.plainGet K C_Form Str.empty = true)
    (z2_Form : PySem.W.hasDictIn K C_Form = true)
    (z3_Form : PySem.W.plainOver K C_Form = true)
    (z4_Form : findIn K (.ref C_Form) "__setattr__" = some (some (.builtin "object.__setattr__")))
    (z5_Form : PySem.W.makesIn K C_Form = true)
    (z6_Form : keepIn K (.ref C_Form) = true)
    (z_kind_Form : findIn K (.ref C_Form) "kind" = some none)
    (z_lengths_Form : findIn K (.ref C_Form) "lengths" = some none)
    (z_frets_Form : findIn K (.ref C_Form) "frets" = some none)
    (z_stops_Form : findIn K (.ref C_Form) "stops" = some none)
    (a_Form_init : findIn K (.ref C_Form) "__init__" = some (some (.ref f_Form_init)))
    (i_Form_init : isFn K (.ref f_Form_init) = true)
    (l_Form_init : List.lookup f_Form_init K = some ⟨oc_Form_init, od_Form_init, .func (PySem.W.fnOf "__init__" "Form.__init__" (defArgs s_Form_init) (defBody s_Form_init) (defScope s_Form_init) .none kV_Form_init dc_Form_init pm_Form_init an_Form_init cd_Form_init ct_Form_init), sl_Form_init⟩)
    (c_Form_init : PySem.W.codeIn K cd_Form_init "Form.__init__" = true)
    (k_Form_init : keepIn K (.ref f_Form_init) = true)
    (n_Piece : PySem.W.nsIn K mainGlobals "Piece" = some (some (.ref C_Piece)))
    (z1_Piece : PySem.W.plainGet K C_Piece Str.empty = true)
    (z2_Piece : PySem.W.hasDictIn K C_Piece = true)
    (z3_Piece : PySem.W.plainOver K C_Piece = true)
    (z4_Piece : findIn K (.ref C_Piece) "__setattr__" = some (some (.builtin "object.__setattr__")))
    (z5_Piece : PySem.W.makesIn K C_Piece = true)
    (z6_Piece : keepIn K (.ref C_Piece) = true)
    (z_kind_Piece : findIn K (.ref C_Piece) "kind" = some none)
    (z_lines_Piece : findIn K (.ref C_Piece) "lines" = some none)
    (a_Piece_init : findIn K (.ref C_Piece) "__init__" = some (some (.ref f_Piece_init)))
    (i_Piece_init : isFn K (.ref f_Piece_init) = true)
    (l_Piece_init : List.lookup f_Piece_init K = some ⟨oc_Piece_init, od_Piece_init, .func (PySem.W.fnOf "__init__" "Piece.__init__" (defArgs s_Piece_init) (defBody s_Piece_init) (defScope s_Piece_init) .none kV_Piece_init dc_Piece_init pm_Piece_init an_Piece_init cd_Piece_init ct_Piece_init), sl_Piece_init⟩)
    (c_Piece_init : PySem.W.codeIn K cd_Piece_init "Piece.__init__" = true)
    (k_Piece_init : keepIn K (.ref f_Piece_init) = true)
    (g_KIND_WORDS : PySem.W.nsIn K mainGlobals "KIND_WORDS" = some (some (.ref v_KIND_WORDS)))
    (tl_KIND_WORDS : List.lookup v_KIND_WORDS K = some ⟨.type "tuple", o_KIND_WORDS, .seq e_KIND_WORDS.toArray n_KIND_WORDS, w_KIND_WORDS⟩)
    (tv_KIND_WORDS : e_KIND_WORDS.mapM absV = some [V.ref v_KIND_WORDS_0, V.ref v_KIND_WORDS_1, V.ref v_KIND_WORDS_2])
    (tz_KIND_WORDS : e_KIND_WORDS.length ≤ 1000)
    (tl_KIND_WORDS_0 : List.lookup v_KIND_WORDS_0 K = some ⟨.type "tuple", o_KIND_WORDS_0, .seq e_KIND_WORDS_0.toArray n_KIND_WORDS_0, w_KIND_WORDS_0⟩)
    (tv_KIND_WORDS_0 : e_KIND_WORDS_0.mapM absV = some [V.str (Str.ofString "french"), V.int 0])
    (tz_KIND_WORDS_0 : e_KIND_WORDS_0.length ≤ 1000)
    (tl_KIND_WORDS_1 : List.lookup v_KIND_WORDS_1 K = some ⟨.type "tuple", o_KIND_WORDS_1, .seq e_KIND_WORDS_1.toArray n_KIND_WORDS_1, w_KIND_WORDS_1⟩)
    (tv_KIND_WORDS_1 : e_KIND_WORDS_1.mapM absV = some [V.str (Str.ofString "italian"), V.int 1])
    (tz_KIND_WORDS_1 : e_KIND_WORDS_1.length ≤ 1000)
    (tl_KIND_WORDS_2 : List.lookup v_KIND_WORDS_2 K = some ⟨.type "tuple", o_KIND_WORDS_2, .seq e_KIND_WORDS_2.toArray n_KIND_WORDS_2, w_KIND_WORDS_2⟩)
    (tv_KIND_WORDS_2 : e_KIND_WORDS_2.mapM absV = some [V.str (Str.ofString "german"), V.int 2])
    (tz_KIND_WORDS_2 : e_KIND_WORDS_2.length ≤ 1000)
    (g_GERMAN : PySem.W.nsIn K mainGlobals "GERMAN" = some (some (.int 2 t_GERMAN)))
    (g_LENGTH_SIGNS : PySem.W.nsIn K mainGlobals "LENGTH_SIGNS" = some (some (.ref v_LENGTH_SIGNS)))
    (tl_LENGTH_SIGNS : List.lookup v_LENGTH_SIGNS K = some ⟨.type "tuple", o_LENGTH_SIGNS, .seq e_LENGTH_SIGNS.toArray n_LENGTH_SIGNS, w_LENGTH_SIGNS⟩)
    (tv_LENGTH_SIGNS : e_LENGTH_SIGNS.mapM absV = some [V.ref v_LENGTH_SIGNS_0, V.ref v_LENGTH_SIGNS_1, V.ref v_LENGTH_SIGNS_2, V.ref v_LENGTH_SIGNS_3, V.ref v_LENGTH_SIGNS_4, V.ref v_LENGTH_SIGNS_5, V.ref v_LENGTH_SIGNS_6, V.ref v_LENGTH_SIGNS_7, V.ref v_LENGTH_SIGNS_8, V.ref v_LENGTH_SIGNS_9, V.ref v_LENGTH_SIGNS_10, V.ref v_LENGTH_SIGNS_11, V.ref v_LENGTH_SIGNS_12])
    (tz_LENGTH_SIGNS : e_LENGTH_SIGNS.length ≤ 1000)
    (tl_LENGTH_SIGNS_0 : List.lookup v_LENGTH_SIGNS_0 K = some ⟨.type "tuple", o_LENGTH_SIGNS_0, .seq e_LENGTH_SIGNS_0.toArray n_LENGTH_SIGNS_0, w_LENGTH_SIGNS_0⟩)
    (tv_LENGTH_SIGNS_0 : e_LENGTH_SIGNS_0.mapM absV = some [V.str (Str.ofString "x"), V.int 1])
    (tz_LENGTH_SIGNS_0 : e_LENGTH_SIGNS_0.length ≤ 1000)
    (tl_LENGTH_SIGNS_1 : List.lookup v_LENGTH_SIGNS_1 K = some ⟨.type "tuple", o_LENGTH_SIGNS_1, .seq e_LENGTH_SIGNS_1.toArray n_LENGTH_SIGNS_1, w_LENGTH_SIGNS_1⟩)
    (tv_LENGTH_SIGNS_1 : e_LENGTH_SIGNS_1.mapM absV = some [V.str (Str.ofString "t"), V.int 2])
    (tz_LENGTH_SIGNS_1 : e_LENGTH_SIGNS_1.length ≤ 1000)
    (tl_LENGTH_SIGNS_2 : List.lookup v_LENGTH_SIGNS_2 K = some ⟨.type "tuple", o_LENGTH_SIGNS_2, .seq e_LENGTH_SIGNS_2.toArray n_LENGTH_SIGNS_2, w_LENGTH_SIGNS_2⟩)
    (tv_LENGTH_SIGNS_2 : e_LENGTH_SIGNS_2.mapM absV = some [V.str (Str.ofString "t."), V.int 3])
    (tz_LENGTH_SIGNS_2 : e_LENGTH_SIGNS_2.length ≤ 1000)
    (tl_LENGTH_SIGNS_3 : List.lookup v_LENGTH_SIGNS_3 K = some ⟨.type "tuple", o_LENGTH_SIGNS_3, .seq e_LENGTH_SIGNS_3.toArray n_LENGTH_SIGNS_3, w_LENGTH_SIGNS_3⟩)
    (tv_LENGTH_SIGNS_3 : e_LENGTH_SIGNS_3.mapM absV = some [V.str (Str.ofString "s"), V.int 4])
    (tz_LENGTH_SIGNS_3 : e_LENGTH_SIGNS_3.length ≤ 1000)
    (tl_LENGTH_SIGNS_4 : List.lookup v_LENGTH_SIGNS_4 K = some ⟨.type "tuple", o_LENGTH_SIGNS_4, .seq e_LENGTH_SIGNS_4.toArray n_LENGTH_SIGNS_4, w_LENGTH_SIGNS_4⟩)
    (tv_LENGTH_SIGNS_4 : e_LENGTH_SIGNS_4.mapM absV = some [V.str (Str.ofString "s."), V.int 6])
    (tz_LENGTH_SIGNS_4 : e_LENGTH_SIGNS_4.length ≤ 1000)
    (tl_LENGTH_SIGNS_5 : List.lookup v_LENGTH_SIGNS_5 K = some ⟨.type "tuple", o_LENGTH_SIGNS_5, .seq e_LENGTH_SIGNS_5.toArray n_LENGTH_SIGNS_5, w_LENGTH_SIGNS_5⟩)
    (tv_LENGTH_SIGNS_5 : e_LENGTH_SIGNS_5.mapM absV = some [V.str (Str.ofString "e"), V.int 8])
    (tz_LENGTH_SIGNS_5 : e_LENGTH_SIGNS_5.length ≤ 1000)
    (tl_LENGTH_SIGNS_6 : List.lookup v_LENGTH_SIGNS_6 K = some ⟨.type "tuple", o_LENGTH_SIGNS_6, .seq e_LENGTH_SIGNS_6.toArray n_LENGTH_SIGNS_6, w_LENGTH_SIGNS_6⟩)
    (tv_LENGTH_SIGNS_6 : e_LENGTH_SIGNS_6.mapM absV = some [V.str (Str.ofString "e."), V.int 12])
    (tz_LENGTH_SIGNS_6 : e_LENGTH_SIGNS_6.length ≤ 1000)
    (tl_LENGTH_SIGNS_7 : List.lookup v_LENGTH_SIGNS_7 K = some ⟨.type "tuple", o_LENGTH_SIGNS_7, .seq e_LENGTH_SIGNS_7.toArray n_LENGTH_SIGNS_7, w_LENGTH_SIGNS_7⟩)
    (tv_LENGTH_SIGNS_7 : e_LENGTH_SIGNS_7.mapM absV = some [V.str (Str.ofString "q"), V.int 16])
    (tz_LENGTH_SIGNS_7 : e_LENGTH_SIGNS_7.length ≤ 1000)
    (tl_LENGTH_SIGNS_8 : List.lookup v_LENGTH_SIGNS_8 K = some ⟨.type "tuple", o_LENGTH_SIGNS_8, .seq e_LENGTH_SIGNS_8.toArray n_LENGTH_SIGNS_8, w_LENGTH_SIGNS_8⟩)
    (tv_LENGTH_SIGNS_8 : e_LENGTH_SIGNS_8.mapM absV = some [V.str (Str.ofString "q."), V.int 24])
    (tz_LENGTH_SIGNS_8 : e_LENGTH_SIGNS_8.length ≤ 1000)
    (tl_LENGTH_SIGNS_9 : List.lookup v_LENGTH_SIGNS_9 K = some ⟨.type "tuple", o_LENGTH_SIGNS_9, .seq e_LENGTH_SIGNS_9.toArray n_LENGTH_SIGNS_9, w_LENGTH_SIGNS_9⟩)
    (tv_LENGTH_SIGNS_9 : e_LENGTH_SIGNS_9.mapM absV = some [V.str (Str.ofString "h"), V.int 32])
    (tz_LENGTH_SIGNS_9 : e_LENGTH_SIGNS_9.length ≤ 1000)
    (tl_LENGTH_SIGNS_10 : List.lookup v_LENGTH_SIGNS_10 K = some ⟨.type "tuple", o_LENGTH_SIGNS_10, .seq e_LENGTH_SIGNS_10.toArray n_LENGTH_SIGNS_10, w_LENGTH_SIGNS_10⟩)
    (tv_LENGTH_SIGNS_10 : e_LENGTH_SIGNS_10.mapM absV = some [V.str (Str.ofString "h."), V.int 48])
    (tz_LENGTH_SIGNS_10 : e_LENGTH_SIGNS_10.length ≤ 1000)
    (tl_LENGTH_SIGNS_11 : List.lookup v_LENGTH_SIGNS_11 K = some ⟨.type "tuple", o_LENGTH_SIGNS_11, .seq e_LENGTH_SIGNS_11.toArray n_LENGTH_SIGNS_11, w_LENGTH_SIGNS_11⟩)
    (tv_LENGTH_SIGNS_11 : e_LENGTH_SIGNS_11.mapM absV = some [V.str (Str.ofString "w"), V.int 64])
    (tz_LENGTH_SIGNS_11 : e_LENGTH_SIGNS_11.length ≤ 1000)
    (tl_LENGTH_SIGNS_12 : List.lookup v_LENGTH_SIGNS_12 K = some ⟨.type "tuple", o_LENGTH_SIGNS_12, .seq e_LENGTH_SIGNS_12.toArray n_LENGTH_SIGNS_12, w_LENGTH_SIGNS_12⟩)
    (tv_LENGTH_SIGNS_12 : e_LENGTH_SIGNS_12.mapM absV = some [V.str (Str.ofString "w."), V.int 96])
    (tz_LENGTH_SIGNS_12 : e_LENGTH_SIGNS_12.length ≤ 1000)
    (g_FRETS : PySem.W.nsIn K mainGlobals "FRETS" = some (some (.int 16 t_FRETS)))
    (g_FRET_LETTERS : PySem.W.nsIn K mainGlobals "FRET_LETTERS" = some (some (.ref v_FRET_LETTERS)))
    (tl_FRET_LETTERS : List.lookup v_FRET_LETTERS K = some ⟨.type "tuple", o_FRET_LETTERS, .seq e_FRET_LETTERS.toArray n_FRET_LETTERS, w_FRET_LETTERS⟩)
    (tv_FRET_LETTERS : e_FRET_LETTERS.mapM absV = some [V.str (Str.ofString "abcdefghiklmnopq"), V.str (Str.ofString "0123456789xyzvuw")])
    (tz_FRET_LETTERS : e_FRET_LETTERS.length ≤ 1000)
    (g_NO_STOP : PySem.W.nsIn K mainGlobals "NO_STOP" = some (some (.str (Str.ofString ".") t_NO_STOP)))
    (g_FIRST_BASS : PySem.W.nsIn K mainGlobals "FIRST_BASS" = some (some (.int 7 t_FIRST_BASS)))
    (g_BASSES : PySem.W.nsIn K mainGlobals "BASSES" = some (some (.ref v_BASSES)))
    (tl_BASSES : List.lookup v_BASSES K = some ⟨.type "tuple", o_BASSES, .seq e_BASSES.toArray n_BASSES, w_BASSES⟩)
    (tv_BASSES : e_BASSES.mapM absV = some [V.ref v_BASSES_0, V.ref v_BASSES_1, V.ref v_BASSES_2])
    (tz_BASSES : e_BASSES.length ≤ 1000)
    (tl_BASSES_0 : List.lookup v_BASSES_0 K = some ⟨.type "tuple", o_BASSES_0, .seq e_BASSES_0.toArray n_BASSES_0, w_BASSES_0⟩)
    (tv_BASSES_0 : e_BASSES_0.mapM absV = some [V.str (Str.ofString "a"), V.str (Str.ofString "/a"), V.str (Str.ofString "//a"), V.str (Str.ofString "///a"), V.str (Str.ofString "4"), V.str (Str.ofString "5"), V.str (Str.ofString "6"), V.str (Str.ofString "7")])
    (tz_BASSES_0 : e_BASSES_0.length ≤ 1000)
    (tl_BASSES_1 : List.lookup v_BASSES_1 K = some ⟨.type "tuple", o_BASSES_1, .seq e_BASSES_1.toArray n_BASSES_1, w_BASSES_1⟩)
    (tv_BASSES_1 : e_BASSES_1.mapM absV = some [V.str (Str.ofString "7"), V.str (Str.ofString "8"), V.str (Str.ofString "9"), V.str (Str.ofString "10"), V.str (Str.ofString "11"), V.str (Str.ofString "12"), V.str (Str.ofString "13"), V.str (Str.ofString "14")])
    (tz_BASSES_1 : e_BASSES_1.length ≤ 1000)
    (tl_BASSES_2 : List.lookup v_BASSES_2 K = some ⟨.type "tuple", o_BASSES_2, .seq e_BASSES_2.toArray n_BASSES_2, w_BASSES_2⟩)
    (tv_BASSES_2 : e_BASSES_2.mapM absV = some [V.str (Str.ofString "-7"), V.str (Str.ofString "-8"), V.str (Str.ofString "-9"), V.str (Str.ofString "-10"), V.str (Str.ofString "-11"), V.str (Str.ofString "-12"), V.str (Str.ofString "-13"), V.str (Str.ofString "-14")])
    (tz_BASSES_2 : e_BASSES_2.length ≤ 1000)
    (g_GERMAN_CROSSINGS : PySem.W.nsIn K mainGlobals "GERMAN_CROSSINGS" = some (some (.str (Str.ofString "abcdefghiklmnopqrstvxyz&9") t_GERMAN_CROSSINGS)))
    (g_GERMAN_SIXTH : PySem.W.nsIn K mainGlobals "GERMAN_SIXTH" = some (some (.str (Str.ofString "+ABCDEFGHIKLMNOP") t_GERMAN_SIXTH)))
    (g_ROW_COURSES : PySem.W.nsIn K mainGlobals "ROW_COURSES" = some (some (.ref v_ROW_COURSES)))
    (tl_ROW_COURSES : List.lookup v_ROW_COURSES K = some ⟨.type "tuple", o_ROW_COURSES, .seq e_ROW_COURSES.toArray n_ROW_COURSES, w_ROW_COURSES⟩)
    (tv_ROW_COURSES : e_ROW_COURSES.mapM absV = some [V.ref v_ROW_COURSES_0, V.ref v_ROW_COURSES_1, V.ref v_ROW_COURSES_2])
    (tz_ROW_COURSES : e_ROW_COURSES.length ≤ 1000)
    (tl_ROW_COURSES_0 : List.lookup v_ROW_COURSES_0 K = some ⟨.type "tuple", o_ROW_COURSES_0, .seq e_ROW_COURSES_0.toArray n_ROW_COURSES_0, w_ROW_COURSES_0⟩)
    (tv_ROW_COURSES_0 : e_ROW_COURSES_0.mapM absV = some [V.int 1, V.int 2, V.int 3, V.int 4, V.int 5, V.int 6])
    (tz_ROW_COURSES_0 : e_ROW_COURSES_0.length ≤ 1000)
    (tl_ROW_COURSES_1 : List.lookup v_ROW_COURSES_1 K = some ⟨.type "tuple", o_ROW_COURSES_1, .seq e_ROW_COURSES_1.toArray n_ROW_COURSES_1, w_ROW_COURSES_1⟩)
    (tv_ROW_COURSES_1 : e_ROW_COURSES_1.mapM absV = some [V.int 6, V.int 5, V.int 4, V.int 3, V.int 2, V.int 1])
    (tz_ROW_COURSES_1 : e_ROW_COURSES_1.length ≤ 1000)
    (tl_ROW_COURSES_2 : List.lookup v_ROW_COURSES_2 K = some ⟨.type "tuple", o_ROW_COURSES_2, .seq e_ROW_COURSES_2.toArray n_ROW_COURSES_2, w_ROW_COURSES_2⟩)
    (tv_ROW_COURSES_2 : e_ROW_COURSES_2.mapM absV = some [])
    (tz_ROW_COURSES_2 : e_ROW_COURSES_2.length ≤ 1000)
    (g_MOST_LINES : PySem.W.nsIn K mainGlobals "MOST_LINES" = some (some (.int 512 t_MOST_LINES)))
    (g_ROW_END : PySem.W.nsIn K mainGlobals "ROW_END" = some (some (.int 10 t_ROW_END)))
    (g_BLANK : PySem.W.nsIn K mainGlobals "BLANK" = some (some (.int 32 t_BLANK)))
    (g_POINT : PySem.W.nsIn K mainGlobals "POINT" = some (some (.int 46 t_POINT)))
    (g_STROKE : PySem.W.nsIn K mainGlobals "STROKE" = some (some (.int 124 t_STROKE)))
    (g_NO_BYTE : PySem.W.nsIn K mainGlobals "NO_BYTE" = some (some (.int 256 t_NO_BYTE)))
    (g_MOST_BYTES : PySem.W.nsIn K mainGlobals "MOST_BYTES" = some (some (.int 65536 t_MOST_BYTES)))
    (nb_len : PySem.W.nsIn K mainGlobals "len" = some none)
    (nb_any : PySem.W.nsIn K mainGlobals "any" = some none)
    (nb_sorted : PySem.W.nsIn K mainGlobals "sorted" = some none)
    (nb_list : PySem.W.nsIn K mainGlobals "list" = some none)
    (nb_tuple : PySem.W.nsIn K mainGlobals "tuple" = some none)
    (nb_range : PySem.W.nsIn K mainGlobals "range" = some none)
    (nb_ord : PySem.W.nsIn K mainGlobals "ord" = some none)
    (nb_str : PySem.W.nsIn K mainGlobals "str" = some none)
    (nb_enumerate : PySem.W.nsIn K mainGlobals "enumerate" = some none)
    (nb_sum : PySem.W.nsIn K mainGlobals "sum" = some none)
    (a_german_sign : PySem.W.nsIn K mainGlobals "german_sign" = some (some (.ref f_german_sign)))
    (l_german_sign : List.lookup f_german_sign K = some ⟨oc_german_sign, od_german_sign, .func (PySem.W.fnOf "german_sign" "german_sign" (defArgs s_german_sign) (defBody s_german_sign) (defScope s_german_sign) .none kV_german_sign dc_german_sign pm_german_sign an_german_sign cd_german_sign ct_german_sign), sl_german_sign⟩)
    (c_german_sign : PySem.W.codeIn K cd_german_sign "german_sign" = true)
    (k_german_sign : keepIn K (.ref f_german_sign) = true)
    (a_row_signs : PySem.W.nsIn K mainGlobals "row_signs" = some (some (.ref f_row_signs)))
    (l_row_signs : List.lookup f_row_signs K = some ⟨oc_row_signs, od_row_signs, .func (PySem.W.fnOf "row_signs" "row_signs" (defArgs s_row_signs) (defBody s_row_signs) (defScope s_row_signs) .none kV_row_signs dc_row_signs pm_row_signs an_row_signs cd_row_signs ct_row_signs), sl_row_signs⟩)
    (c_row_signs : PySem.W.codeIn K cd_row_signs "row_signs" = true)
    (k_row_signs : keepIn K (.ref f_row_signs) = true)
    (a_stop_signs : PySem.W.nsIn K mainGlobals "stop_signs" = some (some (.ref f_stop_signs)))
    (l_stop_signs : List.lookup f_stop_signs K = some ⟨oc_stop_signs, od_stop_signs, .func (PySem.W.fnOf "stop_signs" "stop_signs" (defArgs s_stop_signs) (defBody s_stop_signs) (defScope s_stop_signs) .none kV_stop_signs dc_stop_signs pm_stop_signs an_stop_signs cd_stop_signs ct_stop_signs), sl_stop_signs⟩)
    (c_stop_signs : PySem.W.codeIn K cd_stop_signs "stop_signs" = true)
    (k_stop_signs : keepIn K (.ref f_stop_signs) = true)
    (a_has_moment : PySem.W.nsIn K mainGlobals "has_moment" = some (some (.ref f_has_moment)))
    (l_has_moment : List.lookup f_has_moment K = some ⟨oc_has_moment, od_has_moment, .func (PySem.W.fnOf "has_moment" "has_moment" (defArgs s_has_moment) (defBody s_has_moment) (defScope s_has_moment) .none kV_has_moment dc_has_moment pm_has_moment an_has_moment cd_has_moment ct_has_moment), sl_has_moment⟩)
    (c_has_moment : PySem.W.codeIn K cd_has_moment "has_moment" = true)
    (k_has_moment : keepIn K (.ref f_has_moment) = true)
    (a_read_length : PySem.W.nsIn K mainGlobals "read_length" = some (some (.ref f_read_length)))
    (l_read_length : List.lookup f_read_length K = some ⟨oc_read_length, od_read_length, .func (PySem.W.fnOf "read_length" "read_length" (defArgs s_read_length) (defBody s_read_length) (defScope s_read_length) .none kV_read_length dc_read_length pm_read_length an_read_length cd_read_length ct_read_length), sl_read_length⟩)
    (c_read_length : PySem.W.codeIn K cd_read_length "read_length" = true)
    (k_read_length : keepIn K (.ref f_read_length) = true)
    (a_read_row : PySem.W.nsIn K mainGlobals "read_row" = some (some (.ref f_read_row)))
    (l_read_row : List.lookup f_read_row K = some ⟨oc_read_row, od_read_row, .func (PySem.W.fnOf "read_row" "read_row" (defArgs s_read_row) (defBody s_read_row) (defScope s_read_row) .none kV_read_row dc_read_row pm_read_row an_read_row cd_read_row ct_read_row), sl_read_row⟩)
    (c_read_row : PySem.W.codeIn K cd_read_row "read_row" = true)
    (k_read_row : keepIn K (.ref f_read_row) = true)
    (a_read_single_signs : PySem.W.nsIn K mainGlobals "read_single_signs" = some (some (.ref f_read_single_signs)))
    (l_read_single_signs : List.lookup f_read_single_signs K = some ⟨oc_read_single_signs, od_read_single_signs, .func (PySem.W.fnOf "read_single_signs" "read_single_signs" (defArgs s_read_single_signs) (defBody s_read_single_signs) (defScope s_read_single_signs) .none kV_read_single_signs dc_read_single_signs pm_read_single_signs an_read_single_signs cd_read_single_signs ct_read_single_signs), sl_read_single_signs⟩)
    (c_read_single_signs : PySem.W.codeIn K cd_read_single_signs "read_single_signs" = true)
    (k_read_single_signs : keepIn K (.ref f_read_single_signs) = true)
    (a_read_stops : PySem.W.nsIn K mainGlobals "read_stops" = some (some (.ref f_read_stops)))
    (l_read_stops : List.lookup f_read_stops K = some ⟨oc_read_stops, od_read_stops, .func (PySem.W.fnOf "read_stops" "read_stops" (defArgs s_read_stops) (defBody s_read_stops) (defScope s_read_stops) .none kV_read_stops dc_read_stops pm_read_stops an_read_stops cd_read_stops ct_read_stops), sl_read_stops⟩)
    (c_read_stops : PySem.W.codeIn K cd_read_stops "read_stops" = true)
    (k_read_stops : keepIn K (.ref f_read_stops) = true)
    (a_read_line : PySem.W.nsIn K mainGlobals "read_line" = some (some (.ref f_read_line)))
    (l_read_line : List.lookup f_read_line K = some ⟨oc_read_line, od_read_line, .func (PySem.W.fnOf "read_line" "read_line" (defArgs s_read_line) (defBody s_read_line) (defScope s_read_line) .none kV_read_line dc_read_line pm_read_line an_read_line cd_read_line ct_read_line), sl_read_line⟩)
    (c_read_line : PySem.W.codeIn K cd_read_line "read_line" = true)
    (k_read_line : keepIn K (.ref f_read_line) = true)
    (a_read_lines : PySem.W.nsIn K mainGlobals "read_lines" = some (some (.ref f_read_lines)))
    (l_read_lines : List.lookup f_read_lines K = some ⟨oc_read_lines, od_read_lines, .func (PySem.W.fnOf "read_lines" "read_lines" (defArgs s_read_lines) (defBody s_read_lines) (defScope s_read_lines) .none kV_read_lines dc_read_lines pm_read_lines an_read_lines cd_read_lines ct_read_lines), sl_read_lines⟩)
    (c_read_lines : PySem.W.codeIn K cd_read_lines "read_lines" = true)
    (k_read_lines : keepIn K (.ref f_read_lines) = true)
    (a_read_piece : PySem.W.nsIn K mainGlobals "read_piece" = some (some (.ref f_read_piece)))
    (l_read_piece : List.lookup f_read_piece K = some ⟨oc_read_piece, od_read_piece, .func (PySem.W.fnOf "read_piece" "read_piece" (defArgs s_read_piece) (defBody s_read_piece) (defScope s_read_piece) .none kV_read_piece dc_read_piece pm_read_piece an_read_piece cd_read_piece ct_read_piece), sl_read_piece⟩)
    (c_read_piece : PySem.W.codeIn K cd_read_piece "read_piece" = true)
    (k_read_piece : keepIn K (.ref f_read_piece) = true)
    (a_check_size : PySem.W.nsIn K mainGlobals "check_size" = some (some (.ref f_check_size)))
    (l_check_size : List.lookup f_check_size K = some ⟨oc_check_size, od_check_size, .func (PySem.W.fnOf "check_size" "check_size" (defArgs s_check_size) (defBody s_check_size) (defScope s_check_size) .none kV_check_size dc_check_size pm_check_size an_check_size cd_check_size ct_check_size), sl_check_size⟩)
    (c_check_size : PySem.W.codeIn K cd_check_size "check_size" = true)
    (k_check_size : keepIn K (.ref f_check_size) = true)
    (a_read_text : PySem.W.nsIn K mainGlobals "read_text" = some (some (.ref f_read_text)))
    (l_read_text : List.lookup f_read_text K = some ⟨oc_read_text, od_read_text, .func (PySem.W.fnOf "read_text" "read_text" (defArgs s_read_text) (defBody s_read_text) (defScope s_read_text) .none kV_read_text dc_read_text pm_read_text an_read_text cd_read_text ct_read_text), sl_read_text⟩)
    (c_read_text : PySem.W.codeIn K cd_read_text "read_text" = true)
    (k_read_text : keepIn K (.ref f_read_text) = true)
    (a_sizes : PySem.W.nsIn K mainGlobals "sizes" = some (some (.ref f_sizes)))
    (l_sizes : List.lookup f_sizes K = some ⟨oc_sizes, od_sizes, .func (PySem.W.fnOf "sizes" "sizes" (defArgs s_sizes) (defBody s_sizes) (defScope s_sizes) .none kV_sizes dc_sizes pm_sizes an_sizes cd_sizes ct_sizes), sl_sizes⟩)
    (c_sizes : PySem.W.codeIn K cd_sizes "sizes" = true)
    (k_sizes : keepIn K (.ref f_sizes) = true) :
    ∃ fd : FuncData, (∀ (s : Shared) (us : List Value), us.length = (["t"] : List Str).length → BindsTo s fd ⟨us, []⟩ ((["t"] : List Str).zip us)) ∧
      ∀ base : Heap, K.In base → base.Ns mainGlobals mg → FnOk P w K mg base (CX1 P w) 11 fa fd ["t"] (sp_sizes K) := by
  have m_Refusal := PySem.W.mg_of X G n_Refusal
  have X_Refusal : XCls K C_Refusal [] := xcls_mk l_Refusal x1_Refusal x2_Refusal x3_Refusal x4_Refusal x6_Refusal
  have F_Refusal_init := fun_mk (st := s_Refusal_init) l_Refusal_init c_Refusal_init k_Refusal_init
  have b_Refusal_init := bn_Refusal_init F_Refusal_init
  have B_Refusal : ClsFn K C_Refusal "__init__" f_Refusal_init := ⟨y1_Refusal, y2_Refusal, y3_Refusal, k_Refusal_init⟩
  have m_TooLong := PySem.W.mg_of X G n_TooLong
  have X_TooLong : XCls K C_TooLong [C_Refusal] := xcls_mk l_TooLong x1_TooLong x2_TooLong x3_TooLong x4_TooLong x6_TooLong
  have F_TooLong_init := fun_mk (st := s_TooLong_init) l_TooLong_init c_TooLong_init k_TooLong_init
  have b_TooLong_init := bn_TooLong_init F_TooLong_init
  have m_NoPiece := PySem.W.mg_of X G n_NoPiece
  have X_NoPiece : XCls K C_NoPiece [C_Refusal] := xcls_mk l_NoPiece x1_NoPiece x2_NoPiece x3_NoPiece x4_NoPiece x6_NoPiece
  have F_NoPiece_init := fun_mk (st := s_NoPiece_init) l_NoPiece_init c_NoPiece_init k_NoPiece_init
  have b_NoPiece_init := bn_NoPiece_init F_NoPiece_init
  have m_Reader := PySem.W.mg_of X G n_Reader
  have Z_Reader : Cls K C_Reader := ⟨z1_Reader, z2_Reader, z3_Reader, z4_Reader⟩
  have F_Reader_init := fun_mk (st := s_Reader_init) l_Reader_init c_Reader_init k_Reader_init
  have b_Reader_init := bn_Reader_init F_Reader_init
  have F_Reader_peek := fun_mk (st := s_Reader_peek) l_Reader_peek c_Reader_peek k_Reader_peek
  have b_Reader_peek := bn_Reader_peek F_Reader_peek
  have F_Reader_take := fun_mk (st := s_Reader_take) l_Reader_take c_Reader_take k_Reader_take
  have b_Reader_take := bn_Reader_take F_Reader_take
  have F_Reader_take_sign := fun_mk (st := s_Reader_take_sign) l_Reader_take_sign c_Reader_take_sign k_Reader_take_sign
  have b_Reader_take_sign := bn_Reader_take_sign F_Reader_take_sign
  have m_SignTable := PySem.W.mg_of X G n_SignTable
  have Z_SignTable : Cls K C_SignTable := ⟨z1_SignTable, z2_SignTable, z3_SignTable, z4_SignTable⟩
  have F_SignTable_init := fun_mk (st := s_SignTable_init) l_SignTable_init c_SignTable_init k_SignTable_init
  have b_SignTable_init := bn_SignTable_init F_SignTable_init
  have m_Form := PySem.W.mg_of X G n_Form
  have Z_Form : Cls K C_Form := ⟨z1_Form, z2_Form, z3_Form, z4_Form⟩
  have F_Form_init := fun_mk (st := s_Form_init) l_Form_init c_Form_init k_Form_init
  have b_Form_init := bn_Form_init F_Form_init
  have m_Piece := PySem.W.mg_of X G n_Piece
  have Z_Piece : Cls K C_Piece := ⟨z1_Piece, z2_Piece, z3_Piece, z4_Piece⟩
  have F_Piece_init := fun_mk (st := s_Piece_init) l_Piece_init c_Piece_init k_Piece_init
  have b_Piece_init := bn_Piece_init F_Piece_init
  have tc_KIND_WORDS : TupC K v_KIND_WORDS [V.ref v_KIND_WORDS_0, V.ref v_KIND_WORDS_1, V.ref v_KIND_WORDS_2] := tupC_mk tl_KIND_WORDS tv_KIND_WORDS tz_KIND_WORDS
  have tc_KIND_WORDS_0 : TupC K v_KIND_WORDS_0 [V.str (Str.ofString "french"), V.int 0] := tupC_mk tl_KIND_WORDS_0 tv_KIND_WORDS_0 tz_KIND_WORDS_0
  have tc_KIND_WORDS_1 : TupC K v_KIND_WORDS_1 [V.str (Str.ofString "italian"), V.int 1] := tupC_mk tl_KIND_WORDS_1 tv_KIND_WORDS_1 tz_KIND_WORDS_1
  have tc_KIND_WORDS_2 : TupC K v_KIND_WORDS_2 [V.str (Str.ofString "german"), V.int 2] := tupC_mk tl_KIND_WORDS_2 tv_KIND_WORDS_2 tz_KIND_WORDS_2
  have mc_KIND_WORDS := PySem.W.mg_of X G g_KIND_WORDS
  have mc_GERMAN := PySem.W.mg_of X G g_GERMAN
  have tc_LENGTH_SIGNS : TupC K v_LENGTH_SIGNS [V.ref v_LENGTH_SIGNS_0, V.ref v_LENGTH_SIGNS_1, V.ref v_LENGTH_SIGNS_2, V.ref v_LENGTH_SIGNS_3, V.ref v_LENGTH_SIGNS_4, V.ref v_LENGTH_SIGNS_5, V.ref v_LENGTH_SIGNS_6, V.ref v_LENGTH_SIGNS_7, V.ref v_LENGTH_SIGNS_8, V.ref v_LENGTH_SIGNS_9, V.ref v_LENGTH_SIGNS_10, V.ref v_LENGTH_SIGNS_11, V.ref v_LENGTH_SIGNS_12] := tupC_mk tl_LENGTH_SIGNS tv_LENGTH_SIGNS tz_LENGTH_SIGNS
  have tc_LENGTH_SIGNS_0 : TupC K v_LENGTH_SIGNS_0 [V.str (Str.ofString "x"), V.int 1] := tupC_mk tl_LENGTH_SIGNS_0 tv_LENGTH_SIGNS_0 tz_LENGTH_SIGNS_0
  have tc_LENGTH_SIGNS_1 : TupC K v_LENGTH_SIGNS_1 [V.str (Str.ofString "t"), V.int 2] := tupC_mk tl_LENGTH_SIGNS_1 tv_LENGTH_SIGNS_1 tz_LENGTH_SIGNS_1
  have tc_LENGTH_SIGNS_2 : TupC K v_LENGTH_SIGNS_2 [V.str (Str.ofString "t."), V.int 3] := tupC_mk tl_LENGTH_SIGNS_2 tv_LENGTH_SIGNS_2 tz_LENGTH_SIGNS_2
  have tc_LENGTH_SIGNS_3 : TupC K v_LENGTH_SIGNS_3 [V.str (Str.ofString "s"), V.int 4] := tupC_mk tl_LENGTH_SIGNS_3 tv_LENGTH_SIGNS_3 tz_LENGTH_SIGNS_3
  have tc_LENGTH_SIGNS_4 : TupC K v_LENGTH_SIGNS_4 [V.str (Str.ofString "s."), V.int 6] := tupC_mk tl_LENGTH_SIGNS_4 tv_LENGTH_SIGNS_4 tz_LENGTH_SIGNS_4
  have tc_LENGTH_SIGNS_5 : TupC K v_LENGTH_SIGNS_5 [V.str (Str.ofString "e"), V.int 8] := tupC_mk tl_LENGTH_SIGNS_5 tv_LENGTH_SIGNS_5 tz_LENGTH_SIGNS_5
  have tc_LENGTH_SIGNS_6 : TupC K v_LENGTH_SIGNS_6 [V.str (Str.ofString "e."), V.int 12] := tupC_mk tl_LENGTH_SIGNS_6 tv_LENGTH_SIGNS_6 tz_LENGTH_SIGNS_6
  have tc_LENGTH_SIGNS_7 : TupC K v_LENGTH_SIGNS_7 [V.str (Str.ofString "q"), V.int 16] := tupC_mk tl_LENGTH_SIGNS_7 tv_LENGTH_SIGNS_7 tz_LENGTH_SIGNS_7
  have tc_LENGTH_SIGNS_8 : TupC K v_LENGTH_SIGNS_8 [V.str (Str.ofString "q."), V.int 24] := tupC_mk tl_LENGTH_SIGNS_8 tv_LENGTH_SIGNS_8 tz_LENGTH_SIGNS_8
  have tc_LENGTH_SIGNS_9 : TupC K v_LENGTH_SIGNS_9 [V.str (Str.ofString "h"), V.int 32] := tupC_mk tl_LENGTH_SIGNS_9 tv_LENGTH_SIGNS_9 tz_LENGTH_SIGNS_9
  have tc_LENGTH_SIGNS_10 : TupC K v_LENGTH_SIGNS_10 [V.str (Str.ofString "h."), V.int 48] := tupC_mk tl_LENGTH_SIGNS_10 tv_LENGTH_SIGNS_10 tz_LENGTH_SIGNS_10
  have tc_LENGTH_SIGNS_11 : TupC K v_LENGTH_SIGNS_11 [V.str (Str.ofString "w"), V.int 64] := tupC_mk tl_LENGTH_SIGNS_11 tv_LENGTH_SIGNS_11 tz_LENGTH_SIGNS_11
  have tc_LENGTH_SIGNS_12 : TupC K v_LENGTH_SIGNS_12 [V.str (Str.ofString "w."), V.int 96] := tupC_mk tl_LENGTH_SIGNS_12 tv_LENGTH_SIGNS_12 tz_LENGTH_SIGNS_12
  have mc_LENGTH_SIGNS := PySem.W.mg_of X G g_LENGTH_SIGNS
  have mc_FRETS := PySem.W.mg_of X G g_FRETS
  have tc_FRET_LETTERS : TupC K v_FRET_LETTERS [V.str (Str.ofString "abcdefghiklmnopq"), V.str (Str.ofString "0123456789xyzvuw")] := tupC_mk tl_FRET_LETTERS tv_FRET_LETTERS tz_FRET_LETTERS
  have mc_FRET_LETTERS := PySem.W.mg_of X G g_FRET_LETTERS
  have mc_NO_STOP := PySem.W.mg_of X G g_NO_STOP
  have mc_FIRST_BASS := PySem.W.mg_of X G g_FIRST_BASS
  have tc_BASSES : TupC K v_BASSES [V.ref v_BASSES_0, V.ref v_BASSES_1, V.ref v_BASSES_2] := tupC_mk tl_BASSES tv_BASSES tz_BASSES
  have tc_BASSES_0 : TupC K v_BASSES_0 [V.str (Str.ofString "a"), V.str (Str.ofString "/a"), V.str (Str.ofString "//a"), V.str (Str.ofString "///a"), V.str (Str.ofString "4"), V.str (Str.ofString "5"), V.str (Str.ofString "6"), V.str (Str.ofString "7")] := tupC_mk tl_BASSES_0 tv_BASSES_0 tz_BASSES_0
  have tc_BASSES_1 : TupC K v_BASSES_1 [V.str (Str.ofString "7"), V.str (Str.ofString "8"), V.str (Str.ofString "9"), V.str (Str.ofString "10"), V.str (Str.ofString "11"), V.str (Str.ofString "12"), V.str (Str.ofString "13"), V.str (Str.ofString "14")] := tupC_mk tl_BASSES_1 tv_BASSES_1 tz_BASSES_1
  have tc_BASSES_2 : TupC K v_BASSES_2 [V.str (Str.ofString "-7"), V.str (Str.ofString "-8"), V.str (Str.ofString "-9"), V.str (Str.ofString "-10"), V.str (Str.ofString "-11"), V.str (Str.ofString "-12"), V.str (Str.ofString "-13"), V.str (Str.ofString "-14")] := tupC_mk tl_BASSES_2 tv_BASSES_2 tz_BASSES_2
  have mc_BASSES := PySem.W.mg_of X G g_BASSES
  have mc_GERMAN_CROSSINGS := PySem.W.mg_of X G g_GERMAN_CROSSINGS
  have mc_GERMAN_SIXTH := PySem.W.mg_of X G g_GERMAN_SIXTH
  have tc_ROW_COURSES : TupC K v_ROW_COURSES [V.ref v_ROW_COURSES_0, V.ref v_ROW_COURSES_1, V.ref v_ROW_COURSES_2] := tupC_mk tl_ROW_COURSES tv_ROW_COURSES tz_ROW_COURSES
  have tc_ROW_COURSES_0 : TupC K v_ROW_COURSES_0 [V.int 1, V.int 2, V.int 3, V.int 4, V.int 5, V.int 6] := tupC_mk tl_ROW_COURSES_0 tv_ROW_COURSES_0 tz_ROW_COURSES_0
  have tc_ROW_COURSES_1 : TupC K v_ROW_COURSES_1 [V.int 6, V.int 5, V.int 4, V.int 3, V.int 2, V.int 1] := tupC_mk tl_ROW_COURSES_1 tv_ROW_COURSES_1 tz_ROW_COURSES_1
  have tc_ROW_COURSES_2 : TupC K v_ROW_COURSES_2 [] := tupC_mk tl_ROW_COURSES_2 tv_ROW_COURSES_2 tz_ROW_COURSES_2
  have mc_ROW_COURSES := PySem.W.mg_of X G g_ROW_COURSES
  have mc_MOST_LINES := PySem.W.mg_of X G g_MOST_LINES
  have mc_ROW_END := PySem.W.mg_of X G g_ROW_END
  have mc_BLANK := PySem.W.mg_of X G g_BLANK
  have mc_POINT := PySem.W.mg_of X G g_POINT
  have mc_STROKE := PySem.W.mg_of X G g_STROKE
  have mc_NO_BYTE := PySem.W.mg_of X G g_NO_BYTE
  have mc_MOST_BYTES := PySem.W.mg_of X G g_MOST_BYTES
  have no_len := PySem.W.ns_none_of X G nb_len
  have no_any := PySem.W.ns_none_of X G nb_any
  have no_sorted := PySem.W.ns_none_of X G nb_sorted
  have no_list := PySem.W.ns_none_of X G nb_list
  have no_tuple := PySem.W.ns_none_of X G nb_tuple
  have no_range := PySem.W.ns_none_of X G nb_range
  have no_ord := PySem.W.ns_none_of X G nb_ord
  have no_str := PySem.W.ns_none_of X G nb_str
  have no_enumerate := PySem.W.ns_none_of X G nb_enumerate
  have no_sum := PySem.W.ns_none_of X G nb_sum
  have F_german_sign := fun_mk (st := s_german_sign) l_german_sign c_german_sign k_german_sign
  have b_german_sign := bn_german_sign F_german_sign
  have m_german_sign := PySem.W.mg_of X G a_german_sign
  have F_row_signs := fun_mk (st := s_row_signs) l_row_signs c_row_signs k_row_signs
  have b_row_signs := bn_row_signs F_row_signs
  have m_row_signs := PySem.W.mg_of X G a_row_signs
  have F_stop_signs := fun_mk (st := s_stop_signs) l_stop_signs c_stop_signs k_stop_signs
  have b_stop_signs := bn_stop_signs F_stop_signs
  have m_stop_signs := PySem.W.mg_of X G a_stop_signs
  have F_has_moment := fun_mk (st := s_has_moment) l_has_moment c_has_moment k_has_moment
  have b_has_moment := bn_has_moment F_has_moment
  have m_has_moment := PySem.W.mg_of X G a_has_moment
  have F_read_length := fun_mk (st := s_read_length) l_read_length c_read_length k_read_length
  have b_read_length := bn_read_length F_read_length
  have m_read_length := PySem.W.mg_of X G a_read_length
  have F_read_row := fun_mk (st := s_read_row) l_read_row c_read_row k_read_row
  have b_read_row := bn_read_row F_read_row
  have m_read_row := PySem.W.mg_of X G a_read_row
  have F_read_single_signs := fun_mk (st := s_read_single_signs) l_read_single_signs c_read_single_signs k_read_single_signs
  have b_read_single_signs := bn_read_single_signs F_read_single_signs
  have m_read_single_signs := PySem.W.mg_of X G a_read_single_signs
  have F_read_stops := fun_mk (st := s_read_stops) l_read_stops c_read_stops k_read_stops
  have b_read_stops := bn_read_stops F_read_stops
  have m_read_stops := PySem.W.mg_of X G a_read_stops
  have F_read_line := fun_mk (st := s_read_line) l_read_line c_read_line k_read_line
  have b_read_line := bn_read_line F_read_line
  have m_read_line := PySem.W.mg_of X G a_read_line
  have F_read_lines := fun_mk (st := s_read_lines) l_read_lines c_read_lines k_read_lines
  have b_read_lines := bn_read_lines F_read_lines
  have m_read_lines := PySem.W.mg_of X G a_read_lines
  have F_read_piece := fun_mk (st := s_read_piece) l_read_piece c_read_piece k_read_piece
  have b_read_piece := bn_read_piece F_read_piece
  have m_read_piece := PySem.W.mg_of X G a_read_piece
  have F_check_size := fun_mk (st := s_check_size) l_check_size c_check_size k_check_size
  have b_check_size := bn_check_size F_check_size
  have m_check_size := PySem.W.mg_of X G a_check_size
  have F_read_text := fun_mk (st := s_read_text) l_read_text c_read_text k_read_text
  have b_read_text := bn_read_text F_read_text
  have m_read_text := PySem.W.mg_of X G a_read_text
  have F_sizes := fun_mk (st := s_sizes) l_sizes c_sizes k_sizes
  have b_sizes := bn_sizes F_sizes
  have m_sizes := PySem.W.mg_of X G a_sizes
  cases hfa.symm.trans m_sizes
  have T : TxR K mg C_Reader C_SignTable C_Form C_Piece := ⟨Z_Reader, Z_SignTable, Z_Form, Z_Piece, z_t_Reader, z_place_Reader, z_beginnings_SignTable, z_meanings_SignTable, z_kind_Form, z_lengths_Form, z_frets_Form, z_stops_Form, z_kind_Piece, z_lines_Piece, ⟨_, mc_ROW_END⟩, ⟨_, mc_BLANK⟩, ⟨_, mc_POINT⟩, ⟨_, mc_STROKE⟩, ⟨_, mc_NO_BYTE⟩, ⟨_, mc_MOST_LINES⟩, ⟨_, mc_GERMAN⟩, no_len⟩
  have TQ : TxQ K mg := ⟨⟨_, _, _, _, mc_ROW_COURSES, tc_ROW_COURSES, tc_ROW_COURSES_0, tc_ROW_COURSES_1, tc_ROW_COURSES_2⟩, no_sorted, no_list⟩
  have TB : TxB K mg := ⟨no_tuple, no_range, no_ord, no_str, no_enumerate⟩
  have TG : TxG K mg := ⟨⟨_, mc_GERMAN_CROSSINGS⟩, ⟨_, mc_GERMAN_SIXTH⟩, ⟨_, mc_FIRST_BASS⟩, ⟨_, mc_FRETS⟩, ⟨_, mc_NO_STOP⟩, ⟨_, mc_FRET_LETTERS, tc_FRET_LETTERS⟩, ⟨_, _, _, _, mc_BASSES, tc_BASSES, tc_BASSES_0, tc_BASSES_1, tc_BASSES_2⟩, no_str⟩
  have TK : TxK K mg := ⟨⟨_, mc_LENGTH_SIGNS, fun H => ⟨_, .inr (tc_LENGTH_SIGNS H), .cons ⟨_, rfl, tc_LENGTH_SIGNS_0 H⟩ (.cons ⟨_, rfl, tc_LENGTH_SIGNS_1 H⟩ (.cons ⟨_, rfl, tc_LENGTH_SIGNS_2 H⟩ (.cons ⟨_, rfl, tc_LENGTH_SIGNS_3 H⟩ (.cons ⟨_, rfl, tc_LENGTH_SIGNS_4 H⟩ (.cons ⟨_, rfl, tc_LENGTH_SIGNS_5 H⟩ (.cons ⟨_, rfl, tc_LENGTH_SIGNS_6 H⟩ (.cons ⟨_, rfl, tc_LENGTH_SIGNS_7 H⟩ (.cons ⟨_, rfl, tc_LENGTH_SIGNS_8 H⟩ (.cons ⟨_, rfl, tc_LENGTH_SIGNS_9 H⟩ (.cons ⟨_, rfl, tc_LENGTH_SIGNS_10 H⟩ (.cons ⟨_, rfl, tc_LENGTH_SIGNS_11 H⟩ (.cons ⟨_, rfl, tc_LENGTH_SIGNS_12 H⟩ (.nil)))))))))))))⟩⟩, ⟨_, mc_KIND_WORDS, fun H => ⟨_, .inr (tc_KIND_WORDS H), .cons ⟨_, rfl, tc_KIND_WORDS_0 H⟩ (.cons ⟨_, rfl, tc_KIND_WORDS_1 H⟩ (.cons ⟨_, rfl, tc_KIND_WORDS_2 H⟩ (.nil)))⟩⟩, ⟨_, mc_MOST_BYTES⟩⟩
  have TR : Ref K mg C_Refusal := ⟨m_Refusal, X_Refusal⟩
  have XT : XC K mg C_Refusal C_TooLong "TooLong" := ⟨m_TooLong, X_TooLong, x_number_TooLong, x_place_TooLong⟩
  have XN : XC K mg C_Refusal C_NoPiece "NoPiece" := ⟨m_NoPiece, X_NoPiece, x_number_NoPiece, x_place_NoPiece⟩
  refine ⟨PySem.W.fnOf "sizes" "sizes" (defArgs s_sizes) (defBody s_sizes) (defScope s_sizes) .none kV_sizes dc_sizes pm_sizes an_sizes cd_sizes ct_sizes, fun s us hu => match us, hu with | [_], _ => .of_eq rfl, fun base _ _ => ?_⟩
  have G_TL : HasMkX P w K mg base 2 C_TooLong "TooLong" ["self"] (InitX K C_TooLong (okC (-2))) := ⟨by decide, ⟨_, X_TooLong⟩, _, _, m_TooLong, ⟨a_TooLong_init, i_TooLong_init, x5_TooLong⟩, b_TooLong_init, ok_TooLong_init F_TooLong_init TR XT B_Refusal b_Refusal_init (ok_Refusal_init F_Refusal_init XT)⟩
  have G_NP : HasMkX P w K mg base 2 C_NoPiece "NoPiece" ["self", "place"] (InitX K C_NoPiece (okPl)) := ⟨by decide, ⟨_, X_NoPiece⟩, _, _, m_NoPiece, ⟨a_NoPiece_init, i_NoPiece_init, x5_NoPiece⟩, b_NoPiece_init, ok_NoPiece_init F_NoPiece_init TR XN B_Refusal b_Refusal_init (ok_Refusal_init F_Refusal_init XN)⟩
  have G_peek : HasMeth P w K mg base 1 C_Reader "peek" ["self"] (sp_peek C_Reader K) := ⟨_, _, ⟨a_Reader_peek, i_Reader_peek, k_Reader_peek⟩, b_Reader_peek, ok_Reader_peek F_Reader_peek T⟩
  have G_take : HasMeth P w K mg base 4 C_Reader "take" ["self", "byte"] (sp_take C_Reader C_NoPiece K) := ⟨_, _, ⟨a_Reader_take, i_Reader_take, k_Reader_take⟩, b_Reader_take, ok_Reader_take F_Reader_take T XN G_peek G_NP⟩
  have G_ts : HasMeth P w K mg base 4 C_Reader "take_sign" ["self", "table"] (sp_take_sign C_Reader C_SignTable C_NoPiece K) := ⟨_, _, ⟨a_Reader_take_sign, i_Reader_take_sign, k_Reader_take_sign⟩, b_Reader_take_sign, ok_Reader_take_sign F_Reader_take_sign T XN G_peek G_NP⟩
  have G_len : HasFn P w K mg base 5 "read_length" ["reader", "form", "before"] (sp_read_length C_Reader C_SignTable C_Form C_NoPiece K) := hasFn_mk (h := base) m_read_length F_read_length b_read_length (ok_read_length F_read_length T XN G_peek G_take G_ts G_NP)
  have G_row : HasFn P w K mg base 5 "read_row" ["reader", "form"] (sp_read_row C_Reader C_SignTable C_Form C_NoPiece K) := hasFn_mk (h := base) m_read_row F_read_row b_read_row (ok_read_row (R := C_Refusal) F_read_row T TQ G_ts)
  have G_sing : HasFn P w K mg base 5 "read_single_signs" ["reader", "form", "above"] (sp_singles C_Reader C_SignTable C_Form C_NoPiece K) := hasFn_mk (h := base) m_read_single_signs F_read_single_signs b_read_single_signs (ok_singles F_read_single_signs T TQ XN G_peek G_take G_ts G_NP)
  have G_stops : HasFn P w K mg base 6 "read_stops" ["reader", "form"] (sp_read_stops C_Reader C_SignTable C_Form C_NoPiece K) := hasFn_mk (h := base) m_read_stops F_read_stops b_read_stops (ok_read_stops (R := C_Refusal) F_read_stops T G_peek G_take G_row G_sing)
  have G_line : HasFn P w K mg base 7 "read_line" ["reader", "form", "before"] (sp_read_line C_Reader C_SignTable C_Form C_NoPiece K) := hasFn_mk (h := base) m_read_line F_read_line b_read_line (ok_read_line (R := C_Refusal) F_read_line T G_peek G_take G_len G_stops)
  have G_lines : HasFn P w K mg base 8 "read_lines" ["reader", "form"] (sp_read_lines C_Reader C_SignTable C_Form C_NoPiece K) := hasFn_mk (h := base) m_read_lines F_read_lines b_read_lines (ok_read_lines F_read_lines T XN G_peek G_line G_NP)
  have G_Reader : HasMk P w K mg base 1 C_Reader "Reader" ["self", "t"] (sp_Reader_init C_Reader) := ⟨_, _, m_Reader, ⟨z5_Reader, a_Reader_init, i_Reader_init, z6_Reader⟩, b_Reader_init, ok_Reader_init F_Reader_init T⟩
  have G_Piece : HasMk P w K mg base 1 C_Piece "Piece" ["self", "kind", "lines"] (sp_Piece_init C_Piece) := ⟨_, _, m_Piece, ⟨z5_Piece, a_Piece_init, i_Piece_init, z6_Piece⟩, b_Piece_init, ok_Piece_init F_Piece_init T⟩
  have G_mom : HasFn P w K mg base 1 "has_moment" ["lines"] (sp_has_moment) := hasFn_mk (h := base) m_has_moment F_has_moment b_has_moment (ok_has_moment F_has_moment no_any)
  have G_Table : HasMk P w K mg base 1 C_SignTable "SignTable" ["self", "signs"] (sp_SignTable_init C_SignTable K) := ⟨_, _, m_SignTable, ⟨z5_SignTable, a_SignTable_init, i_SignTable_init, z6_SignTable⟩, b_SignTable_init, ok_SignTable_init F_SignTable_init T TB⟩
  have G_ger : HasFn P w K mg base 1 "german_sign" ["course", "fret"] (sp_german_sign) := hasFn_mk (h := base) m_german_sign F_german_sign b_german_sign (ok_german_sign F_german_sign TG)
  have G_rows : HasFn P w K mg base 1 "row_signs" ["kind"] (sp_row_signs K) := hasFn_mk (h := base) m_row_signs F_row_signs b_row_signs (ok_row_signs F_row_signs T TB TG)
  have G_ss : HasFn P w K mg base 2 "stop_signs" ["kind"] (sp_stop_signs K) := hasFn_mk (h := base) m_stop_signs F_stop_signs b_stop_signs (ok_stop_signs F_stop_signs T TB TG G_ger)
  have G_Form : HasMk P w K mg base 3 C_Form "Form" ["self", "kind"] (sp_Form_init C_Form C_SignTable) := ⟨_, _, m_Form, ⟨z5_Form, a_Form_init, i_Form_init, z6_Form⟩, b_Form_init, ok_Form_init F_Form_init T TK G_Table G_rows G_ss⟩
  have G_piece : HasFn P w K mg base 9 "read_piece" ["t"] (sp_read_piece C_Piece C_NoPiece K) := hasFn_mk (h := base) m_read_piece F_read_piece b_read_piece (ok_read_piece F_read_piece T TK XN G_Reader G_Table G_Form G_Piece G_take G_ts G_lines G_mom G_NP)
  have G_size : HasFn P w K mg base 4 "check_size" ["t"] (sp_check_size C_TooLong K) := hasFn_mk (h := base) m_check_size F_check_size b_check_size (ok_check_size F_check_size T TK XT G_TL)
  have G_text : HasFn P w K mg base 10 "read_text" ["t"] (sp_read_text C_Piece C_NoPiece C_TooLong K) := hasFn_mk (h := base) m_read_text F_read_text b_read_text (ok_read_text F_read_text G_size G_piece)
  exact ok_sizes F_sizes T TR XN XT no_sum G_text
end Lu
namespace PySem.W.Fast
theorem tw5040564668641562720 : True := ⟨⟩
theorem tw12605682698940751200 : True := ⟨⟩
theorem tw11553689683191162208 : True := ⟨⟩
theorem tw2606067884779101824 : True := ⟨⟩
theorem tw970448606838566688 : True := ⟨⟩
theorem tw3368848497240393664 : True := ⟨⟩
theorem tw7565542865987452896 : True := ⟨⟩
theorem tw15878855247622320257 : True := ⟨⟩
theorem tw12349031754447729825 : True := ⟨⟩
theorem tw3745626217890190497 : True := ⟨⟩
theorem tw16767701364839490753 : True := ⟨⟩
theorem tw10320900168481639681 : True := ⟨⟩
theorem tw4454360913750786465 : True := ⟨⟩
theorem tw12600129148102868513 : True := ⟨⟩
theorem tw15096904320508527169 : True := ⟨⟩
theorem tw17348813180635268705 : True := ⟨⟩
theorem tw15656563221357614753 : True := ⟨⟩
theorem tw8930022462939216641 : True := ⟨⟩
theorem tw10763476919964043073 : True := ⟨⟩
theorem tw11206866370204436449 : True := ⟨⟩
theorem tw12664694175618834498 : True := ⟨⟩
theorem tw14512253577011358018 : True := ⟨⟩
theorem tw4967789212454575554 : True := ⟨⟩
theorem tw2818554730257937026 : True := ⟨⟩
theorem tw162741746901295906 : True := ⟨⟩
theorem tw10184918551298040963 : True := ⟨⟩
theorem tw18868855656419715 : True := ⟨⟩
theorem tw8506679643962313123 : True := ⟨⟩
theorem tw10597480436147005955 : True := ⟨⟩
theorem tw893577426879715875 : True := ⟨⟩
theorem tw2481534586135624291 : True := ⟨⟩
theorem tw17948187293367562915 : True := ⟨⟩
theorem tw8077644860904319683 : True := ⟨⟩
theorem tw18381897727227154179 : True := ⟨⟩
theorem tw6899276673238589444 : True := ⟨⟩
theorem tw77087862482971684 : True := ⟨⟩
theorem tw13541656253512800388 : True := ⟨⟩
theorem tw4571909316645209220 : True := ⟨⟩
theorem tw12771244303755987204 : True := ⟨⟩
theorem tw15996364224197004580 : True := ⟨⟩
theorem tw11134553450792387876 : True := ⟨⟩
theorem tw16994870439333085540 : True := ⟨⟩
theorem tw490902772298662372 : True := ⟨⟩
theorem tw1107997914427602436 : True := ⟨⟩
theorem tw531984512053702244 : True := ⟨⟩
theorem tw5736682003441415876 : True := ⟨⟩
theorem tw9736193385320609572 : True := ⟨⟩
theorem tw10296500990850048069 : True := ⟨⟩
theorem tw14481754556952736869 : True := ⟨⟩
theorem tw6046939354111258757 : True := ⟨⟩
theorem tw11408219658049253573 : True := ⟨⟩
theorem tw8473041007020950821 : True := ⟨⟩
theorem tw15115609291725796837 : True := ⟨⟩
theorem tw5288444052658649573 : True := ⟨⟩
theorem tw272757997467065925 : True := ⟨⟩
theorem tw9379938878762282789 : True := ⟨⟩
theorem tw14813775650333994917 : True := ⟨⟩
theorem tw9493814679481781286 : True := ⟨⟩
theorem tw10992554260563001446 : True := ⟨⟩
theorem tw8784967071006019846 : True := ⟨⟩
theorem tw12407498978254685606 : True := ⟨⟩
theorem tw15236366917597606342 : True := ⟨⟩
theorem tw17916663604045121158 : True := ⟨⟩
theorem tw17905832657329350310 : True := ⟨⟩
theorem tw10312154276827483846 : True := ⟨⟩
theorem tw4413522865551410918 : True := ⟨⟩
theorem tw5043986030527274758 : True := ⟨⟩
theorem tw18141505545189820230 : True := ⟨⟩
theorem tw2003317655123445670 : True := ⟨⟩
theorem tw12838982332774586567 : True := ⟨⟩
theorem tw16415979915049042215 : True := ⟨⟩
theorem tw14238859465569661319 : True := ⟨⟩
theorem tw7099129203581072839 : True := ⟨⟩
theorem tw4534929154060257767 : True := ⟨⟩
theorem tw12587886898139941511 : True := ⟨⟩
theorem tw10075284467517712263 : True := ⟨⟩
theorem tw4862439583047970824 : True := ⟨⟩
theorem tw3824359233812777000 : True := ⟨⟩
theorem tw18133732643474126920 : True := ⟨⟩
theorem tw12283061914719838280 : True := ⟨⟩
theorem tw154041167244522888 : True := ⟨⟩
theorem tw690906688760172040 : True := ⟨⟩
theorem tw13628266481166758856 : True := ⟨⟩
theorem tw8369172513911511016 : True := ⟨⟩
theorem tw13321933156910311433 : True := ⟨⟩
theorem tw17632923617054297129 : True := ⟨⟩
theorem tw2294072942923373609 : True := ⟨⟩
theorem tw12846040955566199881 : True := ⟨⟩
theorem tw13105799824221909193 : True := ⟨⟩
theorem tw10594674864225162505 : True := ⟨⟩
theorem tw3697674593776438825 : True := ⟨⟩
theorem tw11461199352397881897 : True := ⟨⟩
theorem tw15201672288271721065 : True := ⟨⟩
theorem tw10777046269944737705 : True := ⟨⟩
theorem tw14277626600198380489 : True := ⟨⟩
theorem tw14795314174247039977 : True := ⟨⟩
theorem tw14178485542379496458 : True := ⟨⟩
theorem tw12965998067903034442 : True := ⟨⟩
theorem tw15766240719571499146 : True := ⟨⟩
theorem tw2951024586310452458 : True := ⟨⟩
theorem tw6537265870907318538 : True := ⟨⟩
theorem tw16179463759427470634 : True := ⟨⟩
theorem tw1152717515876200778 : True := ⟨⟩
theorem tw8884036390050315722 : True := ⟨⟩
theorem tw10087441842392731178 : True := ⟨⟩
theorem tw17636067617849727626 : True := ⟨⟩
theorem tw11868415295646758730 : True := ⟨⟩
theorem tw16237465190257364874 : True := ⟨⟩
theorem tw160197952194233258 : True := ⟨⟩
theorem tw5929823865180029898 : True := ⟨⟩
theorem tw7219295855614555179 : True := ⟨⟩
theorem tw8609631691115107467 : True := ⟨⟩
theorem tw13884780869872904331 : True := ⟨⟩
theorem tw12311622495535442059 : True := ⟨⟩
theorem tw5803503865343970571 : True := ⟨⟩
theorem tw15969099497792097835 : True := ⟨⟩
theorem tw4303831249498032011 : True := ⟨⟩
theorem tw12017536667812026380 : True := ⟨⟩
theorem tw9527635593788235820 : True := ⟨⟩
theorem tw17803201247881987308 : True := ⟨⟩
theorem tw272026453793011052 : True := ⟨⟩
theorem tw14068787997684470348 : True := ⟨⟩
theorem tw18177098061719778892 : True := ⟨⟩
theorem tw8218952087197265580 : True := ⟨⟩
theorem tw12938847103086850892 : True := ⟨⟩
theorem tw7279543426250050412 : True := ⟨⟩
theorem tw11408632665959516108 : True := ⟨⟩
theorem tw3136824910040362029 : True := ⟨⟩
theorem tw7869805802164044941 : True := ⟨⟩
theorem tw8420785987183732941 : True := ⟨⟩
theorem tw5419675622659006701 : True := ⟨⟩
theorem tw13647224230035229933 : True := ⟨⟩
theorem tw10326767852975057197 : True := ⟨⟩
theorem tw10292081639064921453 : True := ⟨⟩
theorem tw10381855050525129165 : True := ⟨⟩
theorem tw3638952564983302605 : True := ⟨⟩
theorem tw3764499360384708141 : True := ⟨⟩
theorem tw17839191177027117 : True := ⟨⟩
theorem tw2107544724483054157 : True := ⟨⟩
theorem tw16670218163413555821 : True := ⟨⟩
theorem tw1219804354422446989 : True := ⟨⟩
theorem tw2505790126017292366 : True := ⟨⟩
theorem tw3989855443003140430 : True := ⟨⟩
theorem tw7245435922635989550 : True := ⟨⟩
theorem tw17062543086299742894 : True := ⟨⟩
theorem tw16867403210765557775 : True := ⟨⟩
theorem tw9592841586466100271 : True := ⟨⟩
theorem tw15307771377064165519 : True := ⟨⟩
theorem tw15893386170439292335 : True := ⟨⟩
theorem tw1156137306846070255 : True := ⟨⟩
theorem tw447738646018392623 : True := ⟨⟩
theorem tw15651135932936065615 : True := ⟨⟩
theorem tw10800812786170105487 : True := ⟨⟩
theorem tw10148897992404664111 : True := ⟨⟩
theorem tw16746571177398893391 : True := ⟨⟩
theorem tw15144644548022239087 : True := ⟨⟩
theorem tw7405089739133211567 : True := ⟨⟩
theorem tw685015203908045743 : True := ⟨⟩
theorem tw17478732950115505200 : True := ⟨⟩
theorem tw7076584477563758640 : True := ⟨⟩
theorem tw11267087675583080560 : True := ⟨⟩
theorem tw2899937826504170608 : True := ⟨⟩
theorem tw54215805517070512 : True := ⟨⟩
theorem tw11178431077600899408 : True := ⟨⟩
theorem tw16552626565725172208 : True := ⟨⟩
theorem tw15780010701746218832 : True := ⟨⟩
theorem tw4304169758423403376 : True := ⟨⟩
theorem tw6386661214439059376 : True := ⟨⟩
theorem tw12305676979349205201 : True := ⟨⟩
theorem tw4246069318839979313 : True := ⟨⟩
theorem tw4583789098300619121 : True := ⟨⟩
theorem tw16415648138901692209 : True := ⟨⟩
theorem tw11259539837973372946 : True := ⟨⟩
theorem tw15478497963588822290 : True := ⟨⟩
theorem tw16454790321258058034 : True := ⟨⟩
theorem tw3219682537836155698 : True := ⟨⟩
theorem tw13198293267362546482 : True := ⟨⟩
theorem tw14062814150321491858 : True := ⟨⟩
theorem tw13029889695681284115 : True := ⟨⟩
theorem tw10523239498085632115 : True := ⟨⟩
theorem tw15566791645029817811 : True := ⟨⟩
theorem tw6894216215245830643 : True := ⟨⟩
theorem tw8353242721507788371 : True := ⟨⟩
theorem tw3452890013579097875 : True := ⟨⟩
theorem tw2298811745274621972 : True := ⟨⟩
theorem tw4403471758853230676 : True := ⟨⟩
theorem tw14895847106242473396 : True := ⟨⟩
theorem tw11128456676562965076 : True := ⟨⟩
theorem tw3595026599383862932 : True := ⟨⟩
theorem tw10280449029801980724 : True := ⟨⟩
theorem tw9757871528829211476 : True := ⟨⟩
theorem tw15381666997917967445 : True := ⟨⟩
theorem tw1454159748383379573 : True := ⟨⟩
theorem tw15296882661567456629 : True := ⟨⟩
theorem tw7544225783712771541 : True := ⟨⟩
theorem tw11268223943705686709 : True := ⟨⟩
theorem tw5193228363559086933 : True := ⟨⟩
theorem tw1320759852037632885 : True := ⟨⟩
theorem tw8402975115115115509 : True := ⟨⟩
theorem tw744834154780044758 : True := ⟨⟩
theorem tw16060317375041191414 : True := ⟨⟩
theorem tw6987828624183499318 : True := ⟨⟩
theorem tw3232740828104188534 : True := ⟨⟩
theorem tw11154041720505413334 : True := ⟨⟩
theorem tw10685591174329669462 : True := ⟨⟩
theorem tw8046915581176212470 : True := ⟨⟩
theorem tw3313280908125528343 : True := ⟨⟩
theorem tw14220798498369951255 : True := ⟨⟩
theorem tw5755252444658469559 : True := ⟨⟩
theorem tw17589239452594990807 : True := ⟨⟩
theorem tw8239878612580070167 : True := ⟨⟩
theorem tw10227893633278622487 : True := ⟨⟩
theorem tw10098406518075296567 : True := ⟨⟩
theorem tw275410163090103191 : True := ⟨⟩
theorem tw550350055461066711 : True := ⟨⟩
theorem tw2998692872725088215 : True := ⟨⟩
theorem tw12584222828406866008 : True := ⟨⟩
theorem tw3042624291751104760 : True := ⟨⟩
theorem tw6804822759487697336 : True := ⟨⟩
theorem tw8689262637070629336 : True := ⟨⟩
theorem tw7081584874631809592 : True := ⟨⟩
theorem tw2642369139702722264 : True := ⟨⟩
theorem tw15431793966130533176 : True := ⟨⟩
theorem tw2110290855375270808 : True := ⟨⟩
theorem tw4297782617761664025 : True := ⟨⟩
theorem tw14842317095784894489 : True := ⟨⟩
theorem tw10717661274721305881 : True := ⟨⟩
theorem tw11140227568687927801 : True := ⟨⟩
theorem tw4060649299334203961 : True := ⟨⟩
theorem tw2504884085937464985 : True := ⟨⟩
theorem tw4757691331973950201 : True := ⟨⟩
theorem tw14764700989920198617 : True := ⟨⟩
theorem tw17158037481914772730 : True := ⟨⟩
theorem tw18443332807254955354 : True := ⟨⟩
theorem tw2862450201698933242 : True := ⟨⟩
theorem tw8737868398853529146 : True := ⟨⟩
theorem tw14510147729445369434 : True := ⟨⟩
theorem tw8222009698731135674 : True := ⟨⟩
theorem tw10981815385217231610 : True := ⟨⟩
theorem tw7574694533999429434 : True := ⟨⟩
theorem tw17635646191865685914 : True := ⟨⟩
theorem tw14353808090684748955 : True := ⟨⟩
theorem tw17726067513632275643 : True := ⟨⟩
theorem tw12779308290766971195 : True := ⟨⟩
theorem tw13355525389216390491 : True := ⟨⟩
theorem tw5711647858371796347 : True := ⟨⟩
theorem tw1391577926418913691 : True := ⟨⟩
theorem tw14870292563586792059 : True := ⟨⟩
theorem tw18181460327541523099 : True := ⟨⟩
theorem tw10366078297579944635 : True := ⟨⟩
theorem tw10829490886335911675 : True := ⟨⟩
theorem tw7777112093019166587 : True := ⟨⟩
theorem tw4656578840577139643 : True := ⟨⟩
theorem tw3385632165542821851 : True := ⟨⟩
theorem tw15147963248888251772 : True := ⟨⟩
theorem tw1535198984853588540 : True := ⟨⟩
theorem tw15917093246476629596 : True := ⟨⟩
theorem tw6600704604313542396 : True := ⟨⟩
theorem tw6673543760897515260 : True := ⟨⟩
theorem tw14385301686198034204 : True := ⟨⟩
theorem tw16248177350030281564 : True := ⟨⟩
theorem tw3143671504063479740 : True := ⟨⟩
theorem tw164039827060391037 : True := ⟨⟩
theorem tw2836014641205897437 : True := ⟨⟩
theorem tw16290265783236734205 : True := ⟨⟩
theorem tw8168252095192719709 : True := ⟨⟩
theorem tw14512716491051111773 : True := ⟨⟩
theorem tw14307916405654822269 : True := ⟨⟩
theorem tw7614644935008902525 : True := ⟨⟩
theorem tw15625127165590187549 : True := ⟨⟩
theorem tw4918769333868882557 : True := ⟨⟩
theorem tw12947327384519864957 : True := ⟨⟩
theorem tw14320223377853007741 : True := ⟨⟩
theorem tw14001329621156575262 : True := ⟨⟩
theorem tw7975306107733226750 : True := ⟨⟩
theorem tw1934893098286967262 : True := ⟨⟩
theorem tw6329394047391913598 : True := ⟨⟩
theorem tw12128076487667875518 : True := ⟨⟩
theorem tw8044251586199159678 : True := ⟨⟩
theorem tw6017808247541514591 : True := ⟨⟩
theorem tw5947648318997764703 : True := ⟨⟩
theorem tw6335111155296663231 : True := ⟨⟩
theorem tw13107734022741358303 : True := ⟨⟩
theorem tw8257007566419122015 : True := ⟨⟩
theorem tw1901404087023586239 : True := ⟨⟩
theorem tw6458995451770480639 : True := ⟨⟩
end PySem.W.Fast
noncomputable def PySem.W.Fast.tw3278437653651162051 : PySem.Program := PySem.Challenge.pw_lutesigns_s02_sizes
theorem PySem.W.Fast.te3278437653651162051 : PySem.Challenge.pw_lutesigns_s02_sizes = PySem.W.Fast.tw3278437653651162051 := rfl
open PySem PySem.W PyProof.Rows
set_option maxRecDepth 100000 in
set_option maxHeartbeats 0 in
theorem PySem.Challenge.cw_lutesigns_s02_sizes_holds : PySem.Challenge.rw_lutesigns_s02_sizes.Holds := by
  w_on; k_headS; (case hw => exact ⟨[.list []], by decide +kernel, by decide +kernel⟩)
  k_fillS
  refine Lu.walk_specX (r := PySem.Challenge.rw_lutesigns_s02_sizes) (k := 11) (ps := ["t"]) (sp := Lu.sp_sizes) (by decide +kernel) rfl rfl ⟨rfl, by decide, by decide⟩ (fun w h Y => PySem.W.kIn_of Y) ?F ?S
  case F =>
    intro w mg fa h Y KX G hmg
    refine' Lu.all_mk KX G hmg ?q0 ?q1 ?q2 ?q3 ?q4 ?q5 ?q6 ?q7 ?q8 ?q9 ?qa ?qb ?qc ?qd ?qe ?qf ?qg ?qh ?qi ?qj ?qk ?ql ?qm ?qn ?qo ?qp ?qq ?qr ?qs ?qt ?qu ?qv ?qw ?qx ?qy ?qz ?q10 ?q11 ?q12 ?q13 ?q14 ?q15 ?q16 ?q17 ?q18 ?q19 ?q1a ?q1b ?q1c ?q1d ?q1e ?q1f ?q1g ?q1h ?q1i ?q1j ?q1k ?q1l ?q1m ?q1n ?q1o ?q1p ?q1q ?q1r ?q1s ?q1t ?q1u ?q1v ?q1w ?q1x ?q1y ?q1z ?q20 ?q21 ?q22 ?q23 ?q24 ?q25 ?q26 ?q27 ?q28 ?q29 ?q2a ?q2b ?q2c ?q2d ?q2e ?q2f ?q2g ?q2h ?q2i ?q2j ?q2k ?q2l ?q2m ?q2n ?q2o ?q2p ?q2q ?q2r ?q2s ?q2t ?q2u ?q2v ?q2w ?q2x ?q2y ?q2z ?q30 ?q31 ?q32 ?q33 ?q34 ?q35 ?q36 ?q37 ?q38 ?q39 ?q3a ?q3b ?q3c ?q3d ?q3e ?q3f ?q3g ?q3h ?q3i ?q3j ?q3k ?q3l ?q3m ?q3n ?q3o ?q3p ?q3q ?q3r ?q3s ?q3t ?q3u ?q3v ?q3w ?q3x ?q3y ?q3z ?q40 ?q41 ?q42 ?q43 ?q44 ?q45 ?q46 ?q47 ?q48 ?q49 ?q4a ?q4b ?q4c ?q4d ?q4e ?q4f ?q4g ?q4h ?q4i ?q4j ?q4k ?q4l ?q4m ?q4n ?q4o ?q4p ?q4q ?q4r ?q4s ?q4t ?q4u ?q4v ?q4w ?q4x ?q4y ?q4z ?q50 ?q51 ?q52 ?q53 ?q54 ?q55 ?q56 ?q57 ?q58 ?q59 ?q5a ?q5b ?q5c ?q5d ?q5e ?q5f ?q5g ?q5h ?q5i ?q5j ?q5k ?q5l ?q5m ?q5n ?q5o ?q5p ?q5q ?q5r ?q5s ?q5t ?q5u ?q5v ?q5w ?q5x ?q5y ?q5z ?q60 ?q61 ?q62 ?q63 ?q64 ?q65 ?q66 ?q67 ?q68 ?q69 ?q6a ?q6b ?q6c ?q6d ?q6e ?q6f ?q6g ?q6h ?q6i ?q6j ?q6k ?q6l ?q6m ?q6n ?q6o ?q6p ?q6q ?q6r ?q6s ?q6t ?q6u ?q6v ?q6w ?q6x ?q6y ?q6z ?q70 ?q71 ?q72 ?q73 ?q74 ?q75 ?q76 ?q77 ?q78 ?q79 ?q7a ?q7b ?q7c ?q7d ?q7e ?q7f ?q7g ?q7h ?q7i ?q7j ?q7k ?q7l ?q7m ?q7n ?q7o ?q7p ?q7q ?q7r ?q7s ?q7t ?q7u ?q7v
    (case q0|q1|q2|q3|q4|q5|q6|q7|q8|q9|qa|qb|qc|qd|qe|qf|qg|qh|qi|qj|qk|ql|qm|qn|qo|qp|qq|qr|qs|qt|qu|qv|qw|qx|qy|qz|q10|q11|q12|q13|q14|q15|q16|q17|q18|q19|q1a|q1b|q1c|q1d|q1e|q1f|q1g|q1h|q1i|q1j|q1k|q1l|q1m|q1n|q1o|q1p|q1q|q1r|q1s|q1t|q1u|q1v|q1w|q1x|q1y|q1z|q20|q21|q22|q23|q24|q25|q26|q27|q28|q29|q2a|q2b|q2c|q2d|q2e|q2f|q2g|q2h|q2i|q2j|q2k|q2l|q2m|q2n|q2o|q2p|q2q|q2r|q2s|q2t|q2u|q2v|q2w|q2x|q2y|q2z|q30|q31|q32|q33|q34|q35|q36|q37|q38|q39|q3a|q3b|q3c => k_is)
    (case q3d => rfl)
    (case q3e => decide)
    (case q3f => k_is)
    (case q3g => rfl)
    (case q3h => decide)
    (case q3i => k_is)
    (case q3j => rfl)
    (case q3k => decide)
    (case q3l => k_is)
    (case q3m => rfl)
    (case q3n => decide)
    (case q3o|q3p|q3q => k_is)
    (case q3r => rfl)
    (case q3s => decide)
    (case q3t => k_is)
    (case q3u => rfl)
    (case q3v => decide)
    (case q3w => k_is)
    (case q3x => rfl)
    (case q3y => decide)
    (case q3z => k_is)
    (case q40 => rfl)
    (case q41 => decide)
    (case q42 => k_is)
    (case q43 => rfl)
    (case q44 => decide)
    (case q45 => k_is)
    (case q46 => rfl)
    (case q47 => decide)
    (case q48 => k_is)
    (case q49 => rfl)
    (case q4a => decide)
    (case q4b => k_is)
    (case q4c => rfl)
    (case q4d => decide)
    (case q4e => k_is)
    (case q4f => rfl)
    (case q4g => decide)
    (case q4h => k_is)
    (case q4i => rfl)
    (case q4j => decide)
    (case q4k => k_is)
    (case q4l => rfl)
    (case q4m => decide)
    (case q4n => k_is)
    (case q4o => rfl)
    (case q4p => decide)
    (case q4q => k_is)
    (case q4r => rfl)
    (case q4s => decide)
    (case q4t => k_is)
    (case q4u => rfl)
    (case q4v => decide)
    (case q4w|q4x|q4y => k_is)
    (case q4z => rfl)
    (case q50 => decide)
    (case q51|q52|q53|q54 => k_is)
    (case q55 => rfl)
    (case q56 => decide)
    (case q57 => k_is)
    (case q58 => rfl)
    (case q59 => decide)
    (case q5a => k_is)
    (case q5b => rfl)
    (case q5c => decide)
    (case q5d => k_is)
    (case q5e => rfl)
    (case q5f => decide)
    (case q5g|q5h|q5i|q5j => k_is)
    (case q5k => rfl)
    (case q5l => decide)
    (case q5m => k_is)
    (case q5n => rfl)
    (case q5o => decide)
    (case q5p => k_is)
    (case q5q => rfl)
    (case q5r => decide)
    (case q5s => k_is)
    (case q5t => rfl)
    (case q5u => decide)
    (case q5v|q5w|q5x|q5y|q5z|q60|q61|q62|q63|q64|q65|q66|q67|q68|q69|q6a|q6b|q6c|q6d|q6e|q6f|q6g|q6h|q6i|q6j|q6k|q6l|q6m|q6n|q6o|q6p|q6q|q6r|q6s|q6t|q6u|q6v|q6w|q6x|q6y|q6z|q70|q71|q72|q73|q74|q75|q76|q77|q78|q79|q7a|q7b|q7c|q7d|q7e|q7f|q7g|q7h|q7i|q7j|q7k|q7l|q7m|q7n|q7o|q7p|q7q|q7r|q7s|q7t|q7u|q7v => k_is)
  case S =>
    intro K H xs a hO hwi hask hx
    obtain ⟨ns, u⟩ := a
    have hb := Lu.in_bytes (n := 66000) (ns := ns) (by
      have q : (Codec.inList 0 66000 (Codec.inInt (Int.ofNat 0) (Int.ofNat 255)) ns && true) = true := hwi
      rw [Bool.and_true] at q
      exact q)
    cases hx with
    | cons h1 h2 =>
      cases h2
      obtain ⟨a, rfl, hT⟩ := Lu.txt_arg hO (ns := ns) h1
      refine ⟨a, ns, rfl, hT, fun c hc => by have := hb c hc; omega, fun H' p hp => ?_⟩
      rw [Lu.sizes_spec hb] at hp
      exact .lst (L2.SqL.of hp) (L2.dw_ints _)
#print axioms PySem.Challenge.cw_lutesigns_s02_sizes_holds
