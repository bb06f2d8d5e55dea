import PyProof.Rows.All
import Wide.All
import OpenK.AllK
import Wide.FinOn
import PyProof.EqAt
import PyProof.EqKinds
import PyProof.TupleCall
import KE.BitLaws
import PyFlatLaws
import PyKm256
import Km256Spec
import KE.OsGo
import Open.SpecLaws
import KE.KMinKey
import KE.KSortTupG
import PySem.Challenge.RW_herdwhole_s01_answers
section
set_option Elab.async false
set_option linter.all false
set_option maxRecDepth 100000
namespace L2
open PySem PySem.Spec PyProof.Rows
noncomputable abbrev Key := Sum Int Str
noncomputable def keyIs : Key → Value → Bool
  | .inl k, v => Value.isInt k v
  | .inr x, v => Value.isStrOf x v
noncomputable def keyH (w : World) : Key → Int
  | .inl k => hashInt k
  | .inr x => hashStr w x
theorem keyIs_shape : ∀ {k : Key} {v : Value}, keyIs k v = true → (∃ i t, k = Sum.inl i ∧ v = Value.int i t) ∨ (∃ x t, k = Sum.inr x ∧ v = Value.str x t)
  | .inl i, v, h => by
    obtain ⟨t, e⟩ := Value.isInt_shape (k := i) (v := v) h
    exact .inl ⟨i, t, rfl, e⟩
  | .inr x, v, h => by
    obtain ⟨t, e⟩ := Value.isStrOf_shape (x := x) (v := v) h
    exact .inr ⟨x, t, rfl, e⟩
theorem key_ll (a b : Int) : decide ((Sum.inl a : Key) = Sum.inl b) = (a == b) := by
  by_cases e : a = b
  · subst e; simp
  · have h : ¬ (Sum.inl a : Key) = Sum.inl b := fun q => e (Sum.inl.inj q)
    rw [decide_eq_false h]
    exact (beq_eq_false_iff_ne.mpr e).symm
theorem key_rr (a b : Str) : decide ((Sum.inr a : Key) = Sum.inr b) = decide (a = b) := by
  by_cases e : a = b
  · subst e; simp
  · have h : ¬ (Sum.inr a : Key) = Sum.inr b := fun q => e (Sum.inr.inj q)
    rw [decide_eq_false h, decide_eq_false e]
theorem key_lr (a : Int) (b : Str) : decide ((Sum.inl a : Key) = Sum.inr b) = false := decide_eq_false (fun q => nomatch q)
theorem key_rl (a : Str) (b : Int) : decide ((Sum.inr a : Key) = Sum.inl b) = false := decide_eq_false (fun q => nomatch q)
noncomputable def mixKind (prog : Program) (w : World) : PySem.KeyKind prog w Key where
  is := keyIs
  hash := keyH w
  inj := fun v a b ha hb => by
    rcases keyIs_shape ha with ⟨i, t, rfl, rfl⟩ | ⟨x, t, rfl, rfl⟩
    · rcases keyIs_shape hb with ⟨j, u, rfl, e⟩ | ⟨y, u, rfl, e⟩
      · injection e with e1 _; rw [e1]
      · exact nomatch e
    · rcases keyIs_shape hb with ⟨j, u, rfl, e⟩ | ⟨y, u, rfl, e⟩
      · exact nomatch e
      · injection e with e1 _; rw [e1]
  byValue := fun k v h => by
    rcases keyIs_shape h with ⟨i, t, rfl, rfl⟩ | ⟨x, t, rfl, rfl⟩ <;> rfl
  pyHash := fun hv h => by
    rcases keyIs_shape hv with ⟨i, t, rfl, rfl⟩ | ⟨x, t, rfl, rfl⟩
    · exact wpAny_pyHash_int h
    · exact wpAny_pyHash_str h
  eqBool := fun hu hv h => by
    rcases keyIs_shape hu with ⟨i, t, rfl, rfl⟩ | ⟨x, t, rfl, rfl⟩
    · rcases keyIs_shape hv with ⟨j, u, rfl, rfl⟩ | ⟨y, u, rfl, rfl⟩
      · rw [key_ll] at h; exact wpAny_eqBool_int h
      · rw [key_lr] at h; exact SeqAt.EqAt.int_str i t y u _ _ _ _ h
    · rcases keyIs_shape hv with ⟨j, u, rfl, rfl⟩ | ⟨y, u, rfl, rfl⟩
      · rw [key_rl] at h; exact SeqAt.EqAt.str_int x t j u _ _ _ _ h
      · rw [key_rr] at h; exact wpAny_eqBool_str h
  «strs» := fun k x t v h => by
    rcases keyIs_shape h with ⟨i, u, rfl, e⟩ | ⟨y, u, rfl, e⟩
    · exact nomatch e
    · injection e with e1 _
      subst e1
      cases v <;> rfl
end L2
namespace L2
open PySem PySem.Spec PyProof.Rows
inductive V where
  | non | bl (b : Bool) | int (i : Int) | str (x : Str) | byt (b : Array UInt8) | flt (b : UInt64) | ref (a : Addr) | ty (n : String)
  deriving DecidableEq
noncomputable def RelV : V → Value → Prop
  | .non, u => u = Value.none
  | .bl b, u => u = Value.bool b
  | .int i, u => ∃ t, u = Value.int i t
  | .str x, u => ∃ t, u = Value.str x t
  | .byt b, u => ∃ t, u = Value.bytes b t
  | .flt b, u => ∃ t, u = Value.float b t
  | .ref a, u => u = Value.ref a
  | .ty n, u => u = Value.type n
noncomputable abbrev Vals : List V → List Value → Prop := Paired RelV
theorem Vals.length {xs : List V} {us : List Value} (r : Vals xs us) : xs.length = us.length := Paired.length r
theorem Vals.get : ∀ {xs : List V} {us : List Value} {i : Nat} {x : V}, Vals xs us → xs[i]? = some x → ∃ u, us[i]? = some u ∧ RelV x u
  | _, _, _, _, .nil, e => by simp at e
  | _, _, 0, _, .cons r _, e => by simp at e; subst e; exact ⟨_, rfl, r⟩
  | _, _, i + 1, x, .cons _ t, e => by
    obtain ⟨u, h1, h2⟩ := Vals.get (i := i) (x := x) t (by simpa using e)
    exact ⟨u, by simpa using h1, h2⟩
theorem Vals.append : ∀ {xs ys : List V} {us ws : List Value}, Vals xs us → Vals ys ws → Vals (xs ++ ys) (us ++ ws)
  | _, _, _, _, .nil, s => s
  | _, _, _, _, .cons r t, s => .cons r (Vals.append t s)
theorem Vals.take : ∀ {xs : List V} {us : List Value} (n : Nat), Vals xs us → Vals (xs.take n) (us.take n)
  | _, _, 0, _ => .nil
  | _, _, _ + 1, .nil => .nil
  | _, _, n + 1, .cons r t => .cons r (Vals.take n t)
theorem Vals.drop : ∀ {xs : List V} {us : List Value} (n : Nat), Vals xs us → Vals (xs.drop n) (us.drop n)
  | _, _, 0, r => r
  | _, _, _ + 1, .nil => .nil
  | _, _, n + 1, .cons _ t => Vals.drop n t
noncomputable def RelO : Option V → Option Value → Prop
  | some v, some u => RelV v u
  | none, none => True
  | _, _ => False
noncomputable def KV {κ : Type} : List (κ × V) → List (κ × Value) → Prop := Paired fun (p : κ × V) (q : κ × Value) => p.1 = q.1 ∧ RelV p.2 q.2
noncomputable def kV : Key → V
  | .inl i => .int i
  | .inr x => .str x
inductive HO where
  /-- a list -/
  | lst (xs : List V)
  /-- a tuple (never changes) -/
  | tup (xs : List V)
  /-- a dict whose keys are ints and texts; one whose keys are tuples of ints and texts (the empty one is both) -/
  | dK (kvs : List (Key × V)) | dT (kvs : List (List Key × V))
  /-- a set of ints: its members, its size -/
  | set (S : Int → Bool) (n : Nat)
  /-- an instance of the class at C, its dict at dx, its attributes -/
  | ins (C dx : Addr) (fs : List (Str × V))
  /-- the dict of the instance at x -/
  | own (x : Addr)
  /-- the dict of an exception -/
  | xd (fs : List (Str × V))
  /-- a bound method, f of x -/
  | met (f x : Addr)
  /-- a range object lo, lo + 1, .. below hi -/
  | rng (lo hi : Int)
  /-- a thing that is known to the object (the script; a dict while a loop walks it): read, never written while it is so -/
  | frz (o : Obj) (u : HO)
  /-- a code object's table -/
  | tbl (ps : Array Value)
  /-- any other thing, by what is true of its one object (a def of one's own: SetO a S n := HO.ext fun h => ..) -/
  | ext (φ : Heap → Prop)
noncomputable abbrev Hp := Addr → Option HO
noncomputable def upd (H : Hp) (a : Addr) (o : HO) : Hp := fun b => if b = a then some o else H b
theorem upd_same {H : Hp} {a : Addr} {o : HO} : upd H a o a = some o := by unfold upd; rw [if_pos rfl]
theorem upd_ne {H : Hp} {a b : Addr} {o : HO} (h : b ≠ a) : upd H a o b = H b := by unfold upd; rw [if_neg h]
theorem ne_of {H : Hp} {a b : Addr} {o u : HO} (h : H a = some o) (h' : H b = some u) (d : o ≠ u) : a ≠ b := by
  intro e; subst e; rw [h] at h'; exact d (Option.some.inj h')
theorem ne_of_none {H : Hp} {a b : Addr} {o : HO} (h : H a = some o) (h' : H b = none) : a ≠ b := by
  intro e; subst e; rw [h] at h'; cases h'
section
variable (P : Program) (w : World)
noncomputable def ObjOk (H : Hp) (h : Heap) (a : Addr) : HO → Prop
  | .lst xs => xs.length ≤ sizeLine ∧ ∃ (its : List Value) (n : Nat), Vals xs its ∧ h.get? a = some { cls := .type "list", data := .seq its.toArray n }
  | .tup xs => xs.length ≤ sizeLine ∧ ∃ its : List Value, Vals xs its ∧ IsTup h a its.toArray
  | .dK kvs => kvs.length ≤ sizeLine ∧ (a == sysModules) = false ∧ ∃ vs, KV kvs vs ∧ h.DictOf (mixKind P w) a vs
  | .dT kvs => kvs.length ≤ sizeLine ∧ (a == sysModules) = false ∧ ∃ xs : List (List Key × Addr × Value),
      Paired (fun (p : List Key × V) (q : List Key × Addr × Value) => p.1 = q.1 ∧ H q.2.1 = some (.tup (p.1.map kV)) ∧ RelV p.2 q.2.2) kvs xs ∧
      ∃ o es ep, h.get? a = some o ∧ o.ExactDict ∧ o.data = .dict es ep ∧ es.toList = xs.map (entryOfKey (tupleKind (mixKind P w))) ∧ (xs.map (·.1)).Nodup
  | .set S n => h.SetOf (intKind P w) a S n
  | .ins C dx fs => H dx = some (.own a) ∧ fs.length ≤ 1000 ∧ dx ≠ a ∧ h.get? a = some (PySem.W.instObj C dx) ∧
      ∃ mA, h.Ns1 dx mA ∧ (∀ f, RelO (fs.lookup f) (mA f)) ∧ PySem.Within mA (fs.map (·.1))
  | .own _ => ∃ o, h.get? a = some o
  | .xd fs => ∃ mA, h.Ns1 a mA ∧ ∀ f, RelO (fs.lookup f) (mA f)
  | .rng lo hi => ∃ t u v, h.get? a = some { cls := .type "range", data := .fields #[.int lo t, .int hi u, .int 1 v] }
  | .frz o u => h.get? a = some o ∧ ObjOk H h a u
  | .tbl ps => h.get? a = some { cls := .none, data := .fields ps }
  | .met f x => h.get? a = some (PySem.W.methodObj (.ref f) (.ref x))
  | .ext φ => φ h ∧ (∃ o, h.get? a = some o) ∧ ∀ h1 h2 : Heap, φ h1 → (∀ o, h1.get? a = some o → h2.get? a = some o) → φ h2
noncomputable def HOk (H : Hp) (h : Heap) : Prop := ∀ a o, H a = some o → ObjOk P w H h a o
end
section
variable {P : Program} {w : World} {H H' : Hp} {h h' : Heap} {a : Addr} {o : HO}
theorem ObjOk.lt (x : ObjOk P w H h a o) : a < h.objs.size := by
  cases o with
  | lst xs => obtain ⟨_, _, _, _, e⟩ := x; exact Heap.lt_size e
  | tup xs => obtain ⟨_, _, _, p⟩ := x; exact p.lt
  | dK kvs => obtain ⟨_, _, _, _, o, _, _, e, _⟩ := x; exact Heap.lt_size e
  | dT kvs => obtain ⟨_, _, _, _, o, _, _, e, _⟩ := x; exact Heap.lt_size e
  | set S n => obtain ⟨o, _, _, _, e, _⟩ := x; exact Heap.lt_size e
  | ins C dx fs => obtain ⟨_, _, _, e, _⟩ := x; exact Heap.lt_size e
  | own y => obtain ⟨_, e⟩ := x; exact Heap.lt_size e
  | xd fs => obtain ⟨_, ⟨_, _, _, e, _⟩, _⟩ := x; exact Heap.lt_size e
  | rng lo hi => obtain ⟨_, _, _, e⟩ := x; exact Heap.lt_size e
  | frz ob u => obtain ⟨e, _⟩ := x; exact Heap.lt_size e
  | tbl ps => exact Heap.lt_size (show h.get? a = some _ from x)
  | met f y => exact Heap.lt_size (show h.get? a = some _ from x)
  | ext φ => obtain ⟨_, ⟨_, e⟩, _⟩ := x; exact Heap.lt_size e
theorem Paired.mapP {α β : Type} {F G : α → β → Prop} : ∀ {l₁ : List α} {l₂ : List β}, Paired F l₁ l₂ → (∀ a b, F a b → G a b) → Paired G l₁ l₂
  | _, _, .nil, _ => .nil
  | _, _, .cons r t, f => .cons (f _ _ r) (Paired.mapP t f)
theorem ObjOk.stay (x : ObjOk P w H h a o) (k : ∀ b u, (b = a ∨ H b = some (.own a)) → h.get? b = some u → h'.get? b = some u)
    (ho : ∀ b, H b = some (.own a) → H' b = some (.own a)) (ht : ∀ b xs, H b = some (.tup xs) → H' b = some (.tup xs)) : ObjOk P w H' h' a o := by
  induction o with
  | lst xs => obtain ⟨z, its, n, r, e⟩ := x; exact ⟨z, its, n, r, k _ _ (.inl rfl) e⟩
  | tup xs => obtain ⟨z, its, r, ob, e, c⟩ := x; exact ⟨z, its, r, ob, k _ _ (.inl rfl) e, c⟩
  | dK kvs => obtain ⟨z, y, vs, r, ob, es, ep, e, c⟩ := x; exact ⟨z, y, vs, r, ob, es, ep, k _ _ (.inl rfl) e, c⟩
  | dT kvs =>
    obtain ⟨z, y, xs, r, ob, es, ep, e, c⟩ := x
    exact ⟨z, y, xs, Paired.mapP r fun p q z => ⟨z.1, ht _ _ z.2.1, z.2.2⟩, ob, es, ep, k _ _ (.inl rfl) e, c⟩
  | set S n => obtain ⟨ob, es, ep, t, e, c⟩ := x; exact ⟨ob, es, ep, t, k _ _ (.inl rfl) e, c⟩
  | ins C dx fs =>
    obtain ⟨d, z, ne, e, mA, ⟨od, es, ep, e2, c⟩, r⟩ := x
    exact ⟨ho _ d, z, ne, k _ _ (.inl rfl) e, mA, ⟨od, es, ep, k _ _ (.inr d) e2, c⟩, r⟩
  | own y => obtain ⟨ob, e⟩ := x; exact ⟨ob, k _ _ (.inl rfl) e⟩
  | xd fs => obtain ⟨mA, ⟨od, es, ep, e, c⟩, r⟩ := x; exact ⟨mA, ⟨od, es, ep, k _ _ (.inl rfl) e, c⟩, r⟩
  | rng lo hi => obtain ⟨t, u, v, e⟩ := x; exact ⟨t, u, v, k _ _ (.inl rfl) e⟩
  | frz ob u ih => obtain ⟨e, q⟩ := x; exact ⟨k _ _ (.inl rfl) e, ih q⟩
  | tbl ps =>
    have e : h.get? a = some { cls := .none, data := .fields ps } := x
    show h'.get? a = some { cls := .none, data := .fields ps }
    exact k a _ (.inl rfl) e
  | met f y =>
    have e : h.get? a = some (PySem.W.methodObj (.ref f) (.ref y)) := x
    show h'.get? a = some (PySem.W.methodObj (.ref f) (.ref y))
    exact k a _ (.inl rfl) e
  | ext φ => obtain ⟨p, ⟨o, e⟩, st⟩ := x; exact ⟨st _ _ p fun o q => k _ _ (.inl rfl) q, ⟨o, k _ _ (.inl rfl) e⟩, st⟩
theorem HOk.lt (x : HOk P w H h) (e : H a = some o) : a < h.objs.size := (x a o e).lt
theorem HOk.fresh (x : HOk P w H h) (e : h.objs.size ≤ a) : H a = none := by
  cases q : H a with
  | none => rfl
  | some u => exact absurd (Nat.lt_of_lt_of_le (x.lt q) e) (Nat.lt_irrefl _)
theorem HOk.kept (x : HOk P w H h) (k : ∀ b u, h.get? b = some u → h'.get? b = some u) : HOk P w H h' := fun a o e =>
  (x a o e).stay (fun b u _ q => k b u q) (fun _ q => q) fun _ _ q => q
theorem HOk.laid (x : HOk P w H h) (k : ∀ b u, h.get? b = some u → h'.get? b = some u) (hp : h.objs.size ≤ a) (new : ObjOk P w (upd H a o) h' a o) : HOk P w (upd H a o) h' := fun b u e => by
  have hn := x.fresh hp
  by_cases hb : b = a
  · subst hb; rw [upd_same] at e; cases e; exact new
  · rw [upd_ne hb] at e
    exact (x b u e).stay (fun c v _ q => k c v q) (fun c q => by rw [upd_ne (ne_of_none q hn)]; exact q) fun c xs q => by rw [upd_ne (ne_of_none q hn)]; exact q
end
noncomputable def Rd (H : Hp) (a : Addr) (u : HO) : Prop := H a = some u ∨ ∃ o, H a = some (.frz o u)
theorem Rd.ok {P : Program} {w : World} {H : Hp} {h : Heap} {a : Addr} {u : HO} (r : Rd H a u) (x : HOk P w H h) : ObjOk P w H h a u := by
  rcases r with r | ⟨o, r⟩
  · exact x a u r
  · obtain ⟨_, q⟩ := x a _ r
    exact q
noncomputable def Mut : Option HO → Prop
  | some (.lst _) => True
  | some (.dK _) => True
  | some (.dT _) => True
  | some (.set _ _) => True
  | some (.ins _ _ _) => True
  | some (.ext _) => True
  | _ => False
section
variable {P : Program} {w : World} {H : Hp} {h h' : Heap} {x e : Addr} {o' : HO}
theorem HOk.write (ok : HOk P w H h) (mu : Mut (H x)) (he : e = x ∨ H e = some (.own x)) (k : ∀ b u, b ≠ e → h.get? b = some u → h'.get? b = some u) (heo : ∃ u, h'.get? e = some u)
    (new : ObjOk P w (upd H x o') h' x o') : HOk P w (upd H x o') h' := fun b u q => by
  have nown : ∀ c y, H c = some (.own y) → c ≠ x := fun c y r z => by subst z; rw [r] at mu; exact mu
  have ntup : ∀ c xs, H c = some (.tup xs) → c ≠ x := fun c xs r z => by subst z; rw [r] at mu; exact mu
  by_cases hb : b = x
  · subst hb; rw [upd_same] at q; cases q; exact new
  · rw [upd_ne hb] at q
    by_cases hbe : b = e
    · have q' : H b = some (.own x) := by
        rcases he with z | z
        · exact absurd (hbe.trans z) hb
        · rw [hbe]; exact z
      rw [q] at q'; cases q'
      obtain ⟨v, hv⟩ := heo
      exact ⟨v, by rw [hbe]; exact hv⟩
    · refine (ok b u q).stay (fun c v hc r => k c v ?_ r) (fun c r => by rw [upd_ne (nown c b r)]; exact r) fun c xs r => by rw [upd_ne (ntup c xs r)]; exact r
      rcases hc with rfl | hc
      · exact hbe
      · rintro rfl
        rcases he with z | z
        · exact nown c b hc z
        · rw [hc] at z; cases z; exact hb rfl
end
structure Un (fs ex : List Addr) (H H' : Hp) (h h' : Heap) : Prop where
  keep : ∀ b o, h.get? b = some o → H b = none → b ∉ fs → b ∉ ex → h'.get? b = some o
  slot : ∀ b o, h.get? b = some o → H b = none → b ∈ fs → b ∉ ex → ∃ sl, h'.get? b = some { o with slots := sl }
  free : ∀ b o, h.get? b = some o → H b = none → b ∉ ex → H' b = none
  there : ∀ b o, h.get? b = some o → b ∉ ex → ∃ o', h'.get? b = some o'
  tups : ∀ b xs, H b = some (.tup xs) → H' b = some (.tup xs)
  frzs : ∀ b o u, H b = some (.frz o u) → H' b = some (.frz o u)
  tbls : ∀ b ps, H b = some (.tbl ps) → ∃ more, H' b = some (.tbl (ps ++ more))
section
variable {fs fs' ex ex' : List Addr} {H H1 H2 : Hp} {h h1 h2 h' : Heap} {a x e : Addr} {o : HO}
theorem Un.any (u : Un fs ex H H1 h h1) {b : Addr} {ob : Obj} (q : h.get? b = some ob) (n : H b = none) (hx : b ∉ ex) : ∃ sl, h1.get? b = some { ob with slots := sl } := by
  by_cases hb : b ∈ fs
  · exact u.slot b ob q n hb hx
  · exact ⟨ob.slots, u.keep b ob q n hb hx⟩
theorem Un.kept (k : ∀ b u, h.get? b = some u → h'.get? b = some u) : Un fs ex H H h h' :=
  ⟨fun b ob q _ _ _ => k b ob q, fun b ob q _ _ _ => ⟨ob.slots, k b ob q⟩, fun _ _ _ n _ => n, fun b ob q _ => ⟨ob, k b ob q⟩, fun _ _ q => q, fun _ _ _ q => q, fun _ ps q => ⟨#[], by rw [q]; simp⟩⟩
theorem Un.refl : Un fs ex H H h h := Un.kept fun _ _ q => q
theorem Un.laid (k : ∀ b u, h.get? b = some u → h'.get? b = some u) (hp : h.objs.size ≤ a) (hn : H a = none) : Un fs ex H (upd H a o) h h' where
  keep := fun b u q _ _ _ => k b u q
  slot := fun b u q _ _ _ => ⟨u.slots, k b u q⟩
  free := fun b u q n _ => by rw [upd_ne (Nat.ne_of_lt (Nat.lt_of_lt_of_le (Heap.lt_size q) hp))]; exact n
  there := fun b u q _ => ⟨u, k b u q⟩
  tups := fun b xs q => by rw [upd_ne (ne_of_none q hn)]; exact q
  frzs := fun b u xs q => by rw [upd_ne (ne_of_none q hn)]; exact q
  tbls := fun b ps q => ⟨#[], by rw [upd_ne (ne_of_none q hn), q]; simp⟩
theorem Un.write (mu : Mut (H x)) (he : e = x ∨ H e = some (.own x)) (k : ∀ b u, b ≠ e → h.get? b = some u → h'.get? b = some u) (heo : ∃ u, h'.get? e = some u) : Un fs ex H (upd H x o) h h' := by
  have hx : ∀ b, H b = none → b ≠ x := fun b n z => by subst z; rw [n] at mu; exact mu
  have hb : ∀ b, H b = none → b ≠ e := fun b n z => by
    subst z
    rcases he with r | r
    · exact hx b n r
    · rw [n] at r; cases r
  have hm : ∀ b u, H b = some u → ¬ Mut (some u) → b ≠ x := fun b u q nm z => by subst z; rw [q] at mu; exact nm mu
  refine ⟨fun b u q n _ _ => k b u (hb b n) q, fun b u q n _ _ => ⟨u.slots, k b u (hb b n) q⟩, fun b u q n _ => by rw [upd_ne (hx b n)]; exact n, fun b u q _ => ?_,
    fun b xs q => by rw [upd_ne (hm b _ q fun z => z)]; exact q, fun b u xs q => by rw [upd_ne (hm b _ q fun z => z)]; exact q, fun b ps q => ⟨#[], by rw [upd_ne (hm b _ q fun z => z), q]; simp⟩⟩
  by_cases hbe : b = e
  · subst hbe; exact heo
  · exact ⟨u, k b u hbe q⟩
end
noncomputable def trk (h : Heap) (H : Hp) : List Addr := (List.range h.objs.size).filter fun a => (H a).isSome
noncomputable def hidT (h : Heap) (H : Hp) : Heap := PySem.W.hideAll h (trk h H)
theorem hidT_size (h : Heap) (H : Hp) : (hidT h H).objs.size = h.objs.size := PySem.W.hideAll_size _ _
theorem hidT_get {h : Heap} {H : Hp} {b : Addr} {o : Obj} (e : h.get? b = some o) (n : H b = none) : (hidT h H).get? b = some o :=
  PySem.W.hideAll_get _ e fun hm => by
    have q : (H b).isSome = true := (List.mem_filter.mp hm).2
    rw [n] at q; simp at q
theorem of_hidT {h : Heap} {H : Hp} {b : Addr} {o : Obj} (e : (hidT h H).get? b = some o) : h.get? b = some o ∧ H b = none := by
  have e' : h.get? b = some o := PySem.W.of_hideAll (trk h H) e
  refine ⟨e', ?_⟩
  cases q : H b with
  | none => rfl
  | some x =>
    have hm : b ∈ trk h H := List.mem_filter.mpr ⟨List.mem_range.mpr (Heap.lt_size e'), by simp [q]⟩
    have z : (hidT h H).get? b = none := PySem.W.hideAll_none (trk h H) hm
    rw [z] at e; cases e
end L2
namespace L2
open PySem PySem.Spec PyProof.Rows
structure Mod (K : PySem.W.Frag) (mg : Str → Option Value) (base : Heap) : Prop where
  kin : K.In base
  glob : base.Ns mainGlobals mg
  blt : ∃ mb, base.Ns builtinsNs mb ∧ ∀ x : Str, x ≠ "__name__" → mb x = bootBuiltins x
  nolimit : base.NoLimit
structure Cx where
  prog : Program
  w : World
  K : PySem.W.Frag
  mg : Str → Option Value
  base : Heap
  A : Around
  N : List Str
  s_0 : Shared
  H_0 : Hp
  env : Env
  outer : List Env
  stack : List Env
  ex : List Addr
  fn : Str → Bool
  calm : Bool
  pn : List (Addr × Obj)
  xe : Value → Shared → Prop
noncomputable def frs (l : List Env) : List Addr := l.filterMap (·.frame)
noncomputable abbrev Cx.fs (X : Cx) : List Addr := frs X.outer
noncomputable def Vis (sc : Scope) (x : Str) : Prop := sc.names.lookup x = some .local ∨ sc.names.lookup x = some .cell ∨ sc.names.lookup x = some .free
noncomputable def Loc (sc : Scope) (x : Str) : Prop := sc.names.lookup x = some .local ∨ sc.names.lookup x = some .cell
noncomputable def Look (env : Env) (h : Heap) (m : Str → Option Value) (x : Str) (u : Value) : Prop :=
  (env.kindOf x = some .local ∧ m x = some u) ∨ ((env.kindOf x = some .cell ∨ env.kindOf x = some .free) ∧ ∃ c, env.cells.lookup x = some c ∧ h.IsCell c (some u))
structure Cx.Ok (X : Cx) : Prop where
  mod : Mod X.K X.mg X.base
  kind : X.env.scope.kind = .function
  glob : X.env.globals = mainGlobals
  blt : X.env.builtins = builtinsNs
  above : X.s_0.heap.objs.size ≤ X.env.locals
  inj : ∀ x y c, X.env.cells.lookup x = some c → X.env.cells.lookup y = some c → x = y
  has : ∀ x, (X.env.kindOf x = some .cell ∨ X.env.kindOf x = some .free) → ∃ c, X.env.cells.lookup x = some c
  cab : ∀ x c, X.fn x = true → X.env.cells.lookup x = some c → X.s_0.heap.objs.size ≤ c
  hd : X.calm = true → X.A.handled = none
  frames : X.A.frames = some X.stack
  stk : X.stack = X.outer ∨ (X.stack = X.env :: X.outer ∧ X.env.frame = some X.env.locals)
  exf : ∀ b ∈ X.ex, b ≠ X.env.locals ∧ ∀ x c, X.env.cells.lookup x = some c → c ≠ b
  bs : ∀ b o, X.base.get? b = some o → X.s_0.heap.get? b = some o ∧ X.H_0 b = none
  bsz : X.base.objs.size ≤ X.s_0.heap.objs.size
  noex : ∀ b o, X.base.get? b = some o → b ∉ X.ex
  exfs : ∀ b ∈ X.ex, b ∉ X.fs
  funs : X.s_0.heap.FunFrames X.base X.outer
  frf : ∀ b ∈ X.fs, X.H_0 b = none
structure Inv (X : Cx) (pins : List (Addr × Obj)) (σ : List (Option V)) (H : Hp) (s : Shared) : Prop where
  ok : X.Ok
  os : s.os = X.s_0.os
  bare : AllBare s.gens
  base : Un X.fs X.ex X.H_0 H X.s_0.heap s.heap
  loc : ∃ m, s.heap.Ns X.env.locals m ∧ ∀ (i : Nat) (x : Str) (v : V), X.N[i]? = some x → σ[i]? = some (some v) → Vis X.env.scope x → ∃ u, RelV v u ∧ Look X.env s.heap m x u
  cell : ∀ x c, X.env.cells.lookup x = some c → ∃ v, s.heap.IsCell c v
  free : H X.env.locals = none
  freeC : ∀ x c, X.env.cells.lookup x = some c → H c = none
  pin : ∀ p ∈ X.pn ++ pins, s.heap.get? p.1 = some p.2 ∧ H p.1 = none ∧ p.1 ≠ X.env.locals ∧ p.1 ∉ X.fs ∧ ∀ v, p.2.data ≠ .cell v
  hok : HOk X.prog X.w H s.heap
  len : σ.length = X.N.length
section
variable {X : Cx} {pins : List (Addr × Obj)} {σ : List (Option V)} {H H' : Hp} {s : Shared} {h' : Heap}
theorem Cx.Ok.nofr (ok : X.Ok) {b : Addr} {o : Obj} (e : X.base.get? b = some o) : b ∉ X.fs := fun hb => by
  have := (ok.funs.mem hb).1
  rw [e] at this; cases this
theorem Inv.bs (I : Inv X pins σ H s) : ∀ b o, X.base.get? b = some o → s.heap.get? b = some o ∧ H b = none := fun b o e =>
  ⟨I.base.keep b o (I.ok.bs b o e).1 (I.ok.bs b o e).2 (I.ok.nofr e) (I.ok.noex b o e), I.base.free b o (I.ok.bs b o e).1 (I.ok.bs b o e).2 (I.ok.noex b o e)⟩
theorem Inv.bk (I : Inv X pins σ H s) : ∀ b o, X.base.get? b = some o → s.heap.get? b = some o := fun b o e => (I.bs b o e).1
theorem Inv.mod (I : Inv X pins σ H s) : Mod X.K X.mg X.base := I.ok.mod
theorem Inv.kIn (I : Inv X pins σ H s) : X.K.In s.heap := I.ok.mod.kin.keeps I.bk
theorem Inv.fr (I : Inv X pins σ H s) : ∃ m, Fr X.base X.env.locals s.heap m :=
  let ⟨m, hn, _⟩ := I.loc
  ⟨m, hn, I.bk, Nat.le_trans I.ok.bsz I.ok.above⟩
theorem Inv.lt (I : Inv X pins σ H s) : X.env.locals < s.heap.objs.size := let ⟨_, hn, _⟩ := I.loc; hn.lt
theorem Inv.sz (I : Inv X pins σ H s) : X.s_0.heap.objs.size ≤ s.heap.objs.size := Nat.le_trans I.ok.above (Nat.le_of_lt I.lt)
theorem Inv.nofs (I : Inv X pins σ H s) {a : Addr} (h : s.heap.objs.size ≤ a) : a ∉ X.fs := fun hb => by
  obtain ⟨_, o, ho, _⟩ := I.ok.funs.mem hb
  exact absurd (Nat.lt_of_lt_of_le (Heap.lt_size ho) (Nat.le_trans I.sz h)) (Nat.lt_irrefl _)
theorem Inv.cne (I : Inv X pins σ H s) : ∀ x c, X.env.cells.lookup x = some c → c ≠ X.env.locals := fun x c e z => by
  obtain ⟨v, o, ho, hd⟩ := I.cell x c e
  obtain ⟨m, ⟨o', es, ep, ho', hd', _⟩, _⟩ := I.loc
  rw [z, ho'] at ho; cases ho; rw [hd'] at hd; cases hd
theorem Inv.funs (I : Inv X pins σ H s) : s.heap.FunFrames X.base X.outer := by
  have all : ∀ (l : List Env), (∀ b ∈ frs l, b ∈ X.fs) → X.s_0.heap.FunFrames X.base l → s.heap.FunFrames X.base l := by
    intro l
    induction l with
    | nil => intro _ _; trivial
    | cons env r ih =>
      intro hs hl
      obtain ⟨hk, ⟨L, o, hf, hn, ho, hd⟩, hr⟩ := hl
      have hL : L ∈ X.fs := hs L (by unfold frs; rw [List.filterMap_cons, hf]; exact List.mem_cons_self)
      obtain ⟨sl, e⟩ := I.base.slot L o ho (I.ok.frf L hL) hL fun z => I.ok.exfs L z hL
      exact ⟨hk, ⟨L, _, hf, hn, e, hd⟩, ih (fun b hb => hs b (by unfold frs; rw [List.filterMap_cons, hf]; exact List.mem_cons_of_mem _ hb)) hr⟩
  exact all X.outer (fun _ hb => hb) I.ok.funs
theorem Inv.stack (I : Inv X pins σ H s) : s.heap.FunFrames X.base X.stack := by
  rcases I.ok.stk with e | ⟨e, hf⟩
  · rw [e]; exact I.funs
  · rw [e]
    obtain ⟨m, hn, _⟩ := I.loc
    refine .cons (by rw [I.ok.kind]; decide) hf hn ?_ I.funs
    exact Heap.get?_none_of_le (Nat.le_trans I.ok.bsz I.ok.above)
theorem Inv.stkSub (I : Inv X pins σ H s) : ∀ b ∈ frs X.stack, b ∈ X.env.locals :: X.fs := fun b hb => by
  rcases I.ok.stk with e | ⟨e, hf⟩
  · rw [e] at hb; exact List.mem_cons_of_mem _ hb
  · rw [e] at hb
    unfold frs at hb
    rw [List.filterMap_cons, hf] at hb
    exact hb
theorem Inv.stkFree (I : Inv X pins σ H s) : ∀ b ∈ frs X.stack, H b = none := fun b hb => by
  rcases List.mem_cons.mp (I.stkSub b hb) with e | hb
  · rw [e]; exact I.free
  · obtain ⟨_, o, ho, _⟩ := I.ok.funs.mem hb
    exact I.base.free b o ho (I.ok.frf b hb) fun z => I.ok.exfs b z hb
theorem Inv.step {g' : Array GenState} {t' : Nat} {d' : Drawn} {ch : List Addr} (I : Inv X pins σ H s)
    (hch : ∀ b ∈ ch, (b ∈ X.ex ∨ X.s_0.heap.objs.size ≤ b) ∧ b ≠ X.env.locals ∧ (∀ x c, X.env.cells.lookup x = some c → c ≠ b) ∧ ∀ p ∈ X.pn ++ pins, p.1 ≠ b)
    (keep : ∀ b o, b ≠ X.env.locals → b ∉ X.fs → b ∉ ch → s.heap.get? b = some o → H b = none → h'.get? b = some o)
    (slot : ∀ b o, b ≠ X.env.locals → b ∈ X.fs → b ∉ ch → s.heap.get? b = some o → H b = none → ∃ sl, h'.get? b = some { o with slots := sl }) (free : ∀ b o, b ∉ ch → s.heap.get? b = some o → H b = none → H' b = none)
    (there : ∀ b o, b ∉ ch → s.heap.get? b = some o → ∃ o', h'.get? b = some o')
    (tups : ∀ b xs, H b = some (.tup xs) → H' b = some (.tup xs)) (frzs : ∀ b o u, H b = some (.frz o u) → H' b = some (.frz o u)) (tbls : ∀ b ps, H b = some (.tbl ps) → ∃ more, H' b = some (.tbl (ps ++ more)))
    (ns : ∀ m, s.heap.Ns X.env.locals m → h'.Ns X.env.locals m) (hok : HOk X.prog X.w H' h') (hg : AllBare g') :
    Inv X pins σ H' { s with heap := h', gens := g', drawn := d', toks := t' } := by
  have neL : ∀ b o, X.s_0.heap.get? b = some o → b ≠ X.env.locals := fun b o e => Nat.ne_of_lt (Nat.lt_of_lt_of_le (Heap.lt_size e) I.ok.above)
  have neC : ∀ b o, X.s_0.heap.get? b = some o → b ∉ X.ex → b ∉ ch := fun b o e hx hb => by
    rcases (hch b hb).1 with z | z
    · exact hx z
    · exact absurd (Nat.lt_of_lt_of_le (Heap.lt_size e) z) (Nat.lt_irrefl _)
  have cellK : ∀ x c, X.env.cells.lookup x = some c → ∀ v, s.heap.IsCell c v → h'.IsCell c v := fun x c e v ⟨o, ho, hd⟩ => by
    have nch : c ∉ ch := fun z => (hch c z).2.2.1 x c e rfl
    by_cases hc : c ∈ X.fs
    · obtain ⟨sl, q⟩ := slot c o (I.cne x c e) hc nch ho (I.freeC x c e)
      exact ⟨_, q, hd⟩
    · exact ⟨o, keep c o (I.cne x c e) hc nch ho (I.freeC x c e), hd⟩
  refine ⟨I.ok, I.os, hg, ⟨fun b o e n hb hx => ?_, fun b o e n hb hx => ?_, fun b o e n hx => ?_, fun b o e hx => ?_, fun b xs e => tups b xs (I.base.tups b xs e), fun b o xs e => frzs b o xs (I.base.frzs b o xs e), fun b ps e => ?_⟩, ?_, fun x c e => ?_, ?_, fun x c e => ?_, fun p hp => ?_, hok, I.len⟩
  · exact keep b o (neL b o e) hb (neC b o e hx) (I.base.keep b o e n hb hx) (I.base.free b o e n hx)
  · obtain ⟨sl, e1⟩ := I.base.slot b o e n hb hx
    obtain ⟨sl', e2⟩ := slot b _ (neL b o e) hb (neC b o e hx) e1 (I.base.free b o e n hx)
    exact ⟨sl', e2⟩
  · obtain ⟨o', e1⟩ := I.base.there b o e hx
    exact free b o' (neC b o e hx) e1 (I.base.free b o e n hx)
  · obtain ⟨o', e1⟩ := I.base.there b o e hx
    exact there b o' (neC b o e hx) e1
  · obtain ⟨m1, e1⟩ := I.base.tbls b ps e
    obtain ⟨m2, e2⟩ := tbls b _ e1
    exact ⟨m1 ++ m2, by rw [e2, Array.append_assoc]⟩
  · obtain ⟨m, hn, hl⟩ := I.loc
    refine ⟨m, ns m hn, fun i x v e1 e2 e3 => ?_⟩
    obtain ⟨u, r, l⟩ := hl i x v e1 e2 e3
    refine ⟨u, r, ?_⟩
    rcases l with l | ⟨k, c, e, z⟩
    · exact .inl l
    · exact .inr ⟨k, c, e, cellK x c e _ z⟩
  · obtain ⟨v, z⟩ := I.cell x c e
    exact ⟨v, cellK x c e v z⟩
  · obtain ⟨m, ⟨o, _, _, ho, _⟩, _⟩ := I.loc
    exact free _ o (fun z => (hch _ z).2.1 rfl) ho I.free
  · obtain ⟨v, o, ho, hd⟩ := I.cell x c e
    exact free c o (fun z => (hch c z).2.2.1 x c e rfl) ho (I.freeC x c e)
  · obtain ⟨e, n, ne, nf, d⟩ := I.pin p hp
    have nch : p.1 ∉ ch := fun z => (hch p.1 z).2.2.2 p hp rfl
    exact ⟨keep p.1 p.2 ne nf nch e n, free p.1 p.2 nch e n, ne, nf, d⟩
theorem Inv.un {t' : Nat} (I : Inv X pins σ H s) (u : Un X.fs [] H H' s.heap h') (hok : HOk X.prog X.w H' h') : Inv X pins σ H' { s with heap := h', toks := t' } := by
  obtain ⟨m, ⟨o, es, ep, ho, r⟩, _⟩ := id I.loc
  obtain ⟨sl, hL⟩ := u.any ho I.free (by simp)
  exact I.step (g' := s.gens) (d' := s.drawn) (ch := []) (fun _ z => nomatch z) (fun b o _ hb _ e n => u.keep b o e n hb (by simp)) (fun b o _ hb _ e n => u.slot b o e n hb (by simp)) (fun b o _ e n => u.free b o e n (by simp)) (fun b o _ e => u.there b o e (by simp)) u.tups u.frzs u.tbls (fun m' hm => by
    obtain ⟨o', es', ep', ho', r'⟩ := hm
    rw [ho] at ho'; cases ho'
    exact ⟨_, es', ep', hL, r'⟩) hok I.bare
theorem Inv.call {g' : Array GenState} {t' : Nat} {d' : Drawn} {ch : List Addr} (I : Inv X pins σ H s) (u : Un (frs X.stack) ch H H' s.heap h') (hok : HOk X.prog X.w H' h') (hg : AllBare g')
    (hch : ∀ b ∈ ch, (b ∈ X.ex ∨ X.s_0.heap.objs.size ≤ b) ∧ b ≠ X.env.locals ∧ (∀ x c, X.env.cells.lookup x = some c → c ≠ b) ∧ ∀ p ∈ X.pn ++ pins, p.1 ≠ b) :
    Inv X pins σ H' { s with heap := h', gens := g', drawn := d', toks := t' } := by
  obtain ⟨m, ⟨o, es, ep, ho, r⟩, _⟩ := id I.loc
  obtain ⟨sl, hL⟩ := u.any ho I.free fun z => (hch _ z).2.1 rfl
  exact I.step (ch := ch) hch (fun b o hL hb hc e n => u.keep b o e n (fun z => (List.mem_cons.mp (I.stkSub b z)).elim hL hb) hc) (fun b o _ _ hc e n => u.any e n hc) (fun b o hc e n => u.free b o e n hc) (fun b o hc e => u.there b o e hc) u.tups u.frzs u.tbls (fun m' hm => by
    obtain ⟨o', es', ep', ho', r'⟩ := hm
    rw [ho] at ho'; cases ho'
    exact ⟨_, es', ep', hL, r'⟩) hok hg
theorem Inv.turned {t' : Nat} {it : Addr} (I : Inv X pins σ H s) (k : ∀ b o, b ≠ it → s.heap.get? b = some o → h'.get? b = some o) (hn : H it = none) (hL : it ≠ X.env.locals)
    (h1 : it ∈ X.ex ∨ X.s_0.heap.objs.size ≤ it) (h2 : ∀ x c, X.env.cells.lookup x = some c → c ≠ it) (h3 : ∀ p ∈ X.pn ++ pins, p.1 ≠ it) : Inv X pins σ H { s with heap := h', toks := t' } := by
  have nit : ∀ b u, H b = some u → b ≠ it := fun b u e z => by rw [z, hn] at e; cases e
  refine I.step (g' := s.gens) (d' := s.drawn) (ch := [it]) (fun b hb => ?_) (fun b o _ _ hc e _ => k b o (fun z => hc (by simp [z])) e) (fun b o _ _ hc e _ => ⟨o.slots, k b o (fun z => hc (by simp [z])) e⟩) (fun _ _ _ _ n => n)
    (fun b o hc e => ⟨o, k b o (fun z => hc (by simp [z])) e⟩) (fun _ _ e => e) (fun _ _ _ e => e) (fun b ps e => ⟨#[], by rw [e]; simp⟩) (fun m hm => ?_) (fun b u e => ?_) I.bare
  · have e : b = it := by simpa using hb
    subst e
    exact ⟨h1, hL, h2, h3⟩
  · obtain ⟨o, es, ep, ho, r⟩ := hm
    exact ⟨o, es, ep, k _ o (Ne.symm hL) ho, r⟩
  · refine (I.hok b u e).stay (fun c v hc q => k c v ?_ q) (fun _ q => q) fun _ _ q => q
    rcases hc with z | z
    · rw [z]; exact nit b u e
    · exact nit c _ z
theorem Inv.tok (I : Inv X pins σ H s) (t : Nat) : Inv X pins σ H { s with toks := t } := I.un (h' := s.heap) (t' := t) Un.refl I.hok
theorem Inv.kept {t' : Nat} (I : Inv X pins σ H s) (k : ∀ b u, s.heap.get? b = some u → h'.get? b = some u) : Inv X pins σ H { s with heap := h', toks := t' } := I.un (Un.kept k) (I.hok.kept k)
theorem Inv.laid {a : Addr} {o : HO} {t' : Nat} (I : Inv X pins σ H s) (k : ∀ b u, s.heap.get? b = some u → h'.get? b = some u) (hp : s.heap.objs.size ≤ a) (new : ObjOk X.prog X.w (upd H a o) h' a o) :
    Inv X pins σ (upd H a o) { s with heap := h', toks := t' } := I.un (Un.laid k hp (I.hok.fresh hp)) (I.hok.laid k hp new)
theorem Inv.write {x e : Addr} {o : HO} {t' : Nat} (I : Inv X pins σ H s) (mu : Mut (H x)) (he : e = x ∨ H e = some (.own x)) (k : ∀ b u, b ≠ e → s.heap.get? b = some u → h'.get? b = some u) (heo : ∃ u, h'.get? e = some u)
    (new : ObjOk X.prog X.w (upd H x o) h' x o) : Inv X pins σ (upd H x o) { s with heap := h', toks := t' } := I.un (Un.write mu he k heo) (I.hok.write mu he k heo new)
theorem Inv.weak {σ' : List (Option V)} (I : Inv X pins σ H s) (hl : σ'.length = σ.length) (w : ∀ (i : Nat) v, σ'[i]? = some (some v) → σ[i]? = some (some v)) : Inv X pins σ' H s :=
  ⟨I.ok, I.os, I.bare, I.base, let ⟨m, hn, hl'⟩ := I.loc; ⟨m, hn, fun i x v e1 e2 e3 => hl' i x v e1 (w i v e2) e3⟩, I.cell, I.free, I.freeC, I.pin, I.hok, hl.trans I.len⟩
theorem Inv.pins_of {pins' : List (Addr × Obj)} (I : Inv X pins σ H s) (h : ∀ p ∈ pins', s.heap.get? p.1 = some p.2 ∧ H p.1 = none ∧ p.1 ≠ X.env.locals ∧ p.1 ∉ X.fs ∧ ∀ v, p.2.data ≠ .cell v) : Inv X pins' σ H s :=
  ⟨I.ok, I.os, I.bare, I.base, I.loc, I.cell, I.free, I.freeC, fun p hp => (List.mem_append.mp hp).elim (fun z => I.pin p (List.mem_append_left _ z)) (h p), I.hok, I.len⟩
theorem nodup_ix {N : List Str} (hN : N.Nodup) {i j : Nat} {x : Str} (a : N[i]? = some x) (b : N[j]? = some x) : i = j := by
  obtain ⟨h1, e1⟩ := List.getElem?_eq_some_iff.mp a
  obtain ⟨h2, e2⟩ := List.getElem?_eq_some_iff.mp b
  exact (List.getElem_inj hN).mp (e1.trans e2.symm)
theorem store_ok2 {M : Model} {A : Around} {E : Value → Shared → Prop} {i : Nat} {x : Str} {v : V} {u : Value} {Q : Unit → Shared → Prop} (I : Inv X pins σ H s) (hN : X.N.Nodup) (hi : X.N[i]? = some x) (hx : Loc X.env.scope x) (r : RelV v u)
    (h : ∀ s', Inv X pins (σ.set i (some v)) H s' → (∃ a, Heap.SameBut a s.heap s'.heap ∧ (a = X.env.locals ∨ X.env.cells.lookup x = some a)) → Q () s') (hf : X.fn x = true ∨ X.env.scope.names.lookup x = some .local := by first | exact .inl rfl | exact .inr rfl | assumption) : wpAny M A (storeName X.env x u) Q E s := by
  obtain ⟨m, hn, hl⟩ := id I.loc
  have hcls : (X.env.scope.kind == .class || (X.env.scope.kind == .module && X.env.locals != X.env.globals)) = false := by rw [I.ok.kind]; rfl
  have hiσ : i < σ.length := by rw [I.len]; exact (List.getElem?_eq_some_iff.mp hi).1
  have cne := I.cne
  have tracked : ∀ {a : Addr} {h' : Heap}, (∃ o, s.heap.get? a = some o ∧ H a = none) → Heap.SameBut a s.heap h' → HOk X.prog X.w H h' := fun {a h'} ha hs b ob e => by
    obtain ⟨_, _, hfree⟩ := ha
    refine (I.hok b ob e).stay (fun c w' hc q => (hs.2 c ?_).trans q) (fun _ q => q) fun _ _ q => q
    rintro rfl
    rcases hc with rfl | hc
    · rw [hfree] at e; cases e
    · rw [hfree] at hc; cases hc
  rcases hx with hk | hk
  · refine wpAny_storeName_local hk hn (fun h' hn' hs => ?_) hcls
    obtain ⟨oL, _, _, hoL, _⟩ := id hn
    refine h _ ⟨I.ok, I.os, I.bare, ⟨fun b o e n hb hx => ?_, fun b o e n hb hx => ?_, I.base.free, fun b o e hx => ?_, I.base.tups, I.base.frzs, I.base.tbls⟩, ⟨_, hn', fun j y v' e1 e2 e3 => ?_⟩, fun y c e => ?_, I.free, I.freeC, fun p hp => ?_, tracked ⟨oL, hoL, I.free⟩ hs, by simpa using I.len⟩ ⟨_, hs, .inl rfl⟩
    · exact (hs.2 b (Nat.ne_of_lt (Nat.lt_of_lt_of_le (Heap.lt_size e) I.ok.above))).trans (I.base.keep b o e n hb hx)
    · obtain ⟨sl, e1⟩ := I.base.slot b o e n hb hx
      exact ⟨sl, (hs.2 b (Nat.ne_of_lt (Nat.lt_of_lt_of_le (Heap.lt_size e) I.ok.above))).trans e1⟩
    · obtain ⟨o', e1⟩ := I.base.there b o e hx
      exact ⟨o', (hs.2 b (Nat.ne_of_lt (Nat.lt_of_lt_of_le (Heap.lt_size e) I.ok.above))).trans e1⟩
    · by_cases hj : j = i
      · subst hj
        rw [hi] at e1; cases e1
        rw [List.getElem?_set_self hiσ] at e2
        cases e2
        exact ⟨u, r, .inl ⟨hk, by simp⟩⟩
      · rw [List.getElem?_set_ne (Ne.symm hj)] at e2
        obtain ⟨u', r', q⟩ := hl j y v' e1 e2 e3
        refine ⟨u', r', ?_⟩
        rcases q with ⟨k, e⟩ | ⟨k, c, e, z⟩
        · refine .inl ⟨k, ?_⟩
          have : y ≠ x := fun e => hj (nodup_ix hN e1 (e ▸ hi))
          simp [this, e]
        · exact .inr ⟨k, c, e, z.sameBut hs (cne y c e)⟩
    · obtain ⟨w', z⟩ := I.cell y c e
      exact ⟨w', z.sameBut hs (cne y c e)⟩
    · obtain ⟨e, n, ne, nf, d⟩ := I.pin p hp
      exact ⟨(hs.2 p.1 ne).trans e, n, ne, nf, d⟩
  · have hfn : X.fn x = true := by
      rcases hf with z | z
      · exact z
      · rw [z] at hk; cases hk
    obtain ⟨c, hc⟩ := I.ok.has x (.inl hk)
    obtain ⟨w', z⟩ := I.cell x c hc
    refine wpAny_storeName_cell I.ok.kind hk hc z (fun h' hc' hs => ?_)
    obtain ⟨oc, hoc, hocd⟩ := id z
    refine h { s with heap := h' } ⟨I.ok, I.os, I.bare, ⟨fun b o e n hb hx => ?_, fun b o e n hb hx => ?_, I.base.free, fun b o e hx => ?_, I.base.tups, I.base.frzs, I.base.tbls⟩, ⟨m, hn.sameBut hs (Ne.symm (cne x c hc)), fun j y v' e1 e2 e3 => ?_⟩, fun y c' e => ?_, I.free, I.freeC, fun p hp => ?_, tracked ⟨oc, hoc, I.freeC x c hc⟩ hs, by simpa using I.len⟩ ⟨c, hs, .inr hc⟩
    · exact (hs.2 b (Nat.ne_of_lt (Nat.lt_of_lt_of_le (Heap.lt_size e) (I.ok.cab x c hfn hc)))).trans (I.base.keep b o e n hb hx)
    · obtain ⟨sl, e1⟩ := I.base.slot b o e n hb hx
      exact ⟨sl, (hs.2 b (Nat.ne_of_lt (Nat.lt_of_lt_of_le (Heap.lt_size e) (I.ok.cab x c hfn hc)))).trans e1⟩
    · obtain ⟨o', e1⟩ := I.base.there b o e hx
      exact ⟨o', (hs.2 b (Nat.ne_of_lt (Nat.lt_of_lt_of_le (Heap.lt_size e) (I.ok.cab x c hfn hc)))).trans e1⟩
    · by_cases hj : j = i
      · subst hj
        rw [hi] at e1; cases e1
        rw [List.getElem?_set_self hiσ] at e2
        cases e2
        exact ⟨u, r, .inr ⟨.inl hk, c, hc, hc'⟩⟩
      · rw [List.getElem?_set_ne (Ne.symm hj)] at e2
        obtain ⟨u', r', q⟩ := hl j y v' e1 e2 e3
        refine ⟨u', r', ?_⟩
        rcases q with q | ⟨k, c', e, z'⟩
        · exact .inl q
        · refine .inr ⟨k, c', e, z'.sameBut hs ?_⟩
          rintro rfl
          exact hj (nodup_ix hN e1 (I.ok.inj _ _ _ e hc ▸ hi))
    · by_cases hcc : c' = c
      · subst hcc; exact ⟨_, hc'⟩
      · obtain ⟨w2, z2⟩ := I.cell y c' e
        exact ⟨w2, z2.sameBut hs hcc⟩
    · obtain ⟨e, n, ne, nf, d⟩ := I.pin p hp
      refine ⟨(hs.2 p.1 ?_).trans e, n, ne, nf, d⟩
      intro q
      rw [q, hoc] at e
      have q' : oc = p.2 := Option.some.inj e
      exact d w' (by rw [← q']; exact hocd)
theorem store_ok {M : Model} {A : Around} {E : Value → Shared → Prop} {i : Nat} {x : Str} {v : V} {u : Value} {Q : Unit → Shared → Prop} (I : Inv X pins σ H s) (hN : X.N.Nodup) (hi : X.N[i]? = some x) (hx : Loc X.env.scope x) (r : RelV v u)
    (h : ∀ s', Inv X pins (σ.set i (some v)) H s' → Q () s') (hf : X.fn x = true ∨ X.env.scope.names.lookup x = some .local := by first | exact .inl rfl | exact .inr rfl | assumption) : wpAny M A (storeName X.env x u) Q E s :=
  store_ok2 I hN hi hx r (fun s' I' _ => h s' I') hf
theorem Inv.call' {s' : Shared} {ch : List Addr} (I : Inv X pins σ H s) (ho : s'.os = s.os) (u : Un (frs X.stack) ch H H' s.heap s'.heap) (hok : HOk X.prog X.w H' s'.heap) (hg : AllBare s'.gens)
    (hch : ∀ b ∈ ch, (b ∈ X.ex ∨ X.s_0.heap.objs.size ≤ b) ∧ b ≠ X.env.locals ∧ (∀ x c, X.env.cells.lookup x = some c → c ≠ b) ∧ ∀ p ∈ X.pn ++ pins, p.1 ≠ b) : Inv X pins σ H' s' := by
  obtain ⟨h', g', d', t', o'⟩ := s'
  have e : o' = s.os := ho
  subst e
  exact I.call (g' := g') (t' := t') (d' := d') u hok hg hch
end
noncomputable abbrev XK := Value → Option Addr → Hp → Prop
noncomputable abbrev St := List (Option V)
noncomputable abbrev VK := V → Hp → Prop
noncomputable abbrev TE := St → Hp → VK → Prop
noncomputable abbrev TT := St → Hp → (Bool → Hp → Prop) → Prop
noncomputable abbrev TA := St → Hp → (List V → Hp → Prop) → Prop
structure Ends where
  nx : St → Hp → Prop
  rt : VK
  bk : St → Hp → Prop := fun _ _ => False
  ct : St → Hp → Prop := fun _ _ => False
noncomputable abbrev TS := Ends → St → Hp → Prop
noncomputable def EP (X : Cx) (pins : List (Addr × Obj)) (σ : St) (Q : VK) (u : Value) (s' : Shared) : Prop := ∃ v H', Inv X pins σ H' s' ∧ RelV v u ∧ Q v H'
noncomputable def TP (X : Cx) (pins : List (Addr × Obj)) (σ : St) (Q : Bool → Hp → Prop) (b : Bool) (s' : Shared) : Prop := ∃ H', Inv X pins σ H' s' ∧ Q b H'
noncomputable def AP (X : Cx) (pins : List (Addr × Obj)) (σ : St) (Q : List V → Hp → Prop) (us : List Value) (s' : Shared) : Prop := ∃ vs H', Inv X pins σ H' s' ∧ Vals vs us ∧ Q vs H'
noncomputable def SP (X : Cx) (pins : List (Addr × Obj)) (D : Ends) (f : Flow) (s' : Shared) : Prop :=
  match f with
  | .next => ∃ σ' H', Inv X pins σ' H' s' ∧ D.nx σ' H'
  | .brk => ∃ σ' H', Inv X pins σ' H' s' ∧ D.bk σ' H'
  | .cont => ∃ σ' H', Inv X pins σ' H' s' ∧ D.ct σ' H'
  | .ret u => ∃ v σ' H', Inv X pins σ' H' s' ∧ RelV v u ∧ D.rt v H'
noncomputable def PE (X : Cx) (e : Expr) (t : TE) : Prop :=
  ∀ (pins : List (Addr × Obj)) (s : Shared) (σ : St) (H : Hp) (Q : VK), Inv X pins σ H s → t σ H Q → wpAny (model X.prog X.w) X.A (eval e X.env) (EP X pins σ Q) X.xe s
noncomputable def PT (X : Cx) (e : Expr) (t : TT) : Prop :=
  ∀ (pins : List (Addr × Obj)) (s : Shared) (σ : St) (H : Hp) (Q : Bool → Hp → Prop), Inv X pins σ H s → t σ H Q → wpAny (model X.prog X.w) X.A (isTrue e X.env (eval e X.env)) (TP X pins σ Q) X.xe s
noncomputable def PW (X : Cx) (e : Expr) (t : TT) : Prop :=
  ∀ (whole : Sem Value) (pins : List (Addr × Obj)) (s : Shared) (σ : St) (H : Hp) (Q : Bool → Hp → Prop), Inv X pins σ H s → t σ H Q → wpAny (model X.prog X.w) X.A (isTrue e X.env whole) (TP X pins σ Q) X.xe s
theorem PW.pt {X : Cx} {e : Expr} {t : TT} (h : PW X e t) : PT X e t := h _
noncomputable def PA (X : Cx) (es : List Expr) (t : TA) : Prop :=
  ∀ (pos : Pos) (pins : List (Addr × Obj)) (s : Shared) (σ : St) (H : Hp) (Q : List V → Hp → Prop), Inv X pins σ H s → t σ H Q → wpAny (model X.prog X.w) X.A (spliced (backTo pos (starEach es X.env))) (AP X pins σ Q) X.xe s
noncomputable def PS (X : Cx) (st : Stmt) (t : TS) : Prop :=
  ∀ (pins : List (Addr × Obj)) (s : Shared) (σ : St) (H : Hp) (D : Ends), Inv X pins σ H s → t D σ H → wpAny (model X.prog X.w) X.A (exec st X.env) (SP X pins D) X.xe s
noncomputable def PSs (X : Cx) (st : List Stmt) (t : TS) : Prop :=
  ∀ (pins : List (Addr × Obj)) (s : Shared) (σ : St) (H : Hp) (D : Ends), Inv X pins σ H s → t D σ H → wpAny (model X.prog X.w) X.A (execs st X.env) (SP X pins D) X.xe s
theorem thn {α : Type} {t : Sem α} {Q Q' : α → Shared → Prop} {M : Model} {A : Around} {E : Value → Shared → Prop} {s : Shared} (h : wpAny M A t Q E s) (hQ : ∀ a s, Q a s → Q' a s) : wpAny M A t Q' E s := wpAny_mono h hQ fun _ _ x => x
end L2
namespace L2
open PySem PySem.Spec PyProof.Rows
section
variable {X : Cx}
theorem bin {a b : Expr} {ta tb : TE} (ha : PE X a ta) (hb : PE X b tb) {pins : List (Addr × Obj)} {s : Shared} {σ : St} {H : Hp} {R : V → V → Hp → Prop} (I : Inv X pins σ H s) (h : ta σ H fun x H1 => tb σ H1 fun y H2 => R x y H2)
    {α : Type} {Q : α → Shared → Prop} {f : Value → Value → Sem α}
    (hf : ∀ v u s2 x y H2, Inv X pins σ H2 s2 → RelV x v → RelV y u → R x y H2 → wpAny (model X.prog X.w) X.A (f v u) Q X.xe s2) :
    wpAny (model X.prog X.w) X.A (eval a X.env) (fun v s₁ => wpAny (model X.prog X.w) X.A (eval b X.env) (fun u s₂ => wpAny (model X.prog X.w) X.A (f v u) Q X.xe s₂) X.xe s₁) X.xe s := by
  refine thn (ha pins s σ H _ I h) fun v s1 ⟨x, H1, I1, r1, q1⟩ => ?_
  refine thn (hb pins s1 σ H1 _ I1 q1) fun u s2 ⟨y, H2, I2, r2, q2⟩ => ?_
  exact hf v u s2 x y H2 I2 r1 r2 q2
noncomputable def tVar (i : Nat) : TE := fun σ H Q => ∃ v, σ[i]? = some (some v) ∧ Q v H
noncomputable def tC (v : V) : TE := fun _ H Q => Q v H
theorem pe_var {i : Nat} {x : Str} {pos : Pos} (hN : X.N[i]? = some x) (hv : Vis X.env.scope x) (hd : (x == ("__debug__" : Str)) = false := by decide) (hcd : (x == ("__classdict__" : Str)) = false := by decide) : PE X (.Name x pos) (tVar i) := by
  intro pins s σ H Q I h
  obtain ⟨v, e, h⟩ := h
  obtain ⟨m, hn, hl⟩ := I.loc
  obtain ⟨u, r, l⟩ := hl i x v hN e hv
  have fin : EP X pins σ Q u s := ⟨v, H, I, r, h⟩
  rcases l with ⟨hk, hm⟩ | ⟨hk, c, hc, hcell⟩
  · exact wpAny_Name (wpAny_loadName_local I.ok.kind hk hn hm fin) hd
  · rcases hk with hk | hk
    · exact wpAny_Name (wpAny_loadName_cell I.ok.kind hk hc hcell fin) hd
    · exact wpAny_Name (wpAny_loadName_free I.ok.kind hk hc hcell fin hcd) hd
theorem pe_int {i j pos} : PE X (.Constant (.int i) j pos) (tC (.int i)) := fun _ _ _ H _ I h => wpAny_Constant_int ⟨.int i, H, I.tok _, ⟨_, rfl⟩, h⟩
theorem pe_bl {b j pos} : PE X (.Constant (.bool b) j pos) (tC (.bl b)) := fun _ _ _ H _ I h => Constant_bool ⟨.bl b, H, I, rfl, h⟩
theorem pe_non {j pos} : PE X (.Constant .none j pos) (tC .non) := fun _ _ _ H _ I h => Constant_none ⟨.non, H, I, rfl, h⟩
noncomputable def Gl (X : Cx) (x : Str) : Prop := X.env.kindOf x = some .globalImplicit
theorem ld_glob {E : Value → Shared → Prop} {pins : List (Addr × Obj)} {s : Shared} {σ : St} {H : Hp} {x : Str} {u : Value} {pos : Pos} {Q : Value → Shared → Prop} (I : Inv X pins σ H s) (hg : Gl X x) (hm : X.mg x = some u) (h : Q u s)
    (hd : (x == ("__debug__" : Str)) = false := by decide) : wpAny (model X.prog X.w) X.A (eval (.Name x pos) X.env) Q E s :=
  Calls.Name_function_global I.ok.kind hg (Calls.loadGlobal_global (by rw [I.ok.glob]; exact I.mod.glob.keeps I.bk) hm h) hd
theorem ld_blt {E : Value → Shared → Prop} {pins : List (Addr × Obj)} {s : Shared} {σ : St} {H : Hp} {x : Str} {u : Value} {pos : Pos} {Q : Value → Shared → Prop} (I : Inv X pins σ H s) (hg : Gl X x) (hm : X.mg x = none) (hv : bootBuiltins x = some u) (h : Q u s)
    (hn : x ≠ "__name__" := by decide) (hd : (x == ("__debug__" : Str)) = false := by decide) : wpAny (model X.prog X.w) X.A (eval (.Name x pos) X.env) Q E s := by
  obtain ⟨mb, h1, h2⟩ := I.mod.blt
  exact Calls.Name_function_global I.ok.kind hg (Calls.loadGlobal_builtin (by rw [I.ok.glob]; exact I.mod.glob.keeps I.bk) hm (by rw [I.ok.blt]; exact h1.keeps I.bk) ((h2 x hn).trans hv) h) hd
theorem pe_glob {x : Str} {v : V} {u : Value} {pos : Pos} (hg : Gl X x) (hm : X.mg x = some u) (r : RelV v u) (hd : (x == ("__debug__" : Str)) = false := by decide) : PE X (.Name x pos) (tC v) :=
  fun _ _ _ H _ I h => ld_glob I hg hm ⟨v, H, I, r, h⟩ hd
variable {a b : Expr} {ta tb : TE} {pos : Pos}
noncomputable def PC (X : Cx) (op : CmpOp) (a b : Expr) (t : TE) : Prop :=
  ∀ (pins : List (Addr × Obj)) (s : Shared) (σ : St) (H : Hp) (Q : VK), Inv X pins σ H s → t σ H Q →
    wpAny (model X.prog X.w) X.A (eval a X.env) (fun v s₁ => wpAny (model X.prog X.w) X.A (eval b X.env) (fun u s₂ => wpAny (model X.prog X.w) X.A (compareOp op v u) (EP X pins σ Q) X.xe s₂) X.xe s₁) X.xe s
theorem nobehind (b : Expr) {op : CmpOp} (h : op ≠ .In) (h2 : op ≠ .NotIn) : behindInMarks op b = false := by
  have e1 : (op == CmpOp.In) = false := by cases op <;> first | rfl | exact absurd rfl h
  have e2 : (op == CmpOp.NotIn) = false := by cases op <;> first | rfl | exact absurd rfl h2
  cases b <;> simp [behindInMarks, e1, e2]
noncomputable def tIsN (ta : TE) : TE := fun σ H Q => ta σ H fun x H1 => Q (.bl (decide (x = .non))) H1
theorem RelV.none_iff {x : V} {v : Value} (r : RelV x v) : (v == Value.none) = decide (x = .non) := by
  cases x with
  | non => cases r; rfl
  | bl _ => cases r; rfl
  | int _ => obtain ⟨t, rfl⟩ := r; rfl
  | str _ => obtain ⟨t, rfl⟩ := r; rfl
  | byt _ => obtain ⟨t, rfl⟩ := r; rfl
  | flt _ => obtain ⟨t, rfl⟩ := r; rfl
  | ref _ => cases r; rfl
  | ty _ => cases r; rfl
theorem pc_isN {j pos'} (ha : PE X a ta) : PC X .Is a (.Constant .none j pos') (tIsN ta) := by
  intro pins s σ H Q I h
  refine thn (ha pins s σ H _ I h) fun v s1 ⟨x, H1, I1, r1, q1⟩ => ?_
  exact Constant_none (is_none_gen ⟨.bl _, H1, I1, by rw [r1.none_iff]; rfl, q1⟩)
noncomputable def tB (t : TE) : TT := fun σ H Q => t σ H fun x H1 => ∃ c, x = .bl c ∧ Q c H1
theorem pt_cmp {op : CmpOp} {t : TE} (h : PC X op a b t) (h1 : behindInMarks op b = false := by first | exact nobehind _ (by decide) (by decide) | rfl) : PT X (.Compare a [op] [b] pos) (tB t) := by
  intro pins s σ H Q I hw
  refine wpAny_isTrue_Compare1 (thn (h pins s σ H _ I hw) fun v s1 h1 => thn h1 fun u s2 h2 => thn h2 fun c s3 ⟨x, H1, I1, r1, q1⟩ => ?_) h1
  obtain ⟨d, rfl, q⟩ := q1
  cases r1
  exact wpAny_truthy_bool ⟨H1, I1, q⟩
theorem pt_val {e : Expr} {t : TE} (h : PE X e t) (he : ∀ whole, isTrue e X.env whole = (do let v ← whole; standAt e.pos; holding [v] (truthy v)) := by intro _; rfl) : PT X e (tB t) := by
  intro pins s σ H Q I hw
  refine isTrue_plain (thn (h pins s σ H _ I hw) fun v s1 ⟨x, H1, I1, r1, q1⟩ => ?_) (he _)
  obtain ⟨d, rfl, q⟩ := q1
  cases r1
  exact wpAny_truthy_bool ⟨H1, I1, q⟩
variable {tA tB' : TT} {rest : List Expr}
noncomputable def tOr (t u : TT) : TT := fun σ H Q => t σ H fun c H1 => if c = true then Q true H1 else u σ H1 Q
noncomputable def tNot (t : TT) : TT := fun σ H Q => t σ H fun c H1 => Q (!c) H1
theorem pw_or1 (ha : PT X a tA) : PW X (.BoolOp .Or [a] pos) tA := by
  intro wh pins s σ H Q I h
  refine isTrue_or (thn (ha pins s σ H Q I h) fun c s1 e => ?_)
  cases c with
  | false => exact isTrue_or_nil e
  | true => exact e
theorem pw_or (ha : PT X a tA) (hb : PW X (.BoolOp .Or (b :: rest) pos) tB') : PW X (.BoolOp .Or (a :: b :: rest) pos) (tOr tA tB') := by
  intro wh pins s σ H Q I h
  refine isTrue_or (thn (ha pins s σ H _ I h) fun c s1 ⟨H1, I1, q1⟩ => ?_)
  cases c with
  | true => exact ⟨H1, I1, q1⟩
  | false => exact hb wh pins s1 σ H1 Q I1 q1
theorem pt_not (ha : PT X a tA) : PT X (.UnaryOp .Not a pos) (tNot tA) := by
  intro pins s σ H Q I h
  exact isTrue_not (ha pins s σ H (fun c H1 => Q (!c) H1) I h)
noncomputable def tIf (t : TT) (ta tb : TE) : TE := fun σ H Q => t σ H fun c H1 => if c = true then ta σ H1 Q else tb σ H1 Q
theorem pe_ifExp {c : Expr} (hc : PT X c tA) (ha : PE X a ta) (hb : PE X b tb) : PE X (.IfExp c a b pos) (tIf tA ta tb) := by
  intro pins s σ H Q I h
  refine wpAny_IfExp (thn (hc pins s σ H _ I h) fun d s1 ⟨H1, I1, q1⟩ => ?_)
  cases d with
  | true => exact ha pins s1 σ H1 Q I1 q1
  | false => exact hb pins s1 σ H1 Q I1 q1
end
end L2
namespace L2
open PySem PySem.Spec PyProof.Rows
noncomputable def SqL (K : PySem.W.Frag) (H : Hp) (a : Addr) (xs : List V) : Prop :=
  Rd H a (.lst xs) ∨
    ∃ (o : Obj) (its : Array Value) (n : Nat), K.lookup a = some o ∧ o.cls = .type "list" ∧ o.dict = none ∧ o.data = .seq its n ∧ its.size ≤ sizeLine ∧ Vals xs its.toList
noncomputable def SqT (K : PySem.W.Frag) (H : Hp) (a : Addr) (xs : List V) : Prop :=
  Rd H a (.tup xs) ∨
    ∃ (o : Obj) (its : Array Value) (n : Nat), K.lookup a = some o ∧ o.cls = .type "tuple" ∧ o.data = .seq its n ∧ its.size ≤ sizeLine ∧ Vals xs its.toList
noncomputable def absV : Value → Option V
  | .none => some .non
  | .bool b => some (.bl b)
  | .int i _ => some (.int i)
  | .str x _ => some (.str x)
  | .bytes b _ => some (.byt b)
  | .float b _ => some (.flt b)
  | .ref a => some (.ref a)
  | .type n => some (.ty n)
  | _ => none
theorem RelV.abs {x : V} {u : Value} (r : RelV x u) : absV u = some x := by
  cases x with
  | non => cases r; rfl
  | bl _ => cases r; rfl
  | int _ => obtain ⟨t, rfl⟩ := r; rfl
  | str _ => obtain ⟨t, rfl⟩ := r; rfl
  | byt _ => obtain ⟨t, rfl⟩ := r; rfl
  | flt _ => obtain ⟨t, rfl⟩ := r; rfl
  | ref _ => cases r; rfl
  | ty _ => cases r; rfl
theorem RelV.inj {x y : V} {u : Value} (r : RelV x u) (q : RelV y u) : x = y := Option.some.inj (r.abs.symm.trans q.abs)
theorem Vals.inj : ∀ {xs ys : List V} {us : List Value}, Vals xs us → Vals ys us → xs = ys
  | _, _, _, .nil, .nil => rfl
  | _, _, _, .cons r t, .cons r' t' => by rw [r.inj r', Vals.inj t t']
section
variable {X : Cx} {pins : List (Addr × Obj)} {σ : St} {H : Hp} {s : Shared} {a : Addr} {xs ys : List V}
theorem SqL.of {K : PySem.W.Frag} (h : H a = some (.lst xs)) : SqL K H a xs := .inl (.inl h)
theorem SqT.of {K : PySem.W.Frag} (h : H a = some (.tup xs)) : SqT K H a xs := .inl (.inl h)
theorem Inv.list (I : Inv X pins σ H s) (h : SqL X.K H a xs) : ∃ its : List Value, Vals xs its ∧ PlainL s.heap a its.toArray ∧ xs.length ≤ sizeLine := by
  rcases h with h | ⟨o, its, n, hk, hc, hd, hs, hz, r⟩
  · obtain ⟨z, its, n, r, e⟩ := h.ok I.hok
    exact ⟨its, r, ⟨_, n, e, rfl, rfl, rfl⟩, z⟩
  · refine ⟨its.toList, r, ⟨o, n, I.kIn a o hk, hc, hd, by simpa using hs⟩, ?_⟩
    have e := r.length
    simp only [Array.length_toList] at e
    omega
theorem Inv.tuple (I : Inv X pins σ H s) (h : SqT X.K H a xs) : ∃ its : List Value, Vals xs its ∧ IsTup s.heap a its.toArray ∧ xs.length ≤ sizeLine := by
  rcases h with h | ⟨o, its, n, hk, hc, hs, hz, r⟩
  · obtain ⟨z, its, r, p⟩ := h.ok I.hok
    exact ⟨its, r, p, z⟩
  · refine ⟨its.toList, r, ⟨o, I.kIn a o hk, hc, n, by simpa using hs⟩, ?_⟩
    have e := r.length
    simp only [Array.length_toList] at e
    omega
theorem Inv.list_inj (I : Inv X pins σ H s) (h : SqL X.K H a xs) (h' : SqL X.K H a ys) : xs = ys := by
  obtain ⟨its, r, ⟨o, n, e, _, _, d⟩, _⟩ := I.list h
  obtain ⟨its', r', ⟨o', n', e', _, _, d'⟩, _⟩ := I.list h'
  rw [e] at e'; cases e'
  rw [d] at d'
  injection d' with d1 _
  have : its = its' := by simpa using congrArg Array.toList d1
  subst this
  exact r.inj r'
theorem Inv.tuple_inj (I : Inv X pins σ H s) (h : SqT X.K H a xs) (h' : SqT X.K H a ys) : xs = ys := by
  obtain ⟨its, r, ⟨o, e, _, n, d⟩, _⟩ := I.tuple h
  obtain ⟨its', r', ⟨o', e', _, n', d'⟩, _⟩ := I.tuple h'
  rw [e] at e'; cases e'
  rw [d] at d'
  injection d' with d1 _
  have : its = its' := by simpa using congrArg Array.toList d1
  subst this
  exact r.inj r'
end
noncomputable abbrev Cx.wish (X : Cx) (E : Value → Shared → Prop) : Cx := { X with xe := E }
noncomputable abbrev Cx.nox (X : Cx) : Cx := X.wish fun _ _ => False
theorem Cx.Ok.wish {X : Cx} (ok : X.Ok) (E : Value → Shared → Prop) : (X.wish E).Ok :=
  ⟨ok.mod, ok.kind, ok.glob, ok.blt, ok.above, ok.inj, ok.has, ok.cab, ok.hd, ok.frames, ok.stk, ok.exf, ok.bs, ok.bsz, ok.noex, ok.exfs, ok.funs, ok.frf⟩
theorem Cx.Ok.unwish {X : Cx} {E : Value → Shared → Prop} (ok : (X.wish E).Ok) : X.Ok :=
  ⟨ok.mod, ok.kind, ok.glob, ok.blt, ok.above, ok.inj, ok.has, ok.cab, ok.hd, ok.frames, ok.stk, ok.exf, ok.bs, ok.bsz, ok.noex, ok.exfs, ok.funs, ok.frf⟩
section
variable {X : Cx} {pins : List (Addr × Obj)} {σ : St} {H : Hp} {s : Shared} {E : Value → Shared → Prop}
theorem Inv.wish (I : Inv X pins σ H s) (E : Value → Shared → Prop) : Inv (X.wish E) pins σ H s := ⟨I.ok.wish E, I.os, I.bare, I.base, I.loc, I.cell, I.free, I.freeC, I.pin, I.hok, I.len⟩
theorem Inv.unwish (I : Inv (X.wish E) pins σ H s) : Inv X pins σ H s := ⟨I.ok.unwish, I.os, I.bare, I.base, I.loc, I.cell, I.free, I.freeC, I.pin, I.hok, I.len⟩
theorem SP.unwish {D : Ends} {f : Flow} {s' : Shared} (h : SP (X.wish E) pins D f s') : SP X pins D f s' := by
  cases f with
  | next => obtain ⟨σ', H', I, q⟩ := h; exact ⟨σ', H', I.unwish, q⟩
  | brk => obtain ⟨σ', H', I, q⟩ := h; exact ⟨σ', H', I.unwish, q⟩
  | cont => obtain ⟨σ', H', I, q⟩ := h; exact ⟨σ', H', I.unwish, q⟩
  | ret u => obtain ⟨v, σ', H', I, r, q⟩ := h; exact ⟨v, σ', H', I.unwish, r, q⟩
theorem PSs.nox {st : List Stmt} {t : TS} (h : PSs X.nox st t) : PSs X st t := fun pins s σ H D I hw =>
  wpAny_mono (h pins s σ H D (I.wish _) hw) (fun _ _ q => q.unwish) fun _ _ z => False.elim z
end
section
variable {X : Cx} {st : Stmt} {rest : List Stmt} {t u : TS} {e : Expr} {te : TE} {pos : Pos}
noncomputable def tNext : TS := fun D σ H => D.nx σ H
noncomputable def tSeq (t u : TS) : TS := fun D σ H => t { D with nx := u D } σ H
theorem pss_nil : PSs X [] tNext := fun _ _ σ H _ I h => wpAny_execs_nil ⟨σ, H, I, h⟩
theorem pss_cons (h1 : PS X st t) (h2 : PSs X rest u) : PSs X (st :: rest) (tSeq t u) := by
  intro pins s σ H D I h
  refine wpAny_execs_cons (thn (h1 pins s σ H { D with nx := u D } I h) fun f s1 q => ?_)
  cases f with
  | next =>
    obtain ⟨σ', H', I', q⟩ := q
    exact h2 pins s1 σ' H' D I' q
  | ret v => exact q
  | brk => exact q
  | cont => exact q
theorem pss_one (h1 : PS X st t) : PSs X [st] t := by
  intro pins s σ H D I h
  refine wpAny_execs_cons (thn (h1 pins s σ H D I h) fun f s1 q => ?_)
  cases f with
  | next => exact wpAny_execs_nil q
  | ret v => exact q
  | brk => exact q
  | cont => exact q
theorem Inv.quiet {pins : List (Addr × Obj)} {σ : St} {H : Hp} {s : Shared} (I : Inv X pins σ H s) : interactive X.env = false := by simp [interactive, I.ok.kind]
noncomputable def tDrop (te : TE) : TS := fun D σ H => te σ H fun _ H1 => D.nx σ H1
theorem ps_expr (he : PE X e te) (hs : swapsWith e none pos.line X.env = pure false := by rfl) : PS X (.Expr e pos) (tDrop te) := by
  intro pins s σ H D I h
  exact wpAny_Expr_any (thn (he pins s σ H _ I h) fun v s1 ⟨x, H1, I1, r1, q1⟩ => ⟨σ, H1, I1, q1⟩) I.quiet hs
noncomputable def tRet (te : TE) : TS := fun D σ H => te σ H D.rt
theorem ps_ret (he : PE X e te) : PS X (.Return (some e) pos) (tRet te) := by
  intro pins s σ H D I h
  exact wpAny_Return_some (thn (he pins s σ H _ I h) fun v s1 ⟨x, H1, I1, r1, q1⟩ => ⟨x, σ, H1, I1, r1, q1⟩)
noncomputable def tIfS (c : TT) (t u : TS) : TS := fun D σ H => c σ H fun b H1 => if b = true then t D σ H1 else u D σ H1
theorem ps_if {c : Expr} {a b : List Stmt} {tc : TT} (hc : PT X c tc) (ha : PSs X a t) (hb : PSs X b u) : PS X (.If c a b pos) (tIfS tc t u) := by
  intro pins s σ H D I h
  refine wpAny_If (thn (hc pins s σ H _ I h) fun d s1 ⟨H1, I1, q1⟩ => ?_)
  cases d with
  | true => exact ha pins s1 σ H1 D I1 q1
  | false => exact hb pins s1 σ H1 D I1 q1
noncomputable def tNever : TS := fun _ _ _ => False
theorem pss_never {sts : List Stmt} : PSs X sts tNever := fun _ _ _ _ _ _ h => h.elim
end
noncomputable abbrev TG := V → St → Hp → (St → Hp → Prop) → Prop
noncomputable abbrev TGs := List V → St → Hp → (St → Hp → Prop) → Prop
noncomputable def PG (X : Cx) (target : Expr) (t : TG) : Prop :=
  ∀ (pins : List (Addr × Obj)) (s : Shared) (σ : St) (H : Hp) (v : V) (u : Value) (Q : St → Hp → Prop), Inv X pins σ H s → RelV v u → t v σ H Q →
    wpAny (model X.prog X.w) X.A (assign target X.env u) (fun _ s' => ∃ σ' H', Inv X pins σ' H' s' ∧ Q σ' H') X.xe s
noncomputable def PGs (X : Cx) (ts : List Expr) (t : TGs) : Prop :=
  ∀ (pins : List (Addr × Obj)) (s : Shared) (σ : St) (H : Hp) (vs : List V) (us : List Value) (Q : St → Hp → Prop), Inv X pins σ H s → Vals vs us → t vs σ H Q →
    wpAny (model X.prog X.w) X.A (assignInOrder ((assignEach ts X.env).map (·.2)) us) (fun _ s' => ∃ σ' H', Inv X pins σ' H' s' ∧ Q σ' H') X.xe s
section
variable {X : Cx} {pos : Pos}
noncomputable def gName (i : Nat) : TG := fun v σ H Q => Q (σ.set i (some v)) H
theorem pg_name {i : Nat} {x : Str} (hN : X.N.Nodup) (hi : X.N[i]? = some x) (hx : Loc X.env.scope x) (hf : X.fn x = true ∨ X.env.scope.names.lookup x = some .local := by first | exact .inl rfl | exact .inr rfl | assumption) : PG X (.Name x pos) (gName i) := by
  intro pins s σ H v u Q I r h
  exact wpAny_assign_Name (store_ok I hN hi hx r (fun s' I' => ⟨_, H, I', h⟩) hf)
noncomputable def gNil : TGs := fun vs σ H Q => vs = [] ∧ Q σ H
noncomputable def gCons (t : TG) (u : TGs) : TGs := fun vs σ H Q => ∃ v r, vs = v :: r ∧ t v σ H fun σ' H' => u r σ' H' Q
theorem pgs_nil : PGs X [] gNil := by
  intro pins s σ H vs us Q I r h
  obtain ⟨e, h⟩ := h
  subst e
  cases r
  exact assignInOrder_nil ⟨σ, H, I, h⟩
theorem pgs_cons {e : Expr} {es : List Expr} {t : TG} {u : TGs} (h1 : PG X e t) (h2 : PGs X es u)
    (hs : (assignEach (e :: es) X.env).map (·.2) = assign e X.env :: (assignEach es X.env).map (·.2) := by rfl) : PGs X (e :: es) (gCons t u) := by
  intro pins s σ H vs us Q I r h
  obtain ⟨v, vr, e1, h⟩ := h
  subst e1
  cases r with
  | cons r rr =>
    rw [hs]
    refine assignInOrder_cons (thn (h1 pins s σ H _ _ _ I r h) fun _ s1 ⟨σ1, H1, I1, q1⟩ => ?_)
    exact h2 pins s1 σ1 H1 _ _ Q I1 rr q1
noncomputable def gTup (K : PySem.W.Frag) (n : Nat) (t : TGs) : TG := fun v σ H Q => ∃ a xs, v = .ref a ∧ SqT K H a xs ∧ xs.length = n ∧ t xs σ H Q
theorem pg_tup {es : List Expr} {k : Nat} {t : TGs} {n : Nat} (hc : X.calm = true) (h : PGs X es t)
    (hn : (assignEach es X.env).length = n := by rfl) (hst : (assignEach es X.env).findIdx? (·.1) = none := by rfl) : PG X (.Tuple es k pos) (gTup X.K n t) := by
  intro pins s σ H v u Q I r hw
  obtain ⟨a, xs, e1, hq, hl, hw⟩ := hw
  subst e1
  cases r
  obtain ⟨its, rv, ht, hz⟩ := I.tuple hq
  refine assign_Tuple_tuple (I.ok.hd hc) ht (by simp [hn, ← hl, rv.length]) hst fun h' hx => ?_
  have I1 : Inv X pins σ H { s with heap := h' } := I.kept (t' := s.toks) fun b o e => hx b o (Nat.ne_of_lt (Heap.lt_size e)) e
  exact h pins _ σ H xs _ Q I1 (by simpa using rv) hw
noncomputable def tAsg (te : TE) (g : TG) : TS := fun D σ H => te σ H fun x H1 => g x σ H1 D.nx
theorem ps_set {i : Nat} {x : Str} {e : Expr} {te : TE} {pos' : Pos} (hN : X.N.Nodup) (hi : X.N[i]? = some x) (hx : Loc X.env.scope x) (he : PE X e te) (hs : swapsWith e (some (.Name x pos')) pos.line X.env = pure false := by rfl) (hf : X.fn x = true ∨ X.env.scope.names.lookup x = some .local := by first | exact .inl rfl | exact .inr rfl | assumption) :
    PS X (.Assign [.Name x pos'] e pos) (tAsg te (gName i)) := by
  intro pins s σ H D I h
  refine wpAny_Assign_Name (thn (he pins s σ H _ I h) fun v s1 ⟨y, H1, I1, r1, q1⟩ => ?_) hs
  exact store_ok I1 hN hi hx r1 (fun s2 I2 => ⟨_, H1, I2, q1⟩) hf
end
section
variable {X : Cx} {pos : Pos}
noncomputable def tWhile (c : TT) (tb : TS) : TS := fun D σ H => ∃ W : Nat → St → Hp → Prop, (∃ m, W m σ H) ∧ ∀ m σ H, W m σ H →
  c σ H fun b H1 => if b = true then ∃ N : St → Hp → Prop, (∀ σ' H', N σ' H' → ∃ m', m' < m ∧ W m' σ' H') ∧ tb { D with nx := N, ct := N, bk := D.nx } σ H1 else D.nx σ H1
theorem ps_while {c : Expr} {body : List Stmt} {tc : TT} {tb : TS} (hp : PassesOwn (model X.prog X.w) X.A X.env X.xe) (hc : PT X c tc) (hb : PSs X body tb) : PS X (.While c body [] pos) (tWhile tc tb) := by
  intro pins s σ H D I h
  obtain ⟨W, ⟨m0, w0⟩, turn⟩ := h
  refine wpAny_While (codeAny_whileLoop (fun n s' => ∃ σ' H', Inv X pins σ' H' s' ∧ W n σ' H') ?_ m0 ⟨σ, H, I, w0⟩)
  rintro n s1 ⟨σ1, H1, I1, w1⟩
  refine wpAny_passesOwn hp (thn (hc pins s1 σ1 H1 _ I1 (turn n σ1 H1 w1)) fun b s2 ⟨H2, I2, q2⟩ => ?_)
  cases b with
  | true =>
    obtain ⟨N, hN, q2⟩ := q2
    rw [if_pos rfl]
    refine wpAny_passesOwn hp (thn (hb pins s2 σ1 H2 _ I2 q2) fun f s3 q3 => ?_)
    cases f with
    | next =>
      obtain ⟨σ3, H3, I3, n3⟩ := q3
      obtain ⟨m', hm, w3⟩ := hN σ3 H3 n3
      exact ⟨m', hm, σ3, H3, I3, w3⟩
    | cont =>
      obtain ⟨σ3, H3, I3, n3⟩ := q3
      obtain ⟨m', hm, w3⟩ := hN σ3 H3 n3
      exact ⟨m', hm, σ3, H3, I3, w3⟩
    | brk => exact q3
    | ret v => exact q3
  | false =>
    rw [if_neg Bool.false_ne_true]
    exact wpAny_execs_nil ⟨σ1, H2, I2, q2⟩
end
structure It where
  go : Nat → Hp → Prop
  yld : Nat → Hp → V → Hp → Prop
  stop : Nat → Hp → Prop
noncomputable def FpOk (X : Cx) (pins : List (Addr × Obj)) (H : Hp) (b : Addr) : Prop :=
  H b = none ∧ b ≠ X.env.locals ∧ b ∉ X.fs ∧ (b ∈ X.ex ∨ X.s_0.heap.objs.size ≤ b) ∧ (∀ x c, X.env.cells.lookup x = some c → c ≠ b) ∧ ∀ p ∈ X.pn ++ pins, p.1 ≠ b
theorem Inv.fpOk {X : Cx} {pins : List (Addr × Obj)} {σ : St} {H H' : Hp} {s : Shared} {b : Addr} (I : Inv X pins σ H s) (hb : s.heap.objs.size ≤ b) (hn : H' b = none) : FpOk X pins H' b := by
  refine ⟨hn, Nat.ne_of_gt (Nat.lt_of_lt_of_le I.lt hb), I.nofs hb, .inr (Nat.le_trans I.sz hb), fun x c e z => ?_, fun p hp z => ?_⟩
  · obtain ⟨v, q⟩ := I.cell x c e
    exact absurd (Nat.lt_of_lt_of_le q.lt (by rw [z]; exact hb)) (Nat.lt_irrefl _)
  · exact absurd (Nat.lt_of_lt_of_le (Heap.lt_size (I.pin p hp).1) (by rw [z]; exact hb)) (Nat.lt_irrefl _)
structure Turn (P : Program) (w : World) (K : PySem.W.Frag) (tg : Expr) (J : It) (fp : List Addr) (it : Addr) (tn : Nat → Heap → Prop) : Prop where
  mem : it ∈ fp
  obj : ∀ i h, tn i h → ∀ b ∈ fp, ∃ o, h.get? b = some o ∧ ∀ v, o.data ≠ .cell v
  keep : ∀ i h h', tn i h → (∀ b ∈ fp, ∀ o, h.get? b = some o → h'.get? b = some o) → tn i h'
  item : ∀ (X : Cx), X.prog = P → X.w = w → X.K = K → X.calm = true → ∀ (i : Nat) (pins : List (Addr × Obj)) (s : Shared) (σ : St) (H : Hp) (E : Value → Shared → Prop), Inv X pins σ H s → (∀ b ∈ fp, FpOk X pins H b) → tn i s.heap → J.go i H →
    wpAny (model P w) X.A (pyNext (.ref it)) (fun r s1 => ∃ u, r = some u ∧
      wpAny (model P w) X.A (letOwnedTupleGo tg (.ref it) u) (fun _ s2 => ∃ x H', Inv X pins σ H' s2 ∧ RelV x u ∧ J.yld i H x H' ∧ tn (i + 1) s2.heap ∧ ∀ b ∈ fp, H' b = none) E s1) E s
  done : ∀ (X : Cx), X.prog = P → X.w = w → X.K = K → X.calm = true → ∀ (i : Nat) (pins : List (Addr × Obj)) (s : Shared) (σ : St) (H : Hp) (E : Value → Shared → Prop), Inv X pins σ H s → (∀ b ∈ fp, FpOk X pins H b) → tn i s.heap → J.stop i H →
    wpAny (model P w) X.A (pyNext (.ref it)) (fun r s1 => r = none ∧ Inv X pins σ H s1) E s
  self : ∀ (A : Around) (i : Nat) (s : Shared) (Q : Value → Shared → Prop) (E : Value → Shared → Prop), tn i s.heap → Q (.ref it) s → wpAny (model P w) A (pyIter (.ref it)) Q E s
noncomputable abbrev TI := St → Hp → (It → Hp → Prop) → Prop
noncomputable def PIE (X : Cx) (pins : List (Addr × Obj)) (σ : St) (tg : Expr) (R : It → Hp → Prop) (itv : Value) (s2 : Shared) : Prop :=
  ∃ (it : Addr) (fp : List Addr) (tn : Nat → Heap → Prop) (J : It) (H' : Hp), itv = .ref it ∧ Inv X pins σ H' s2 ∧ Turn X.prog X.w X.K tg J fp it tn ∧ tn 0 s2.heap ∧ (∀ b ∈ fp, FpOk X pins H' b) ∧ R J H'
noncomputable def PI (X : Cx) (tg iter : Expr) (wi : TI) : Prop :=
  ∀ (pins : List (Addr × Obj)) (s : Shared) (σ : St) (H : Hp) (R : It → Hp → Prop), Inv X pins σ H s → wi σ H R →
    wpAny (model X.prog X.w) X.A (eval iter X.env) (fun v s1 => wpAny (model X.prog X.w) X.A (pyIter v) (PIE X pins σ tg R) X.xe s1) X.xe s
theorem go_of {M : Model} {A : Around} {E : Value → Shared → Prop} {s : Shared} {tg : Expr} {it : Addr} {u : Value} {o : Obj} {n : String} {vs : Array Value} {Q : Unit → Shared → Prop} (ho : s.heap.get? it = some o) (hc : o.cls = .type n) (hd : o.data = .fields vs)
    (hn : ["enumerate", "zip", "dict_itemiterator", "dict_reverseitemiterator", "odict_iterator", "itertools.zip_longest", "itertools.pairwise"].contains n = false) (hQ : Q () s) : wpAny M A (letOwnedTupleGo tg (.ref it) u) Q E s := by
  unfold letOwnedTupleGo
  cases tg <;> first
    | exact wpAny_pure hQ
    | (cases u <;> first
        | exact wpAny_pure hQ
        | (refine wpAny_bind (wpAny_load ho ?_)
           rw [hc, hd]
           show wpAny M A (if (["enumerate", "zip", "dict_itemiterator", "dict_reverseitemiterator", "odict_iterator", "itertools.zip_longest", "itertools.pairwise"].contains n && vs[0]? == some (rawInt _)) = true then _ else _) Q E s
           rw [if_neg (by intro h; rw [hn, Bool.false_and] at h; cases h)]
           exact wpAny_pure hQ))
noncomputable def Itl (K : PySem.W.Frag) (a : Addr) : It :=
  ⟨fun i H => ∃ xs x, SqL K H a xs ∧ xs[i]? = some x, fun i H x H' => H' = H ∧ ∀ xs, SqL K H a xs → xs[i]? = some x, fun i H => ∃ xs, SqL K H a xs ∧ xs.length ≤ i⟩
noncomputable def Itr (lo : Int) (n : Nat) : It := ⟨fun i _ => i < n, fun i H x H' => H' = H ∧ x = .int (lo + i), fun i _ => n ≤ i⟩
theorem turn_list {P : Program} {w : World} {K : PySem.W.Frag} {tg : Expr} (a it : Addr) : Turn P w K tg (Itl K a) [it] it (fun i h => h.IsListIter it a i) where
  mem := by simp
  obj := fun i h st b hb => by
    have e : b = it := by simpa using hb
    subst e
    obtain ⟨o, e, c, d⟩ := st
    exact ⟨o, e, fun v z => by rw [d] at z; cases z⟩
  keep := fun i h h' st k => st.at fun o e => k it (by simp) o e
  item := by
    intro X hP hw hK hc i pins s σ H E I hf st hg
    subst hP hw hK
    obtain ⟨xs, x, hq, hx⟩ := hg
    obtain ⟨its, rv, p, hz⟩ := I.list hq
    obtain ⟨u, hu, ru⟩ := rv.get hx
    obtain ⟨f0, f1, f2, f3, f4, f5⟩ := hf it (by simp)
    refine wpAny_pyNext_list_item st p.isList (x := u) (by simpa using hu) fun h' st' sb => ?_
    have I1 : Inv X pins σ H { s with heap := h' } := I.turned (t' := s.toks) (fun b o hb e => (sb.2 b hb).trans e) f0 f1 f3 f4 f5
    obtain ⟨o, e, c, d⟩ := id st'
    exact ⟨u, rfl, go_of (s := { s with heap := h' }) e c d (by decide) ⟨x, H, I1, ru, ⟨rfl, fun ys hy => by rw [I.list_inj hy hq]; exact hx⟩, st', fun b hb => (hf b hb).1⟩⟩
  done := by
    intro X hP hw hK hc i pins s σ H E I hf st hg
    subst hP hw hK
    obtain ⟨xs, hq, hx⟩ := hg
    obtain ⟨its, rv, p, hz⟩ := I.list hq
    obtain ⟨f0, f1, f2, f3, f4, f5⟩ := hf it (by simp)
    have hl := rv.length
    exact wpAny_pyNext_list_end (I.ok.hd hc) st p.isList (by simp; omega) fun h' eb => ⟨rfl, I.turned (t' := s.toks) (fun b o hb e => eb b o hb e) f0 f1 f3 f4 f5⟩
  self := fun _ _ _ _ _ st h => wpAny_pyIter_listiter st h
theorem turn_range {P : Program} {w : World} {K : PySem.W.Frag} {tg : Expr} (it : Addr) (lo : Int) (n : Nat) : Turn P w K tg (Itr lo n) [it] it (fun i h => IsRangeIter h it (lo + (i : Nat) * 1) ((n : Int) - (i : Nat)) 1) where
  mem := by simp
  obj := fun i h st b hb => by
    have e : b = it := by simpa using hb
    subst e
    exact ⟨_, st, fun v z => by
      have z' : Data.fields _ = Data.cell v := z
      cases z'⟩
  keep := fun i h h' st k => k it (by simp) _ st
  item := by
    intro X hP hw hK hc i pins s σ H E I hf st hg
    subst hP hw hK
    obtain ⟨f0, f1, f2, f3, f4, f5⟩ := hf it (by simp)
    have W := Walks.range (prog := X.prog) (w := X.w) (I.ok.hd hc) it lo 1 n
    refine W.item i s _ _ hg st fun v h' tk hv st' kk => ?_
    obtain ⟨t, rfl⟩ := hv
    have I1 : Inv X pins σ H { s with heap := h', toks := tk } := I.turned (fun b o hb e => kk b o (by simpa using hb) e) f0 f1 f3 f4 f5
    refine ⟨_, rfl, go_of (s := { s with heap := h', toks := tk }) (n := "range_iterator") st' rfl rfl (by decide) ⟨.int (lo + i), H, I1, ⟨t, ?_⟩, ⟨rfl, rfl⟩, st', fun b hb => (hf b hb).1⟩⟩
    rw [Int.mul_one]
  done := by
    intro X hP hw hK hc i pins s σ H E I hf st hg
    subst hP hw hK
    obtain ⟨f0, f1, f2, f3, f4, f5⟩ := hf it (by simp)
    exact wpAny_pyNext_range_end (I.ok.hd hc) st (by have : n ≤ i := hg; omega) fun h' eb => ⟨rfl, I.turned (t' := s.toks) (fun b o hb e => eb b o hb e) f0 f1 f3 f4 f5⟩
  self := fun _ _ _ _ _ st h => wpAny_pyIter_rangeiter st h
end L2
namespace L2
open PySem PySem.Spec PyProof.Rows
section
variable {X : Cx} {tg : Expr}
noncomputable def iList (K : PySem.W.Frag) (tl : TE) : TI := fun σ H R => tl σ H fun x H1 => ∃ a, x = .ref a ∧ (∃ xs, SqL K H1 a xs) ∧ R (Itl K a) H1
theorem pi_list {l : Expr} {tl : TE} (hl : PE X l tl) : PI X tg l (iList X.K tl) := by
  intro pins s σ H R I h
  refine thn (hl pins s σ H _ I h) fun v s1 ⟨x, H1, I1, r1, q1⟩ => ?_
  obtain ⟨a, e, ⟨xs, hq⟩, q⟩ := q1
  subst e
  cases r1
  obtain ⟨its, rv, p, hz⟩ := I1.list hq
  refine wpAny_pyIter_list p.isList ?_
  refine ⟨s1.heap.objs.size, [s1.heap.objs.size], _, _, H1, rfl, I1.kept (t' := s1.toks) fun b o e => Heap.get?_push_of_some _ e, turn_list a _, ⟨_, Heap.get?_push_size _ rfl, rfl, rfl⟩, fun b hb => ?_, q⟩
  have e : b = s1.heap.objs.size := by simpa using hb
  subst e
  exact I1.fpOk (Nat.le_refl _) (I1.hok.fresh (Nat.le_refl _))
theorem range_it {pins : List (Addr × Obj)} {σ : St} {H : Hp} {s : Shared} {R : It → Hp → Prop} {E : Value → Shared → Prop} {lo hi : Int} {t u v : Tok} {tk : Nat} (I : Inv X pins σ H s) (h1 : -(2 ^ 62) ≤ lo) (h2 : lo < 2 ^ 62) (h3 : -(2 ^ 62) ≤ hi) (h4 : hi < 2 ^ 62)
    (q : R (Itr lo (hi - lo).toNat) H) : wpAny (model X.prog X.w) X.A (pyIter (.ref s.heap.objs.size)) (PIE X pins σ tg R) E { s with heap := s.heap.push { cls := .type "range", data := .fields #[.int lo t, .int hi u, .int 1 v] }, toks := tk } := by
  refine wpAny_pyIter_range (IsRange.new ..) (small_one h1 h2 h3 h4) ?_
  have I1 : Inv X pins σ H { s with heap := s.heap.push { cls := .type "range", data := .fields #[.int lo t, .int hi u, .int 1 v] }, toks := tk } := I.kept fun b o e => Heap.get?_push_of_some _ e
  refine ⟨(s.heap.push { cls := .type "range", data := .fields #[.int lo t, .int hi u, .int 1 v] }).objs.size, [(s.heap.push { cls := .type "range", data := .fields #[.int lo t, .int hi u, .int 1 v] }).objs.size], _, _, H, rfl,
    I1.kept (t' := tk) fun b o e => Heap.get?_push_of_some _ e, turn_range _ lo (hi - lo).toNat, ?_, fun b hb => ?_, q⟩
  · have e1 : lo + ((0 : Nat) : Int) * 1 = lo := by simp
    have e2 : (((hi - lo).toNat : Nat) : Int) - ((0 : Nat) : Int) = Builtin.Range.rangeSize lo hi 1 := by rw [rangeSize_one]; split <;> omega
    show IsRangeIter _ _ (lo + ((0 : Nat) : Int) * 1) ((((hi - lo).toNat : Nat) : Int) - ((0 : Nat) : Int)) 1
    rw [e1, e2]
    exact Heap.get?_push_size _ rfl
  · have e : b = (s.heap.push { cls := .type "range", data := .fields #[.int lo t, .int hi u, .int 1 v] }).objs.size := by simpa using hb
    subst e
    exact I1.fpOk (Nat.le_refl _) (I1.hok.fresh (Nat.le_refl _))
noncomputable def iRng1 (ta : TA) : TI := fun σ H R => ta σ H fun vs H1 => ∃ j : Int, vs = [.int j] ∧ -(2 ^ 62) ≤ j ∧ j < 2 ^ 62 ∧ R (Itr 0 j.toNat) H1
theorem pi_range1 {a : Expr} {ta : TA} {p pos : Pos} (hg : Gl X "range") (hm : X.mg "range" = none) (ha : PA X [a] ta) (hs : starEach [a] X.env = [(false, eval a X.env)] := by rfl) : PI X tg (.Call (.Name "range" p) [a] [] pos) (iRng1 ta) := by
  intro pins s σ H R I h
  refine Call_ (ld_blt I hg hm boot_range (PyProof.Rows.callWith_type1 (thn (ha pos pins s σ H _ I h) fun us s1 ⟨vs, H1, I1, r1, q1⟩ => ?_) hs rfl))
  obtain ⟨j, e, q1, q2, q⟩ := q1
  subst e
  cases r1 with
  | cons r rr =>
    cases rr
    obtain ⟨t, rfl⟩ := r
    exact call_range_1 (range_it I1 (by omega) (by omega) q1 q2 (by simpa using q))
noncomputable def tFor (wi : TI) (g : TG) (tb : TS) : TS := fun D σ H => wi σ H fun J H1 => ∃ W : Nat → Nat → St → Hp → Prop, (∃ m, W 0 m σ H1) ∧ ∀ i m σ H, W i m σ H →
  (J.stop i H ∧ D.nx σ H) ∨ (J.go i H ∧ ∃ N : St → Hp → Prop, (∀ σ' H', N σ' H' → ∃ m', m' < m ∧ W (i + 1) m' σ' H') ∧ ∀ x H', J.yld i H x H' → g x σ H' fun σ2 H2 => tb { D with nx := N, ct := N, bk := D.nx } σ2 H2)
noncomputable def pinsAt (fp : List Addr) (h : Heap) : List (Addr × Obj) := fp.filterMap fun b => (h.get? b).map fun o => (b, o)
theorem mem_pinsAt {fp : List Addr} {h : Heap} {b : Addr} {o : Obj} (hb : b ∈ fp) (e : h.get? b = some o) : (b, o) ∈ pinsAt fp h := List.mem_filterMap.mpr ⟨b, hb, by rw [e]; rfl⟩
theorem of_pinsAt {fp : List Addr} {h : Heap} {p : Addr × Obj} (hp : p ∈ pinsAt fp h) : p.1 ∈ fp ∧ h.get? p.1 = some p.2 := by
  obtain ⟨b, hb, e⟩ := List.mem_filterMap.mp hp
  cases q : h.get? b with
  | none => rw [q] at e; cases e
  | some o =>
    rw [q] at e
    have e' : (b, o) = p := Option.some.inj e
    subst e'
    exact ⟨hb, q⟩
theorem Inv.pinned {pins : List (Addr × Obj)} {σ : St} {H : Hp} {s : Shared} {fp : List Addr} (I : Inv X pins σ H s) (hf : ∀ b ∈ fp, FpOk X pins H b) (ho : ∀ b ∈ fp, ∃ o, s.heap.get? b = some o ∧ ∀ v, o.data ≠ .cell v) : Inv X (pins ++ pinsAt fp s.heap) σ H s :=
  I.pins_of fun p hp => (List.mem_append.mp hp).elim (fun z => I.pin p (List.mem_append_right _ z)) fun z => by
    obtain ⟨hb, e⟩ := of_pinsAt z
    obtain ⟨f0, f1, f2, _⟩ := hf p.1 hb
    obtain ⟨o, e', d⟩ := ho p.1 hb
    rw [e] at e'; cases e'
    exact ⟨e, f0, f1, f2, d⟩
theorem Inv.unpinned {pins pl : List (Addr × Obj)} {σ : St} {H : Hp} {s : Shared} (I : Inv X (pins ++ pl) σ H s) : Inv X pins σ H s := I.pins_of fun p hp => I.pin p (List.mem_append_right _ (List.mem_append_left _ hp))
theorem ps_for {iter : Expr} {body : List Stmt} {wi : TI} {g : TG} {tb : TS} {pos : Pos} (hp : PassesOwn (model X.prog X.w) X.A X.env X.xe) (hc : X.calm = true) (hi : PI X tg iter wi) (hg : PG X tg g) (hb : PSs X body tb)
    (hs : ∀ x, foldedSetIterable iter X.env x = pure x := by intro _; rfl) : PS X (.For tg iter body [] pos) (tFor wi g tb) := by
  intro pins s σ H D I h
  refine wpAny_For (thn (hi pins s σ H _ I h) fun v s1 h1 => thn h1 fun itv s2 h2 => ?_) hs
  obtain ⟨it, fp, tn, J, H2, e, I2, T, st2, f2, W, ⟨m0, w0⟩, turn⟩ := h2
  subst e
  -- what stays true of the iterator's objects through the loop
  have stat : ∀ {H' : Hp}, (∀ b ∈ fp, H' b = none) → ∀ b ∈ fp, FpOk X pins H' b := fun hn b hb => ⟨hn b hb, (f2 b hb).2⟩
  refine codeAny_forLoop_any (fun n s' => ∃ i σ' H', Inv X pins σ' H' s' ∧ tn i s'.heap ∧ (∀ b ∈ fp, H' b = none) ∧ W i n σ' H') ?_ m0 ⟨0, σ, H2, I2, st2, fun b hb => (f2 b hb).1, w0⟩
  rintro n s3 ⟨i, σ3, H3, I3, st3, fr3, w3⟩
  rcases turn i n σ3 H3 w3 with ⟨stop, qn⟩ | ⟨go, N, hN, step⟩
  · refine wpAny_passesOwn hp (thn (T.done X rfl rfl rfl hc i pins s3 σ3 H3 X.xe I3 (stat fr3) st3 stop) fun r s4 ⟨hr, I4⟩ => ?_)
    subst hr
    exact wpAny_execs_nil ⟨σ3, H3, I4, qn⟩
  · refine wpAny_passesOwn hp (thn (T.item X rfl rfl rfl hc i pins s3 σ3 H3 X.xe I3 (stat fr3) st3 go) fun r s4 ⟨u, hr, h4⟩ => ?_)
    subst hr
    refine wpAny_passesOwn hp (thn h4 fun _ s5 ⟨x, H5, I5, r5, y5, st5, fr5⟩ => ?_)
    have I5' := I5.pinned (stat fr5) (T.obj _ _ st5)
    refine wpAny_passesOwn hp (thn (hg _ s5 σ3 H5 x u _ I5' r5 (step x H5 y5)) fun _ s6 ⟨σ6, H6, I6, q6⟩ => ?_)
    refine wpAny_passesOwn hp (thn (hb _ s6 σ6 H6 _ I6 q6) fun f s7 q7 => ?_)
    have again : ∀ {σ7 : St} {H7 : Hp}, Inv X (pins ++ pinsAt fp s5.heap) σ7 H7 s7 → N σ7 H7 → ∃ m, m < n ∧ ∃ i σ' H', Inv X pins σ' H' s7 ∧ tn i s7.heap ∧ (∀ b ∈ fp, H' b = none) ∧ W i m σ' H' := fun {σ7 H7} I7 n7 => by
      obtain ⟨m', hm, w7⟩ := hN σ7 H7 n7
      refine ⟨m', hm, i + 1, σ7, H7, I7.unpinned, T.keep _ _ _ st5 fun b hb o e => (I7.pin (b, o) (List.mem_append_right _ (List.mem_append_right _ (mem_pinsAt hb e)))).1, fun b hb => ?_, w7⟩
      obtain ⟨o, e, d⟩ := T.obj _ _ st5 b hb
      exact (I7.pin (b, o) (List.mem_append_right _ (List.mem_append_right _ (mem_pinsAt hb e)))).2.1
    cases f with
    | next => obtain ⟨σ7, H7, I7, n7⟩ := q7; exact again I7 n7
    | cont => obtain ⟨σ7, H7, I7, n7⟩ := q7; exact again I7 n7
    | brk => obtain ⟨σ7, H7, I7, q7⟩ := q7; exact ⟨σ7, H7, I7.unpinned, q7⟩
    | ret v => obtain ⟨x7, σ7, H7, I7, r7, q7⟩ := q7; exact ⟨x7, σ7, H7, I7.unpinned, r7, q7⟩
end
theorem for_list {K : PySem.W.Frag} {a : Addr} {xs : List V} {g : TG} {tb : TS} {D : Ends} {σ : St} {H : Hp} (Pv : Nat → St → Hp → Prop) (h0 : Pv 0 σ H) (hl : ∀ i σ H, i ≤ xs.length → Pv i σ H → SqL K H a xs)
    (hs : ∀ i x σ H, xs[i]? = some x → Pv i σ H → g x σ H fun σ2 H2 => tb { D with nx := Pv (i + 1), ct := Pv (i + 1), bk := D.nx } σ2 H2) (hd : ∀ σ H, Pv xs.length σ H → D.nx σ H) :
    ∃ W : Nat → Nat → St → Hp → Prop, (∃ m, W 0 m σ H) ∧ ∀ i m σ H, W i m σ H →
      ((Itl K a).stop i H ∧ D.nx σ H) ∨ ((Itl K a).go i H ∧ ∃ N : St → Hp → Prop, (∀ σ' H', N σ' H' → ∃ m', m' < m ∧ W (i + 1) m' σ' H') ∧ ∀ x H', (Itl K a).yld i H x H' → g x σ H' fun σ2 H2 => tb { D with nx := N, ct := N, bk := D.nx } σ2 H2) := by
  refine ⟨fun i m σ H => m = xs.length - i ∧ i ≤ xs.length ∧ Pv i σ H, ⟨xs.length, by simp, Nat.zero_le _, h0⟩, ?_⟩
  rintro i m σ H ⟨rfl, hi, p⟩
  have q := hl i σ H hi p
  by_cases hlt : i < xs.length
  · refine .inr ⟨⟨xs, xs[i], q, by simp [hlt]⟩, Pv (i + 1), fun σ' H' p' => ⟨xs.length - (i + 1), by omega, rfl, hlt, p'⟩, fun x H' y => ?_⟩
    obtain ⟨e, y⟩ := y
    subst e
    exact hs i x σ _ (y xs q) p
  · have e : i = xs.length := by omega
    subst e
    exact .inl ⟨⟨xs, q, Nat.le_refl _⟩, hd σ H p⟩
theorem for_range {lo : Int} {n : Nat} {g : TG} {tb : TS} {D : Ends} {σ : St} {H : Hp} (Pv : Nat → St → Hp → Prop) (h0 : Pv 0 σ H)
    (hs : ∀ i σ H, i < n → Pv i σ H → g (.int (lo + i)) σ H fun σ2 H2 => tb { D with nx := Pv (i + 1), ct := Pv (i + 1), bk := D.nx } σ2 H2) (hd : ∀ σ H, Pv n σ H → D.nx σ H) :
    ∃ W : Nat → Nat → St → Hp → Prop, (∃ m, W 0 m σ H) ∧ ∀ i m σ H, W i m σ H →
      ((Itr lo n).stop i H ∧ D.nx σ H) ∨ ((Itr lo n).go i H ∧ ∃ N : St → Hp → Prop, (∀ σ' H', N σ' H' → ∃ m', m' < m ∧ W (i + 1) m' σ' H') ∧ ∀ x H', (Itr lo n).yld i H x H' → g x σ H' fun σ2 H2 => tb { D with nx := N, ct := N, bk := D.nx } σ2 H2) := by
  refine ⟨fun i m σ H => m = n - i ∧ i ≤ n ∧ Pv i σ H, ⟨n, by simp, Nat.zero_le _, h0⟩, ?_⟩
  rintro i m σ H ⟨rfl, hi, p⟩
  by_cases hlt : i < n
  · refine .inr ⟨hlt, Pv (i + 1), fun σ' H' p' => ⟨n - (i + 1), by omega, rfl, hlt, p'⟩, fun x H' y => ?_⟩
    obtain ⟨e, y⟩ := y
    subst e y
    exact hs i σ _ hlt p
  · have e : i = n := by omega
    subst e
    exact .inl ⟨Nat.le_refl _, hd σ H p⟩
theorem while_by {c : TT} {tb : TS} {D : Ends} {σ : St} {H : Hp} (Pv : St → Hp → Prop) (μ : St → Hp → Nat) (h0 : Pv σ H)
    (hs : ∀ σ H, Pv σ H → c σ H fun b H1 => if b = true then tb { D with nx := fun σ' H' => Pv σ' H' ∧ μ σ' H' < μ σ H, ct := fun σ' H' => Pv σ' H' ∧ μ σ' H' < μ σ H, bk := D.nx } σ H1 else D.nx σ H1)
    (mono : ∀ σ H Q Q', (∀ b H1, Q b H1 → Q' b H1) → c σ H Q → c σ H Q') : tWhile c tb D σ H := by
  refine ⟨fun m σ H => m = μ σ H ∧ Pv σ H, ⟨_, rfl, h0⟩, ?_⟩
  rintro m σ H ⟨rfl, p⟩
  refine mono σ H _ _ (fun b H1 q => ?_) (hs σ H p)
  cases b with
  | true => exact ⟨_, fun σ' H' ⟨p', l⟩ => ⟨_, l, rfl, p'⟩, q⟩
  | false => exact q
end L2
namespace L2
open PySem PySem.Spec PyProof.Rows
noncomputable abbrev R2 := V → V → Hp → VK → Prop
noncomputable def OpR (X : Cx) (f : Value → Value → Sem Value) (r : R2) : Prop :=
  ∀ (pins : List (Addr × Obj)) (s : Shared) (σ : St) (H : Hp) (x y : V) (v u : Value) (Q : VK), Inv X pins σ H s → RelV x v → RelV y u → r x y H Q →
    wpAny (model X.prog X.w) X.A (f v u) (EP X pins σ Q) X.xe s
noncomputable def UnR (X : Cx) (f : Value → Sem Value) (r : V → Hp → VK → Prop) : Prop :=
  ∀ (pins : List (Addr × Obj)) (s : Shared) (σ : St) (H : Hp) (x : V) (v : Value) (Q : VK), Inv X pins σ H s → RelV x v → r x H Q →
    wpAny (model X.prog X.w) X.A (f v) (EP X pins σ Q) X.xe s
noncomputable def CallR (X : Cx) (f : Value) (r : List V → Hp → VK → Prop) : Prop :=
  ∀ (pins : List (Addr × Obj)) (s : Shared) (σ : St) (H : Hp) (xs : List V) (us : List Value) (Q : VK), Inv X pins σ H s → Vals xs us → r xs H Q →
    wpAny (model X.prog X.w) X.A (call f us) (EP X pins σ Q) X.xe s
noncomputable def TruR (X : Cx) (r : V → Hp → (Bool → Hp → Prop) → Prop) : Prop :=
  ∀ (pins : List (Addr × Obj)) (s : Shared) (σ : St) (H : Hp) (x : V) (v : Value) (Q : Bool → Hp → Prop), Inv X pins σ H s → RelV x v → r x H Q →
    wpAny (model X.prog X.w) X.A (truthy v) (TP X pins σ Q) X.xe s
noncomputable def tOp (r : R2) (ta tb : TE) : TE := fun σ H Q => ta σ H fun x H1 => tb σ H1 fun y H2 => r x y H2 Q
noncomputable def tUn (r : V → Hp → VK → Prop) (ta : TE) : TE := fun σ H Q => ta σ H fun x H1 => r x H1 Q
noncomputable def rI (C : Int → Int → Prop) (g : Int → Int → V) : R2 := fun x y H Q => ∃ i j, x = .int i ∧ y = .int j ∧ C i j ∧ Q (g i j) H
noncomputable def rI0 (g : Int → Int → V) : R2 := fun x y H Q => ∃ i j, x = .int i ∧ y = .int j ∧ Q (g i j) H
noncomputable def rU (g : Int → V) : V → Hp → VK → Prop := fun x H Q => ∃ i, x = .int i ∧ Q (g i) H
section
variable {X : Cx} {a b c : Expr} {ta tb tc : TE} {pos : Pos}
theorem binT (ha : PE X a ta) (hb : PE X b tb) {pins : List (Addr × Obj)} {s : Shared} {σ : St} {H : Hp} {R : V → V → Hp → Prop} (I : Inv X pins σ H s)
    (h : ta σ H fun x H1 => tb σ H1 fun y H2 => R x y H2) {Q : Value → Shared → Prop} {f : Value → Value → Sem Value}
    (hf : ∀ v u s2 x y H2, Inv X pins σ H2 s2 → RelV x v → RelV y u → R x y H2 → wpAny (model X.prog X.w) X.A (f v u) Q X.xe s2) :
    wpAny (model X.prog X.w) X.A (eval a X.env) (fun v s₁ => wpAny (model X.prog X.w) X.A (eval b X.env) (fun u s₂ => wpAny (model X.prog X.w) X.A (f v u) Q X.xe s₂) X.xe s₁) X.xe s := by
  refine thn (ha pins s σ H _ I h) fun v s1 ⟨x, H1, I1, r1, q1⟩ => ?_
  refine thn (hb pins s1 σ H1 _ I1 q1) fun u s2 ⟨y, H2, I2, r2, q2⟩ => ?_
  exact hf v u s2 x y H2 I2 r1 r2 q2
theorem pe_op {op : Operator} {r : R2} (ho : OpR X (binaryOp op) r) (ha : PE X a ta) (hb : PE X b tb) : PE X (.BinOp a op b pos) (tOp r ta tb) := by
  intro pins s σ H Q I h
  exact wpAny_BinOp (binT ha hb I h fun v u s2 x y H2 I2 rx ry q => ho pins s2 σ H2 x y v u Q I2 rx ry q)
theorem pe_un {op : UnaryOp} {r : V → Hp → VK → Prop} (ho : UnR X (unaryOp op) r) (ha : PE X a ta) : PE X (.UnaryOp op a pos) (tUn r ta) := by
  intro pins s σ H Q I h
  exact UnaryOp_ (thn (ha pins s σ H _ I h) fun v s1 ⟨x, H1, I1, r1, q1⟩ => ho pins s1 σ H1 x v Q I1 r1 q1)
theorem opI {f : Value → Value → Sem Value} {C : Int → Int → Prop} {g : Int → Int → Int}
    (rule : ∀ (i j : Int) (t u : Tok) (s : Shared) (Q : Value → Shared → Prop) (E : Value → Shared → Prop), C i j → Q (.int (g i j) s.toks) { s with toks := s.toks + 1 } → wpAny (model X.prog X.w) X.A (f (.int i t) (.int j u)) Q E s) :
    OpR X f (rI C fun i j => .int (g i j)) := by
  intro pins s σ H x y v u Q I rx ry h
  obtain ⟨i, j, rfl, rfl, hc, q⟩ := h
  obtain ⟨t, rfl⟩ := rx
  obtain ⟨t', rfl⟩ := ry
  exact rule i j t t' s _ _ hc ⟨.int (g i j), H, I.tok _, ⟨_, rfl⟩, q⟩
theorem opI0 {f : Value → Value → Sem Value} {g : Int → Int → Int}
    (rule : ∀ (i j : Int) (t u : Tok) (s : Shared) (Q : Value → Shared → Prop) (E : Value → Shared → Prop), Q (.int (g i j) s.toks) { s with toks := s.toks + 1 } → wpAny (model X.prog X.w) X.A (f (.int i t) (.int j u)) Q E s) :
    OpR X f (rI0 fun i j => .int (g i j)) := by
  intro pins s σ H x y v u Q I rx ry h
  obtain ⟨i, j, rfl, rfl, q⟩ := h
  obtain ⟨t, rfl⟩ := rx
  obtain ⟨t', rfl⟩ := ry
  exact rule i j t t' s _ _ ⟨.int (g i j), H, I.tok _, ⟨_, rfl⟩, q⟩
theorem opB0 {f : Value → Value → Sem Value} {g : Int → Int → Bool}
    (rule : ∀ (i j : Int) (t u : Tok) (s : Shared) (Q : Value → Shared → Prop) (E : Value → Shared → Prop), Q (.bool (g i j)) s → wpAny (model X.prog X.w) X.A (f (.int i t) (.int j u)) Q E s) :
    OpR X f (rI0 fun i j => .bl (g i j)) := by
  intro pins s σ H x y v u Q I rx ry h
  obtain ⟨i, j, rfl, rfl, q⟩ := h
  obtain ⟨t, rfl⟩ := rx
  obtain ⟨t', rfl⟩ := ry
  exact rule i j t t' s _ _ ⟨.bl (g i j), H, I, rfl, q⟩
noncomputable def CDiv (i j : Int) : Prop := 0 < j ∧ j < 1073741824
noncomputable def CMul (i j : Int) : Prop := (-(2 ^ 64) < i ∧ i < 2 ^ 64) ∨ (-(2 ^ 64) < j ∧ j < 2 ^ 64)
theorem CMul.ok {i j : Int} (h : CMul i j) : IntMulOk i j := by
  rcases h with ⟨h1, h2⟩ | ⟨h1, h2⟩
  · exact .of_left (intBits_le_64 h1 h2)
  · exact .of_right (intBits_le_64 h1 h2)
theorem op_add : OpR X (binaryOp .Add) (rI0 fun i j => .int (i + j)) := opI0 fun _ _ _ _ _ _ _ q => add_int q
theorem op_sub : OpR X (binaryOp .Sub) (rI0 fun i j => .int (i - j)) := opI0 fun _ _ _ _ _ _ _ q => sub_int q
theorem op_mul : OpR X (binaryOp .Mult) (rI CMul fun i j => .int (i * j)) := opI fun _ _ _ _ _ _ _ hc q => mul_int q hc.ok
theorem op_fdiv : OpR X (binaryOp .FloorDiv) (rI CDiv fun i j => .int (i / j)) := opI fun i j _ _ _ _ _ hc q => by
  have h1 : (0 : Int) < j := hc.1
  have h2 : j < 1073741824 := hc.2
  exact floordiv_int (by omega) (by rw [Int.fdiv_eq_ediv_of_nonneg i (by omega)]; exact q) (.inl (PyProof.noPylong_small (by omega)))
theorem unI {f : Value → Sem Value} {g : Int → Int}
    (rule : ∀ (i : Int) (t : Tok) (s : Shared) (Q : Value → Shared → Prop) (E : Value → Shared → Prop), Q (.int (g i) s.toks) { s with toks := s.toks + 1 } → wpAny (model X.prog X.w) X.A (f (.int i t)) Q E s) :
    UnR X f (rU fun i => .int (g i)) := by
  intro pins s σ H x v Q I rx h
  obtain ⟨i, rfl, q⟩ := h
  obtain ⟨t, rfl⟩ := rx
  exact rule i t s _ _ ⟨.int (g i), H, I.tok _, ⟨_, rfl⟩, q⟩
theorem un_neg : UnR X (unaryOp .USub) (rU fun i => .int (-i)) := unI fun _ _ _ _ _ q => neg_int q
end
noncomputable def scal : V → V → Bool
  | .non, .non => true | .non, .int _ => true | .int _, .non => true | .non, .bl _ => true | .bl _, .non => true | .non, .str _ => true | .str _, .non => true
  | .int _, .int _ => true | .bl _, .bl _ => true | .str _, .str _ => true | .byt _, .byt _ => true
  | .int _, .str _ => true | .str _, .int _ => true | .bl _, .str _ => true | .str _, .bl _ => true
  | _, _ => false
noncomputable def rEq : R2 := fun x y H Q => scal x y = true ∧ Q (.bl (decide (x = y))) H
theorem dec_int {i j : Int} : decide (V.int i = V.int j) = (i == j) := by
  rw [Bool.eq_iff_iff]
  simp
theorem dec_bl {i j : Bool} : decide (V.bl i = V.bl j) = (i == j) := by
  rw [Bool.eq_iff_iff]
  simp
theorem dec_str {i j : Str} : decide (V.str i = V.str j) = (i == j) := by
  rw [Bool.eq_iff_iff]
  simp
theorem dec_byt {i j : Array UInt8} : decide (V.byt i = V.byt j) = (i.toList == j.toList) := by
  rw [Bool.eq_iff_iff]
  cases i
  cases j
  simp
section
variable {X : Cx} {a b c : Expr} {ta tb tc : TE} {pos : Pos}
theorem fin_bl {pins : List (Addr × Obj)} {σ : St} {H : Hp} {s : Shared} {Q : VK} {k k' : Bool} (I : Inv X pins σ H s) (q : Q (.bl k) H) (e : k = k') : EP X pins σ Q (.bool k') s := by
  subst e
  exact ⟨.bl k, H, I, rfl, q⟩
theorem op_eq : OpR X (compareOp .Eq) rEq := by
  intro pins s σ H x y v u Q I rx ry h
  obtain ⟨hs, q⟩ := h
  cases x with
  | non =>
    cases rx
    cases y with
    | non => cases ry; exact PySem.EqNone.eq_none_none (fin_bl I q (by simp))
    | bl j => cases ry; exact PySem.EqNone.eq_none_bool (fin_bl I q (by simp))
    | int j => obtain ⟨t', rfl⟩ := ry; exact PySem.EqNone.eq_none_int (fin_bl I q (by simp))
    | str j => obtain ⟨t', rfl⟩ := ry; exact PySem.EqNone.eq_none_str (fin_bl I q (by simp))
    | _ => exact absurd (show false = true from hs) Bool.false_ne_true
  | bl i =>
    cases rx
    cases y with
    | non => cases ry; exact PySem.EqNone.eq_bool_none (fin_bl I q (by simp))
    | bl j => cases ry; exact eq_bool (fin_bl I q dec_bl)
    | str j => obtain ⟨t', rfl⟩ := ry; exact PySem.EqMixed.eq_bool_str (fin_bl I q (by simp))
    | _ => exact absurd (show false = true from hs) Bool.false_ne_true
  | int i =>
    obtain ⟨t, rfl⟩ := rx
    cases y with
    | non => cases ry; exact PySem.EqNone.eq_int_none (fin_bl I q (by simp))
    | int j => obtain ⟨t', rfl⟩ := ry; exact eq_int (fin_bl I q dec_int)
    | str j => obtain ⟨t', rfl⟩ := ry; exact PySem.EqMixed.eq_int_str (fin_bl I q (by simp))
    | _ => exact absurd (show false = true from hs) Bool.false_ne_true
  | str i =>
    obtain ⟨t, rfl⟩ := rx
    cases y with
    | non => cases ry; exact PySem.EqNone.eq_str_none (fin_bl I q (by simp))
    | bl j => cases ry; exact PySem.EqMixed.eq_str_bool (fin_bl I q (by simp))
    | int j => obtain ⟨t', rfl⟩ := ry; exact PySem.EqMixed.eq_str_int (fin_bl I q (by simp))
    | str j => obtain ⟨t', rfl⟩ := ry; exact eq_str (fin_bl I q dec_str)
    | _ => exact absurd (show false = true from hs) Bool.false_ne_true
  | byt i =>
    obtain ⟨t, rfl⟩ := rx
    cases y with
    | byt j => obtain ⟨t', rfl⟩ := ry; exact PySem.W.eq_bytes (fin_bl I q dec_byt)
    | _ => exact absurd (show false = true from hs) Bool.false_ne_true
  | _ => cases y <;> exact absurd (show false = true from hs) Bool.false_ne_true
theorem op_lt : OpR X (compareOp .Lt) (rI0 fun i j => .bl (decide (i < j))) := opB0 fun _ _ _ _ _ _ _ q => lt_int q
theorem op_le : OpR X (compareOp .LtE) (rI0 fun i j => .bl (decide (i ≤ j))) := opB0 fun _ _ _ _ _ _ _ q => le_int q
theorem op_gt : OpR X (compareOp .Gt) (rI0 fun i j => .bl (decide (j < i))) := opB0 fun _ _ _ _ _ _ _ q => gt_int q
theorem OpR.or {f : Value → Value → Sem Value} {r r' : R2} (h : OpR X f r) (h' : OpR X f r') : OpR X f (fun x y H Q => r x y H Q ∨ r' x y H Q) := by
  intro pins s σ H x y v u Q I rx ry q
  rcases q with q | q
  · exact h pins s σ H x y v u Q I rx ry q
  · exact h' pins s σ H x y v u Q I rx ry q
theorem nomark (b : Expr) {op : CmpOp} (h : op ≠ .In := by decide) (h2 : op ≠ .NotIn := by decide) : behindInMarks op b = false := by
  have e1 : (op == CmpOp.In) = false := by cases op <;> first | rfl | exact absurd rfl h
  have e2 : (op == CmpOp.NotIn) = false := by cases op <;> first | rfl | exact absurd rfl h2
  cases b <;> simp [behindInMarks, e1, e2]
theorem pe_cmpR {op : CmpOp} {r : R2} (ho : OpR X (compareOp op) r) (ha : PE X a ta) (hb : PE X b tb) (hm : behindInMarks op b = false) : PE X (.Compare a [op] [b] pos) (tOp r ta tb) := by
  intro pins s σ H Q I h
  exact wpAny_Compare1 (binT ha hb I h fun v u s2 x y H2 I2 rx ry q => ho pins s2 σ H2 x y v u Q I2 rx ry q) hm
noncomputable def tTest (t : TE) : TT := fun σ H Q => t σ H fun x H' => ∃ k, x = .bl k ∧ Q k H'
theorem pt_cmpR {op : CmpOp} {r : R2} (ho : OpR X (compareOp op) r) (ha : PE X a ta) (hb : PE X b tb) (hm : behindInMarks op b = false) : PT X (.Compare a [op] [b] pos) (tTest (tOp r ta tb)) := by
  intro pins s σ H Q I h
  refine wpAny_isTrue_Compare1 (thn (ha pins s σ H _ I h) fun v s1 ⟨x, H1, I1, r1, q1⟩ => thn (hb pins s1 σ H1 _ I1 q1) fun u s2 ⟨y, H2, I2, r2, q2⟩ =>
    thn (ho pins s2 σ H2 x y v u _ I2 r1 r2 q2) fun c s3 ⟨z, H3, I3, r3, k, e, q3⟩ => ?_) hm
  subst e
  cases r3
  exact wpAny_truthy_bool ⟨H3, I3, q3⟩
noncomputable def TruV (K : PySem.W.Frag) (x : V) (H : Hp) (k : Bool) : Prop :=
  match x with
  | .non => k = false
  | .bl b => k = b
  | .int i => k = (i != 0)
  | .str y => y.length ≤ sizeLine ∧ k = ((y.length : Int) != 0)
  | .byt y => y.size ≤ sizeLine ∧ k = ((y.size : Int) != 0)
  | .ref p => (∃ xs, SqL K H p xs ∧ k = !xs.isEmpty) ∨ (∃ xs, SqT K H p xs ∧ k = !xs.isEmpty) ∨ ∃ kvs, H p = some (.dK kvs) ∧ k = !kvs.isEmpty
  | _ => False
theorem isEmpty_kv {κ : Type} {kvs : List (κ × V)} {vs : List (κ × Value)} (r : KV kvs vs) : (!vs.isEmpty) = !kvs.isEmpty := by
  cases r <;> rfl
theorem isEmpty_of {xs : List V} {its : List Value} (r : Vals xs its) : (!its.toArray.isEmpty) = !xs.isEmpty := by
  cases r <;> simp
theorem line63 : (sizeLine : Nat) < 2 ^ 63 := by rw [sizeLine_eq]; decide
theorem tru_ok : TruR X (fun x H Q => ∃ k, TruV X.K x H k ∧ Q k H) := by
  intro pins s σ H x v Q I rx h
  obtain ⟨k, e, q⟩ := h
  have hl := line63
  have hs : sizeLine = 16777216 := sizeLine_eq
  cases x with
  | non =>
    cases rx
    have e' : k = false := e
    subst e'
    exact truthy_none ⟨H, I, q⟩
  | bl b =>
    cases rx
    have e' : k = b := e
    subst e'
    exact wpAny_truthy_bool ⟨H, I, q⟩
  | int i =>
    obtain ⟨t, rfl⟩ := rx
    have e' : k = (i != 0) := e
    subst e'
    exact PySem.P.truthy_int ⟨H, I, q⟩
  | str y =>
    obtain ⟨t, rfl⟩ := rx
    obtain ⟨hy, e'⟩ : y.length ≤ sizeLine ∧ k = ((y.length : Int) != 0) := e
    subst e'
    exact PySem.P.truthy_str (by omega) ⟨H, I.tok _, q⟩
  | byt y =>
    obtain ⟨t, rfl⟩ := rx
    obtain ⟨hy, e'⟩ : y.size ≤ sizeLine ∧ k = ((y.size : Int) != 0) := e
    subst e'
    exact PySem.W.truthy_bytes (by omega) ⟨H, I.tok _, q⟩
  | ref p =>
    cases rx
    have e' : (∃ xs, SqL X.K H p xs ∧ k = !xs.isEmpty) ∨ (∃ xs, SqT X.K H p xs ∧ k = !xs.isEmpty) ∨ ∃ kvs, H p = some (.dK kvs) ∧ k = !kvs.isEmpty := e
    rcases e' with ⟨xs, hx, e'⟩ | ⟨xs, hx, e'⟩ | ⟨kvs, hx, e'⟩
    · subst e'
      obtain ⟨its, r, pl, hz⟩ := I.list hx
      have hlen := r.length
      exact wpAny_truthy_list pl.isList (by simp only [List.size_toArray]; omega) ⟨H, I.tok _, by rw [isEmpty_of r]; exact q⟩
    · subst e'
      obtain ⟨its, r, pl, hz⟩ := I.tuple hx
      have hlen := r.length
      exact truthy_tuple pl (by simp only [List.size_toArray]; omega) ⟨H, I.tok _, by rw [isEmpty_of r]; exact q⟩
    · subst e'
      obtain ⟨hz, hS, vs, r, m⟩ : kvs.length ≤ sizeLine ∧ (p == sysModules) = false ∧ ∃ vs, KV kvs vs ∧ s.heap.DictOf (mixKind X.prog X.w) p vs := I.hok p _ hx
      have hlen : kvs.length = vs.length := Paired.length r
      exact wpAny_truthy_dict hS m (by omega) ⟨H, I.tok _, by rw [isEmpty_kv r]; exact q⟩
  | _ => exact (show False from e).elim
theorem pt_truth (ha : PE X a ta) (he : ∀ whole, isTrue a X.env whole = (do let v ← whole; standAt a.pos; holding [v] (truthy v))) :
    PT X a (fun σ H Q => ta σ H fun x H' => ∃ k, TruV X.K x H' k ∧ Q k H') := by
  intro pins s σ H Q I h
  exact isTrue_plain (thn (ha pins s σ H _ I h) fun v s1 ⟨x, H1, I1, r1, q1⟩ => tru_ok pins s1 σ H1 x v Q I1 r1 q1) (he _)
theorem vals1 {x : V} {us : List Value} (r : Vals [x] us) : ∃ u, us = [u] ∧ RelV x u := by
  cases r with
  | cons r1 r2 => cases r2; exact ⟨_, rfl, r1⟩
theorem vals2 {x y : V} {us : List Value} (r : Vals [x, y] us) : ∃ u w', us = [u, w'] ∧ RelV x u ∧ RelV y w' := by
  cases r with
  | cons r1 r2 =>
    cases r2 with
    | cons r3 r4 => cases r4; exact ⟨_, _, rfl, r1, r3⟩
theorem call_min2 (hc : X.calm = true) : CallR X (.builtin "min") (fun xs H Q => ∃ i j, xs = [.int i, .int j] ∧ Q (.int (if j < i then j else i)) H) := by
  intro pins s σ H xs us Q I r h
  obtain ⟨i, j, rfl, q⟩ := h
  obtain ⟨u, w', rfl, ⟨t, rfl⟩, ⟨t', rfl⟩⟩ := vals2 r
  refine min_two_ints (I.ok.hd hc) fun h' tk k => ⟨_, H, I.kept k, ?_, q⟩
  by_cases hj : j < i
  · rw [if_pos hj, if_pos hj]; exact ⟨_, rfl⟩
  · rw [if_neg hj, if_neg hj]; exact ⟨_, rfl⟩
end
end L2
namespace L2
open PySem PySem.Spec PyProof.Rows
structure ObjM (h : Heap) (x dx C : Addr) (mA : Str → Option Value) : Prop where
  obj : h.get? x = some (PySem.W.instObj C dx)
  ns : h.Ns1 dx mA
  ne : dx ≠ x
theorem lookIn_ns {h : Heap} {dx : Addr} {mA : Str → Option Value} (n : h.Ns1 dx mA) : ∃ od, h.get? dx = some od ∧ ∀ name, PySem.W.lookIn name od = some (mA name) := by
  obtain ⟨o, es, ep, ho, hd, hk, _, hm⟩ := n
  refine ⟨o, ho, fun name => ?_⟩
  have e := hm name
  unfold nsFind findBy at e
  rw [← Array.find?_toList] at e
  unfold PySem.W.lookIn
  rw [hd]
  dsimp only
  split
  · rename_i y q
    rw [q] at e
    exact congrArg some e
  · rename_i q
    rw [q] at e
    have a : es.toList.any (·.refKey) = false := by
      rw [List.any_eq_false]
      intro y hy
      obtain ⟨z, t, hkey⟩ := hk y (Array.mem_toList_iff.mp hy)
      simp [DictEntry.refKey, hkey]
    have a' : ¬ es.toList.any (·.refKey) = true := by rw [a]; exact Bool.false_ne_true
    rw [if_neg a']
    exact congrArg some e
theorem ObjM.look {h : Heap} {x dx C : Addr} {mA : Str → Option Value} (I : ObjM h x dx C mA) : ∃ od, PySem.W.InstAt h x (PySem.W.instObj C dx) C (some od) ∧ ∀ name, PySem.W.lookIn name od = some (mA name) :=
  let ⟨od, ho, hl⟩ := lookIn_ns I.ns
  ⟨od, ⟨I.obj, rfl, rfl, ho⟩, hl⟩
section
variable {prog : Program} {w : World} {A : Around} {E : Value → Shared → Prop} {s : Shared} {K : PySem.W.Frag} {x dx C f : Addr} {mA : Str → Option Value} {name : Str} {v : Value}
theorem get_map {expr : Bool} {Q : Value → Shared → Prop} (X : K.In s.heap) (I : ObjM s.heap x dx C mA) (hg : PySem.W.plainGet K C name = true) (hh : PySem.W.hasDictIn K C = true)
    (ha : PySem.W.findIn K (.ref C) name = some none) (hv : mA name = some v) (hv' : PySem.W.handedIn v = true) (h : Q v { s with toks := s.toks + 1 }) :
    wpAny (model prog w) A (getAttr (.ref x) name expr) Q E s := by
  obtain ⟨od, J, hl⟩ := I.look
  exact PySem.W.get_value X J (PySem.W.plainGet_of hg).1 (PySem.W.findObj_own hh ha rfl (by rw [hl, hv])) hv' h
theorem get_meth {pl : Sem Bool} {Q : Value × List Value → Shared → Prop} (X : K.In s.heap) (I : ObjM s.heap x dx C mA) (hg : PySem.W.plainGet K C name = true)
    (hf : PySem.W.findIn K (.ref C) name = some (some (.ref f))) (ht : PySem.W.isFn K (.ref f) = true) (hv : mA name = none) (h : Q (.ref f, [.ref x]) s) :
    wpAny (model prog w) A (getMethod (.ref x) name pl) Q E s := by
  obtain ⟨od, J, hl⟩ := I.look
  exact PySem.W.method_fn X J (PySem.W.plainGet_of hg).1 (PySem.W.plainGet_of hg).2 hf (beq_iff_eq.mp ht) (by show (PySem.W.lookIn name od).map (·.isSome) = some false; rw [hl, hv]; rfl) h
theorem set_map {ns : List Str} {Q : Unit → Shared → Prop} (X : K.In s.heap) (I : ObjM s.heap x dx C mA)
    (hs : PySem.W.findIn K (.ref C) "__setattr__" = some (some (.builtin "object.__setattr__"))) (hp : PySem.W.plainOver K C = true) (ht : PySem.W.takerIn K C name = some none) (hh : PySem.W.hasDictIn K C = true)
    (hw : PySem.Within mA ns) (hsz : ns.length ≤ sizeLine)
    (h : ∀ h', ObjM h' x dx C (fun y => if y = name then some v else mA y) → Heap.SameBut dx s.heap h' → Q () { s with heap := h', toks := s.toks + 2 }) :
    wpAny (model prog w) A (setAttr (.ref x) name v) Q E s := by
  obtain ⟨od, J, hl⟩ := I.look
  refine PySem.W.set_plain X J hs (PySem.W.osa_open (s := { s with toks := s.toks + 1 }) (r := none) X J hp ht fun b => ?_)
  obtain ⟨cd, hc, hd'⟩ := PySem.W.any_some hh
  have hx : s.heap.get? x = some ⟨.ref C, some dx, .plain, #[]⟩ := I.obj
  refine wpAny_bind (wpAny_pure (wpAny_bind (wpAny_bind (wpAny_loadPart hx (wpAny_bind (PySem.W.Looks.here (s := { s with toks := s.toks + 1 }) (PySem.W.looks_clsIn X hc) ?_))))))
  rw [hd']
  refine wpAny_pure (a := some dx) (wpAny_bind (wpAny_pure (wpAny_bind ?_)))
  refine wpAny_nsSet1 (s := { s with toks := s.toks + 1 }) I.ns fun h' hn2 hs2 => ?_
  obtain ⟨oD, esD, epD, hoD, hdD, hcD⟩ := hn2.count (PySem.Within.cons name v hw)
  refine wpAny_bind (wpAny_lookBehind hoD (by rw [hdD]; exact pastItsLine_dict (Nat.le_trans hcD (by rw [List.length_cons]; omega))) ?_)
  exact wpAny_pure (h _ ⟨(hs2.2 _ (Ne.symm I.ne)).trans I.obj, hn2, I.ne⟩ hs2)
theorem make_map {R : Result → Shared → Prop} {vs : List Value} {kw : List (Str × Value)} (X : K.In s.heap) (hm : PySem.W.makesIn K C = true)
    (hi : PySem.W.findIn K (.ref C) "__init__" = some (some (.ref f))) (hf : PySem.W.typeIn K (.ref f) = some (.type "function"))
    (h : codeAny (model prog w) (A.under (.builtin "type.__call__" ⟨.ref C :: vs, kw⟩)) (.call (.ref f) ⟨.ref (s.heap.objs.size + 1) :: vs, kw⟩) (PySem.W.InitBack (s.heap.objs.size + 1) R)
      { s with heap := (s.heap.push PySem.W.emptyDict).push (PySem.W.instObj C s.heap.objs.size) }) :
    codeAny (model prog w) A (.call (.ref C) ⟨vs, kw⟩) R s := by
  obtain ⟨hh, g, d, t, os⟩ := s
  exact PySem.W.make_core (PySem.W.makes_of X hm) (PySem.W.looks_findIn X hi) (fun self => PySem.W.bind_fn X self hf) (.inl rfl) h
end
noncomputable def putF (f : Str) (v : V) : List (Str × V) → List (Str × V)
  | [] => [(f, v)]
  | (g, x) :: r => if g = f then (g, v) :: r else (g, x) :: putF f v r
theorem lookup_putF (f g : Str) (v : V) : ∀ fs : List (Str × V), (putF f v fs).lookup g = if g = f then some v else fs.lookup g
  | [] => by
    show List.lookup g [(f, v)] = _
    by_cases h : g = f
    · have hb : (g == f) = true := beq_iff_eq.mpr h
      simp only [List.lookup, hb, if_pos h]
    · have hb : (g == f) = false := beq_eq_false_iff_ne.mpr h
      simp only [List.lookup, hb, if_neg h]
  | (k, x) :: r => by
    have ih := lookup_putF f g v r
    rw [show putF f v ((k, x) :: r) = (if k = f then (k, v) :: r else (k, x) :: putF f v r) from rfl]
    by_cases hk : k = f
    · rw [if_pos hk]
      by_cases h : g = k
      · have hb : (g == k) = true := beq_iff_eq.mpr h
        simp only [List.lookup, hb, if_pos (h.trans hk)]
      · have hb : (g == k) = false := beq_eq_false_iff_ne.mpr h
        simp only [List.lookup, hb, if_neg (fun e : g = f => h (e.trans hk.symm))]
    · rw [if_neg hk]
      by_cases h : g = k
      · have hb : (g == k) = true := beq_iff_eq.mpr h
        simp only [List.lookup, hb, if_neg (fun e : g = f => hk (h.symm.trans e))]
      · have hb : (g == k) = false := beq_eq_false_iff_ne.mpr h
        simp only [List.lookup, hb]
        exact ih
theorem keys_putF (f : Str) (v : V) : ∀ fs : List (Str × V), f ∈ (putF f v fs).map (·.1) ∧ ∀ g, g ∈ fs.map (·.1) → g ∈ (putF f v fs).map (·.1)
  | [] => ⟨by simp [putF], fun g h => by simp at h⟩
  | (k, x) :: r => by
    obtain ⟨i1, i2⟩ := keys_putF f v r
    rw [show putF f v ((k, x) :: r) = (if k = f then (k, v) :: r else (k, x) :: putF f v r) from rfl]
    by_cases hk : k = f
    · rw [if_pos hk]
      subst hk
      exact ⟨by simp, fun g h => by simpa using h⟩
    · rw [if_neg hk]
      refine ⟨?_, fun g h => ?_⟩
      · rw [List.map_cons]
        exact List.mem_cons_of_mem _ i1
      · rw [List.map_cons] at h ⊢
        rcases List.mem_cons.mp h with e | e
        · exact List.mem_cons.mpr (.inl e)
        · exact List.mem_cons_of_mem _ (i2 g e)
theorem length_putF (f : Str) (v : V) : ∀ fs : List (Str × V), (putF f v fs).length ≤ fs.length + 1
  | [] => by simp [putF]
  | (k, x) :: r => by
    have ih := length_putF f v r
    rw [show putF f v ((k, x) :: r) = (if k = f then (k, v) :: r else (k, x) :: putF f v r) from rfl]
    by_cases hk : k = f
    · rw [if_pos hk, List.length_cons, List.length_cons]; omega
    · rw [if_neg hk, List.length_cons, List.length_cons]; omega
theorem RelO.some_of {v : V} {o : Option Value} (r : RelO (some v) o) : ∃ u, o = some u ∧ RelV v u := by
  cases o with
  | none => exact (show False from r).elim
  | some u => exact ⟨u, rfl, r⟩
theorem RelO.none_of {o : Option Value} (r : RelO none o) : o = none := by
  cases o with
  | none => rfl
  | some u => exact (show False from r).elim
theorem handed_of {v : V} {u : Value} (r : RelV v u) : PySem.W.handedIn u = true := by
  cases v with
  | non => cases (show u = Value.none from r); rfl
  | bl b => cases (show u = Value.bool b from r); rfl
  | int i => obtain ⟨t, e⟩ := (show ∃ t, u = Value.int i t from r); cases e; rfl
  | str x => obtain ⟨t, e⟩ := (show ∃ t, u = Value.str x t from r); cases e; rfl
  | byt b => obtain ⟨t, e⟩ := (show ∃ t, u = Value.bytes b t from r); cases e; rfl
  | flt b => obtain ⟨t, e⟩ := (show ∃ t, u = Value.float b t from r); cases e; rfl
  | ref a => cases (show u = Value.ref a from r); rfl
  | ty n => cases (show u = Value.type n from r); rfl
section
variable {P : Program} {w : World} {H H' : Hp} {h h' : Heap} {a C dx : Addr} {fs fs' : List (Str × V)}
theorem ins_get (hok : HOk P w H h) (e : H a = some (.ins C dx fs)) : ∃ mA, ObjM h a dx C mA ∧ (∀ f, RelO (fs.lookup f) (mA f)) ∧ PySem.Within mA (fs.map (·.1)) ∧ fs.length ≤ 1000 ∧ H dx = some (.own a) := by
  obtain ⟨d, z, ne, ob, mA, n, r, q⟩ := (show ObjOk P w H h a (.ins C dx fs) from hok a _ e)
  exact ⟨mA, ⟨ob, n, ne⟩, r, q, z, d⟩
end
structure Cls (K : PySem.W.Frag) (C : Addr) : Prop where
  pg : PySem.W.plainGet K C Str.empty = true
  hd : PySem.W.hasDictIn K C = true
  po : PySem.W.plainOver K C = true
  sa : PySem.W.findIn K (.ref C) "__setattr__" = some (some (.builtin "object.__setattr__"))
theorem Cls.get {K : PySem.W.Frag} {C : Addr} (c : Cls K C) (f : Str) : PySem.W.plainGet K C f = true := c.pg
noncomputable def NoAttr (K : PySem.W.Frag) (C : Addr) (f : Str) : Prop := PySem.W.findIn K (.ref C) f = some none
theorem NoAttr.taker {K : PySem.W.Frag} {C : Addr} {f : Str} (n : NoAttr K C f) : PySem.W.takerIn K C f = some none := by
  unfold PySem.W.takerIn
  rw [show PySem.W.findIn K (.ref C) f = some none from n]
  rfl
structure Meth (K : PySem.W.Frag) (C : Addr) (m : Str) (f : Addr) : Prop where
  at_ : PySem.W.findIn K (.ref C) m = some (some (.ref f))
  fn : PySem.W.isFn K (.ref f) = true
  kp : PySem.W.keepIn K (.ref f) = true
section
variable {X : Cx} {pins : List (Addr × Obj)} {σ : St} {H : Hp} {s : Shared} {a C dx : Addr} {fs : List (Str × V)} {f : Str} {v : V} {A : Around} {E : Value → Shared → Prop}
theorem getattr_ok {b : Bool} {Q : Value → Shared → Prop} (I : Inv X pins σ H s) (e : H a = some (.ins C dx fs)) (c : Cls X.K C) (n : NoAttr X.K C f) (l : fs.lookup f = some v)
    (h : ∀ u s', Inv X pins σ H s' → RelV v u → Q u s') : wpAny (model X.prog X.w) A (getAttr (.ref a) f b) Q E s := by
  obtain ⟨mA, O, r, _, _, _⟩ := ins_get I.hok e
  obtain ⟨u, hu, ru⟩ := RelO.some_of (v := v) (o := mA f) (by rw [← l]; exact r f)
  exact get_map I.kIn O (c.get f) c.hd n hu (handed_of ru) (h u _ (I.tok _) ru)
theorem getmeth_ok {m : Str} {g : Addr} {pl : Sem Bool} {Q : Value × List Value → Shared → Prop} (I : Inv X pins σ H s) (e : H a = some (.ins C dx fs)) (c : Cls X.K C) (k : Meth X.K C m g) (l : fs.lookup m = none)
    (h : Q (.ref g, [.ref a]) s) : wpAny (model X.prog X.w) A (getMethod (.ref a) m pl) Q E s := by
  obtain ⟨mA, O, r, _, _, _⟩ := ins_get I.hok e
  have hn : mA m = none := RelO.none_of (by rw [← l]; exact r m)
  exact get_meth I.kIn O (c.get m) k.at_ k.fn hn h
theorem setattr_ok {y : V} {u : Value} {Q : Unit → Shared → Prop} (I : Inv X pins σ H s) (e : H a = some (.ins C dx fs)) (c : Cls X.K C) (n : NoAttr X.K C f) (hl : fs.length < 1000) (ry : RelV y u)
    (h : ∀ s', Inv X pins σ (upd H a (.ins C dx (putF f y fs))) s' → Q () s') : wpAny (model X.prog X.w) A (setAttr (.ref a) f u) Q E s := by
  obtain ⟨mA, O, r, wi, _, ho⟩ := ins_get I.hok e
  have hz : (fs.map (·.1)).length ≤ sizeLine := by rw [List.length_map, sizeLine_eq]; omega
  refine set_map I.kIn O c.sa c.po n.taker c.hd wi hz fun h' O' sb => h _ ?_
  have hd : ∃ o, h'.get? dx = some o := let ⟨o, _, _, e', _⟩ := O'.ns; ⟨o, e'⟩
  refine I.write (x := a) (e := dx) (by rw [e]; exact True.intro) (.inr ho) (fun b q hb z => (sb.2 b hb).trans z) hd ?_
  refine ⟨by rw [upd_ne O.ne]; exact ho, ?_, O.ne, O'.obj, _, O'.ns, fun g => ?_, fun g hg => ?_⟩
  · have := length_putF f y fs; omega
  · show RelO ((putF f y fs).lookup g) (if g = f then some u else mA g)
    rw [lookup_putF]
    by_cases q : g = f
    · rw [if_pos q, if_pos q]; exact ry
    · rw [if_neg q, if_neg q]; exact r g
  · by_cases q : g = f
    · rw [q]; exact (keys_putF f y fs).1
    · refine (keys_putF f y fs).2 g (wi g fun z => hg ?_)
      show (if g = f then some u else mA g) = none
      rw [if_neg q]; exact z
theorem Inv.made (I : Inv X pins σ H s) : Inv X pins σ (upd (upd H s.heap.objs.size (.own (s.heap.objs.size + 1))) (s.heap.objs.size + 1) (.ins C s.heap.objs.size []))
    { s with heap := (s.heap.push PySem.W.emptyDict).push (PySem.W.instObj C s.heap.objs.size) } := by
  have e1 : (s.heap.push PySem.W.emptyDict).get? s.heap.objs.size = some PySem.W.emptyDict := Heap.get?_push_size s.heap rfl
  have e2 : ((s.heap.push PySem.W.emptyDict).push (PySem.W.instObj C s.heap.objs.size)).get? (s.heap.objs.size + 1) = some (PySem.W.instObj C s.heap.objs.size) := by
    have := Heap.get?_push_size (s.heap.push PySem.W.emptyDict) (o := PySem.W.instObj C s.heap.objs.size) rfl
    rwa [Heap.size_push] at this
  have e3 : (s.heap.push PySem.W.emptyDict).Ns s.heap.objs.size (fun _ => none) := ⟨PySem.W.emptyDict, #[], _, e1, rfl, (fun e he => absurd he (by simp)), fun _ => rfl⟩
  have I1 := I.laid (a := s.heap.objs.size) (o := .own (s.heap.objs.size + 1)) (h' := s.heap.push PySem.W.emptyDict) (t' := s.toks) (fun b u q => Heap.get?_push_of_some _ q) (Nat.le_refl _) ⟨_, e1⟩
  refine I1.laid (a := s.heap.objs.size + 1) (o := .ins C s.heap.objs.size []) (t' := s.toks) (fun b u q => Heap.get?_push_of_some _ q) (Nat.le_of_eq (Heap.size_push _ _)) ?_
  have ne : s.heap.objs.size ≠ s.heap.objs.size + 1 := Nat.ne_of_lt (Nat.lt_succ_self _)
  refine ⟨by rw [upd_ne ne, upd_same], Nat.zero_le _, ne, e2, fun _ => none, (Heap.Ns1.of_empty e3).at fun o q => Heap.get?_push_of_some _ q, fun _ => True.intro, fun y hy => absurd rfl hy⟩
theorem attr_of {prog : Program} {w : World} {env : Env} {e : Expr} {f : Str} {pos : Pos} {s : Shared} {Q : Value → Shared → Prop} (hb : attributeBase e f env (eval e env) = eval e env)
    (h : wpAny (model prog w) A (eval e env) (fun o s₁ => wpAny (model prog w) A (getAttr o f true) Q E s₁) E s) : wpAny (model prog w) A (eval (.Attribute e f pos) env) Q E s :=
  Attribute_any_ h (by rw [arm_eval_Attribute, hb])
end
noncomputable def tFld (K : PySem.W.Frag) (ta : TE) (f : Str) : TE := fun σ H Q => ta σ H fun x H1 => ∃ a C dx fs v, x = .ref a ∧ H1 a = some (.ins C dx fs) ∧ Cls K C ∧ NoAttr K C f ∧ fs.lookup f = some v ∧ Q v H1
noncomputable def sFld (K : PySem.W.Frag) (ta tv : TE) (f : Str) : TS := fun D σ H => tv σ H fun y H1 => ta σ H1 fun x H2 => ∃ a C dx fs, x = .ref a ∧ H2 a = some (.ins C dx fs) ∧ Cls K C ∧ NoAttr K C f ∧ fs.length < 1000 ∧
  D.nx σ (upd H2 a (.ins C dx (putF f y fs)))
section
variable {X : Cx} {o e value : Expr} {f : Str} {pos pos' tpos : Pos} {ta tv : TE}
theorem pe_fld (he : PE X e ta) (hb : attributeBase e f X.env (eval e X.env) = eval e X.env) : PE X (.Attribute e f pos) (tFld X.K ta f) := by
  intro pins s σ H Q I h
  refine attr_of hb (thn (he pins s σ H _ I h) fun u s1 ⟨x, H1, I1, rx, a, C, dx, fs, v, ex, ea, c, n, l, q⟩ => ?_)
  subst ex
  obtain rfl : u = Value.ref a := rx
  exact getattr_ok I1 ea c n l fun u' s2 I2 ru => ⟨v, H1, I2, ru, q⟩
theorem ps_fld (ha : PE X o ta) (hv : PE X value tv) (hs : swapsWith value (some (.Attribute o f pos')) pos.line X.env = pure false) : PS X (.Assign [.Attribute o f pos'] value pos) (sFld X.K ta tv f) := by
  intro pins s σ H D I h
  refine plainObj_wpAny_Assign_Attribute (thn (hv pins s σ H _ I h) fun u s1 ⟨y, H1, I1, ry, q⟩ => thn (ha pins s1 σ H1 _ I1 q) fun ov s2 ⟨x, H2, I2, rx, a, C, dx, fs, ex, ea, c, n, l, q2⟩ => ?_) hs
  subst ex
  obtain rfl : ov = Value.ref a := rx
  exact setattr_ok I2 ea c n l ry fun s3 I3 => ⟨σ, _, I3, q2⟩
theorem methcall_of {pl : Sem Bool} {m : Str} {apos : Pos} {args : List Expr} {pins : List (Addr × Obj)} {s : Shared} {σ : St} {H : Hp} {Q : Value → Shared → Prop} {te : TE} (he : PE X e te) (I : Inv X pins σ H s)
    (h : te σ H fun x H1 => ∃ a C dx fs g, x = .ref a ∧ H1 a = some (.ins C dx fs) ∧ Cls X.K C ∧ Meth X.K C m g ∧ fs.lookup m = none ∧
      ∀ s1, Inv X pins σ H1 s1 → wpAny (model X.prog X.w) X.A (callWith pos (.ref g) [.ref a] (backTo pos (starEach args X.env)) (backToKw pos (keywordEach [] X.env))) Q X.xe s1)
    (ht : eval (.Call (.Attribute e m apos) args [] pos) X.env = (do
      let ov ← eval e X.env
      standAt apos.atName
      let (f, first) ← holding [ov] (getMethod ov m pl)
      callWith pos f first (backTo pos (starEach args X.env)) (backToKw pos (keywordEach [] X.env)))) :
    wpAny (model X.prog X.w) X.A (eval (.Call (.Attribute e m apos) args [] pos) X.env) Q X.xe s := by
  refine PySem.W.methodCall_KW (pl := pl) (thn (he pins s σ H _ I h) fun u s1 ⟨x, H1, I1, rx, a, C, dx, fs, g, ex, ea, c, k, l, q⟩ => ?_) ht
  subst ex
  obtain rfl : u = Value.ref a := rx
  exact getmeth_ok I1 ea c k l (q s1 I1)
end
section
variable {X : Cx} {pins : List (Addr × Obj)} {σ : St} {H : Hp} {s : Shared} {A : Around} {E : Value → Shared → Prop} {Q : Value → Shared → Prop} {c : Value} {b : Bool}
end
end L2
namespace L2
open PySem PySem.Spec PyProof.Rows
structure Room (k : Nat) (A : Around) : Prop where
  hd : A.handled = none
  dp : A.depth + 3 * k + 5 < recursionLimit
  un : A.units + 16 * k + 200 < cLine
theorem Room.mono {j k : Nat} {A : Around} (r : Room k A) (h : j ≤ k) : Room j A := ⟨r.hd, by have := r.dp; omega, by have := r.un; omega⟩
theorem Room.deeper {k : Nat} {A : Around} (r : Room (k + 1) A) (env : Env) : Room k (A.deeper env) :=
  ⟨r.hd, by have := r.dp; show A.depth + 1 + 3 * k + 5 < _; omega, by have := r.un; show A.units + 3 + 16 * k + 200 < _; omega⟩
theorem Room.in1 {k : Nat} {A : Around} (r : Room (k + 1) A) : Room k A.in1 :=
  ⟨r.hd, by have := r.dp; show A.depth + 3 * k + 5 < _; omega, by have := r.un; show A.units + 1 + 16 * k + 200 < _; omega⟩
theorem make_depth {A : Around} {C : Addr} {us : List Value} {kw : List (Str × Value)} : (A.under (.builtin "type.__call__" ⟨.ref C :: us, kw⟩)).depth = A.depth + 1 := by
  first | rfl | simp [Around.under, Code.weight, Code.isCreation, Code.isGuard, Code.isCaller, Code.frames, Code.isFrame, guardIds]
theorem make_units {A : Around} {C : Addr} {us : List Value} {kw : List (Str × Value)} : (A.under (.builtin "type.__call__" ⟨.ref C :: us, kw⟩)).units = A.units + 1 := by
  first | rfl | simp [Around.under, Code.cUnits, Code.frames, Code.isFrame]
theorem Room.make {k : Nat} {A : Around} (r : Room (k + 1) A) (C : Addr) (us : List Value) (kw : List (Str × Value)) : Room k (A.under (.builtin "type.__call__" ⟨.ref C :: us, kw⟩)) :=
  ⟨r.hd, by have := r.dp; rw [make_depth]; omega, by have := r.un; rw [make_units]; omega⟩
theorem Room.depth {k : Nat} {A : Around} (r : Room k A) : A.depth < recursionLimit := by have := r.dp; omega
theorem Room.units {k : Nat} {A : Around} (r : Room k A) : A.units + 64 < cLine := by have := r.un; omega
noncomputable def tNil : TA := fun _ H Q => Q [] H
noncomputable def tCons (ta : TE) (tr : TA) : TA := fun σ H Q => ta σ H fun x H1 => tr σ H1 fun xs H2 => Q (x :: xs) H2
section
variable {X : Cx} {e : Expr} {es : List Expr} {te : TE} {t : TA} {pos : Pos}
theorem pa_nil : PA X [] tNil := fun _ _ _ _ H Q I h => Calls.spliced_nil ⟨[], H, I, .nil, h⟩
theorem pa_cons (ha : PE X e te) (hr : PA X es t) (hs : starEach (e :: es) X.env = (false, eval e X.env) :: starEach es X.env := by rfl) : PA X (e :: es) (tCons te t) := by
  intro pos pins s σ H Q I h
  rw [hs]
  show wpAny _ _ (spliced ((false, eval e X.env) :: backTo pos (starEach es X.env))) _ _ s
  refine Calls.spliced_cons (thn (ha pins s σ H _ I h) fun u s1 ⟨x, H1, I1, r1, q1⟩ => ?_)
  exact thn (hr pos pins s1 σ H1 _ I1 q1) fun us s2 ⟨xs, H2, I2, r2, q2⟩ => ⟨x :: xs, H2, I2, .cons r1 r2, q2⟩
noncomputable def tTup (t : TA) : TE := fun σ H Q => t σ H fun xs H1 => xs.length ≤ sizeLine ∧ ∀ p, H1 p = none → Q (.ref p) (upd H1 p (.tup xs))
noncomputable def tLst (t : TA) : TE := fun σ H Q => t σ H fun xs H1 => xs.length ≤ sizeLine ∧ ∀ p, H1 p = none → Q (.ref p) (upd H1 p (.lst xs))
theorem pe_tup {x1} (h : PA X es t) : PE X (.Tuple es x1 pos) (tTup t) := by
  intro pins s σ H Q I hq
  refine wpAny_Tuple_spliced (thn (h pos pins s σ H _ I hq) fun us s1 ⟨xs, H1, I1, r, z, q⟩ => ⟨by rw [← r.length]; exact z, ?_⟩)
  have hf : H1 s1.heap.objs.size = none := I1.hok.fresh (Nat.le_refl _)
  refine ⟨.ref s1.heap.objs.size, upd H1 s1.heap.objs.size (.tup xs), I1.laid (t' := s1.toks) (fun b u e => Heap.get?_push_of_some _ e) (Nat.le_refl _) ?_, rfl, q _ hf⟩
  exact ⟨z, us, r, ⟨_, Heap.get?_push_size _ rfl, rfl, _, rfl⟩⟩
theorem pe_lst (h : PA X es t) : PE X (.List es pos) (tLst t) := by
  intro pins s σ H Q I hq
  refine wpAny_List_spliced (thn (h pos pins s σ H _ I hq) fun us s1 ⟨xs, H1, I1, r, z, q⟩ => ⟨by rw [← r.length]; exact z, ?_⟩)
  have hf : H1 s1.heap.objs.size = none := I1.hok.fresh (Nat.le_refl _)
  refine ⟨.ref s1.heap.objs.size, upd H1 s1.heap.objs.size (.lst xs), I1.laid (t' := s1.toks) (fun b u e => Heap.get?_push_of_some _ e) (Nat.le_refl _) ?_, rfl, q _ hf⟩
  exact ⟨z, us, 0, r, Heap.get?_push_size _ rfl⟩
end
noncomputable abbrev Sp := List V → Hp → VK → XK → Prop
noncomputable abbrev CXT := List Env → Hp → Shared → XK → Value → Shared → Prop
structure Env0 (P : Program) (w : World) (K : PySem.W.Frag) (mg : Str → Option Value) (base : Heap) (A : Around) (outer : List Env) (s : Shared) (H : Hp) : Prop where
  frames : A.frames = some outer
  mod : Mod K mg base
  bs : ∀ b o, base.get? b = some o → s.heap.get? b = some o ∧ H b = none
  bsz : base.objs.size ≤ s.heap.objs.size
  funs : s.heap.FunFrames base outer
  frf : ∀ b ∈ frs outer, H b = none
  hok : HOk P w H s.heap
  bare : AllBare s.gens
noncomputable def CE (outer : List Env) (P : Program) (w : World) (H : Hp) (s : Shared) (Q : VK) (u : Value) (s' : Shared) : Prop :=
  ∃ v H', s'.os = s.os ∧ AllBare s'.gens ∧ Un (frs outer) [] H H' s.heap s'.heap ∧ HOk P w H' s'.heap ∧ RelV v u ∧ Q v H'
noncomputable def CR (CX : CXT) (outer : List Env) (P : Program) (w : World) (H : Hp) (s : Shared) (Q : VK) (E : XK) (r : Result) (s' : Shared) : Prop :=
  match r with
  | .ok (.ret u) => CE outer P w H s Q u s'
  | .ok _ => False
  | .error e => CX outer H s E e s'
structure FnOk (P : Program) (w : World) (K : PySem.W.Frag) (mg : Str → Option Value) (base : Heap) (CX : CXT) (k : Nat) (f : Addr) (fd : FuncData) (ps : List Str) (sp : Sp) : Prop where
  len : ∀ vs H Q E, sp vs H Q E → vs.length = ps.length
  run : ∀ (A : Around) (outer : List Env) (s : Shared) (H : Hp) (args : Args) (us : List Value) (vs : List V) (Q : VK) (E : XK), Room k A → Env0 P w K mg base A outer s H → BindsTo s fd args (ps.zip us) → Vals vs us → sp vs H Q E →
    codeAny (model P w) A (.call (.ref f) args) (CR CX outer P w H s Q E) s
theorem FnOk.mono {P : Program} {w : World} {K : PySem.W.Frag} {mg : Str → Option Value} {base : Heap} {CX : CXT} {j k : Nat} {f : Addr} {fd : FuncData} {ps : List Str} {sp : Sp} (F : FnOk P w K mg base CX j f fd ps sp) (h : j ≤ k) :
    FnOk P w K mg base CX k f fd ps sp := ⟨F.len, fun A outer s H args us vs Q E hr => F.run A outer s H args us vs Q E (hr.mono h)⟩
theorem Env0.make {P : Program} {w : World} {K : PySem.W.Frag} {mg : Str → Option Value} {base : Heap} {A : Around} {outer : List Env} {s : Shared} {H : Hp} (e : Env0 P w K mg base A outer s H) (C : Addr) (us : List Value) (kw : List (Str × Value)) :
    Env0 P w K mg base (A.under (.builtin "type.__call__" ⟨.ref C :: us, kw⟩)) outer s H := ⟨by first | exact e.frames | (simpa [Around.under, Code.envs, Code.isFrame, pushEnvs] using e.frames), e.mod, e.bs, e.bsz, e.funs, e.frf, e.hok, e.bare⟩
theorem Env0.in1 {P : Program} {w : World} {K : PySem.W.Frag} {mg : Str → Option Value} {base : Heap} {A : Around} {outer : List Env} {s : Shared} {H : Hp} (e : Env0 P w K mg base A outer s H) :
    Env0 P w K mg base A.in1 outer s H := ⟨e.frames, e.mod, e.bs, e.bsz, e.funs, e.frf, e.hok, e.bare⟩
section
variable {X : Cx} {pins : List (Addr × Obj)} {σ : St} {H : Hp} {s s' : Shared}
theorem Inv.env0 (I : Inv X pins σ H s) : Env0 X.prog X.w X.K X.mg X.base X.A X.stack s H :=
  ⟨I.ok.frames, I.ok.mod, I.bs, Nat.le_trans I.ok.bsz I.sz, I.stack, I.stkFree, I.hok, I.bare⟩
theorem Inv.after {Q : VK} {u : Value} (I : Inv X pins σ H s) (h : CE X.stack X.prog X.w H s Q u s') : EP X pins σ Q u s' := by
  obtain ⟨v, H', os, bare, un, hok, r, q⟩ := h
  obtain ⟨hh, g, d, t, os'⟩ := s'
  obtain rfl : os' = s.os := os
  exact ⟨v, H', I.call (h' := hh) (g' := g) (d' := d) (t' := t) (ch := []) un hok bare (fun b z => absurd z (by simp)), r, q⟩
end
noncomputable def tCall (sp : Sp) (dvs : List V) (E : XK) (t : TA) : TE := fun σ H Q => t σ H fun vs H1 => sp (vs ++ dvs) H1 Q E
noncomputable def tMeth (C : Addr) (m : Str) (sp : Sp) (dvs : List V) (E : XK) (ta : TE) (t : TA) : TE := fun σ H Q => ta σ H fun x H1 => ∃ a dx fs, x = .ref a ∧ H1 a = some (.ins C dx fs) ∧ fs.lookup m = none ∧
  t σ H1 fun vs H2 => sp (x :: (vs ++ dvs)) H2 Q E
noncomputable def tMake (C : Addr) (sp : Sp) (dvs : List V) (E : XK) (t : TA) : TE := fun σ H Q => t σ H fun vs H1 => ∀ x dx, H1 x = none → H1 dx = none → dx ≠ x →
  sp (.ref x :: (vs ++ dvs)) (upd (upd H1 dx (.own x)) x (.ins C dx [])) (fun v H2 => v = .non ∧ Q (.ref x) H2) E
noncomputable def Binds (K : PySem.W.Frag) (fd : FuncData) (ps : List Str) (ds : List Value) : Prop :=
  ∀ (s : Shared) (us : List Value), K.In s.heap → (us ++ ds).length = ps.length → BindsTo s fd ⟨us, []⟩ (ps.zip (us ++ ds))
theorem Binds.all {K : PySem.W.Frag} {fd : FuncData} {ps : List Str} (h : ∀ us : List Value, us.length = ps.length → bindArgs fd ⟨us, []⟩ = pure (ps.zip us)) : Binds K fd ps [] := fun s us _ hl => by
  rw [List.append_nil] at hl ⊢
  exact .of_eq (h us hl)
noncomputable def Passes (CX : CXT) (X : Cx) (E : XK) : Prop := ∀ (pins : List (Addr × Obj)) (σ : St) (H : Hp) (s : Shared) (e : Value) (s' : Shared), Inv X pins σ H s → CX X.stack H s E e s' → X.xe e s'
section
variable {X : Cx} {CX : CXT} {k : Nat} {f C : Addr} {fd : FuncData} {ps : List Str} {sp : Sp} {dvs : List V} {ds : List Value} {E : XK} {x m : Str} {p pos apos : Pos} {e o : Expr} {es : List Expr} {ta : TE} {t : TA}
theorem run_fn {pins : List (Addr × Obj)} {σ : St} {H : Hp} {s : Shared} {Q : VK} {us : List Value} {vs : List V} (F : FnOk X.prog X.w X.K X.mg X.base CX k f fd ps sp) (hr : Room k X.A) (hb : Binds X.K fd ps ds) (hd : Vals dvs ds) (hx : Passes CX X E)
    (I : Inv X pins σ H s) (r : Vals vs us) (h : sp (vs ++ dvs) H Q E) : wpAny (model X.prog X.w) X.A (call (.ref f) us) (EP X pins σ Q) X.xe s := by
  have r2 : Vals (vs ++ dvs) (us ++ ds) := r.append hd
  have hl : (us ++ ds).length = ps.length := by rw [← r2.length]; exact F.len _ _ _ _ h
  refine wpAny_call (codeAny_mono (F.run X.A X.stack s H ⟨us, []⟩ (us ++ ds) (vs ++ dvs) Q E hr I.env0 (hb s us I.kIn hl) r2 h) fun r s' hq => ?_)
  cases r with
  | error e => exact hx pins σ H s e s' I hq
  | ok fl =>
    cases fl with
    | ret u => exact I.after hq
    | next => exact False.elim hq
    | brk => exact False.elim hq
    | cont => exact False.elim hq
theorem pe_call (F : FnOk X.prog X.w X.K X.mg X.base CX k f fd ps sp) (hr : Room k X.A) (hg : Gl X x) (hm : X.mg x = some (.ref f)) (hk : PySem.W.keepIn X.K (.ref f) = true) (hb : Binds X.K fd ps ds) (hd : Vals dvs ds) (hx : Passes CX X E)
    (ha : PA X (e :: es) t) (hdb : (x == ("__debug__" : Str)) = false := by decide) (he : starEach (e :: es) X.env = (false, eval e X.env) :: starEach es X.env := by rfl) (hpl : (backTo pos (starEach es X.env)).any (·.1) = false := by rfl) :
    PE X (.Call (.Name x p) (e :: es) [] pos) (tCall sp dvs E t) := by
  intro pins s σ H Q I h
  refine wpAny_Call_Name_kw (ld_glob I hg hm ?_ hdb)
  refine PySem.W.callWith_K (h₀ := X.base) I.ok.mod.kin hk (thn (ha pos pins s σ H _ I h) fun us s1 ⟨vs, H1, I1, r, q⟩ => ⟨I1.kIn, ?_⟩) he hpl
  exact run_fn F hr hb hd hx I1 r q
theorem pe_meth {pl : Sem Bool} (he : PE X o ta) (c : Cls X.K C) (hm : Meth X.K C m f) (F : FnOk X.prog X.w X.K X.mg X.base CX k f fd ps sp) (hr : Room k X.A) (hb : Binds X.K fd ps ds) (hd : Vals dvs ds) (hx : Passes CX X E) (ha : PA X (e :: es) t)
    (hst : starEach (e :: es) X.env = (false, eval e X.env) :: starEach es X.env := by rfl) (hpl : (backTo pos (starEach es X.env)).any (·.1) = false := by rfl)
    (ht : eval (.Call (.Attribute o m apos) (e :: es) [] pos) X.env = (do
      let ov ← eval o X.env
      standAt apos.atName
      let (f, first) ← holding [ov] (getMethod ov m pl)
      callWith pos f first (backTo pos (starEach (e :: es) X.env)) (backToKw pos (keywordEach [] X.env))) := by rfl) :
    PE X (.Call (.Attribute o m apos) (e :: es) [] pos) (tMeth C m sp dvs E ta t) := by
  intro pins s σ H Q I h
  refine PySem.W.methodCall_KW (pl := pl) (thn (he pins s σ H _ I h) fun u s1 ⟨x, H1, I1, rx, a, dx, fs, ex, ea, l, q⟩ => ?_) ht
  subst ex
  obtain rfl : u = Value.ref a := rx
  refine getmeth_ok I1 ea c hm l ?_
  refine PySem.W.callWith_K (first := [.ref a]) (h₀ := X.base) I.ok.mod.kin hm.kp (thn (ha pos pins s1 σ H1 _ I1 q) fun us s2 ⟨vs, H2, I2, r, q2⟩ => ⟨I2.kIn, ?_⟩) hst hpl
  exact run_fn (us := .ref a :: us) (vs := .ref a :: vs) F hr hb hd hx I2 (.cons rfl r) q2
theorem pe_meth0 {pl : Sem Bool} (he : PE X o ta) (c : Cls X.K C) (hm : Meth X.K C m f) (F : FnOk X.prog X.w X.K X.mg X.base CX k f fd ps sp) (hr : Room k X.A) (hb : Binds X.K fd ps ds) (hd : Vals dvs ds) (hx : Passes CX X E)
    (ht : eval (.Call (.Attribute o m apos) [] [] pos) X.env = (do
      let ov ← eval o X.env
      standAt apos.atName
      let (f, first) ← holding [ov] (getMethod ov m pl)
      callWith pos f first (backTo pos (starEach [] X.env)) (backToKw pos (keywordEach [] X.env))) := by rfl) :
    PE X (.Call (.Attribute o m apos) [] [] pos) (tMeth C m sp dvs E ta tNil) := by
  intro pins s σ H Q I h
  refine PySem.W.methodCall_KW (pl := pl) (thn (he pins s σ H _ I h) fun u s1 ⟨x, H1, I1, rx, a, dx, fs, ex, ea, l, q⟩ => ?_) ht
  subst ex
  obtain rfl : u = Value.ref a := rx
  refine getmeth_ok I1 ea c hm l ?_
  exact PySem.W.callWith_K0 (first := [.ref a]) I1.kIn hm.kp (run_fn (us := [.ref a]) (vs := [.ref a]) F hr hb hd hx I1 (.cons rfl .nil) q)
structure Mk (K : PySem.W.Frag) (C f : Addr) : Prop where
  makes : PySem.W.makesIn K C = true
  init : PySem.W.findIn K (.ref C) "__init__" = some (some (.ref f))
  fn : PySem.W.isFn K (.ref f) = true
  kp : PySem.W.keepIn K (.ref C) = true
theorem run_make {pins : List (Addr × Obj)} {σ : St} {H : Hp} {s : Shared} {Q : VK} {us : List Value} {vs : List V} (M : Mk X.K C f) (F : FnOk X.prog X.w X.K X.mg X.base CX k f fd ps sp) (hr : Room (k + 1) X.A) (hb : Binds X.K fd ps ds) (hd : Vals dvs ds)
    (hx : Passes CX X E) (I : Inv X pins σ H s) (r : Vals vs us)
    (h : ∀ x dx, H x = none → H dx = none → dx ≠ x → sp (.ref x :: (vs ++ dvs)) (upd (upd H dx (.own x)) x (.ins C dx [])) (fun v H2 => v = .non ∧ Q (.ref x) H2) E) :
    wpAny (model X.prog X.w) X.A (call (.ref C) us) (EP X pins σ Q) X.xe s := by
  have hq := h (s.heap.objs.size + 1) s.heap.objs.size (I.hok.fresh (Nat.le_succ _)) (I.hok.fresh (Nat.le_refl _)) (Nat.ne_of_lt (Nat.lt_succ_self _))
  have I2 := Inv.made (C := C) I
  have r2 : Vals (V.ref (s.heap.objs.size + 1) :: (vs ++ dvs)) (Value.ref (s.heap.objs.size + 1) :: (us ++ ds)) := .cons rfl (r.append hd)
  have hl : (Value.ref (s.heap.objs.size + 1) :: us ++ ds).length = ps.length := by
    have e := r2.length
    rw [F.len _ _ _ _ hq] at e
    exact e.symm
  refine wpAny_call (make_map (f := f) I.kIn M.makes M.init (beq_iff_eq.mp M.fn) (codeAny_mono (F.run _ X.stack _ _ ⟨Value.ref (s.heap.objs.size + 1) :: us, []⟩ (Value.ref (s.heap.objs.size + 1) :: (us ++ ds)) _ _ E (hr.make C us [])
    (I2.env0.make C us []) (hb _ (Value.ref (s.heap.objs.size + 1) :: us) I2.kIn hl) r2 hq) fun r s' hq' => ?_))
  cases r with
  | error e => exact hx pins σ _ _ e s' I2 hq'
  | ok fl =>
    cases fl with
    | ret u =>
      obtain ⟨v, H', I3, rv, ev, q3⟩ := I2.after hq'
      subst ev
      exact ⟨rv, ⟨V.ref (s.heap.objs.size + 1), H', I3, rfl, q3⟩⟩
    | next => exact False.elim hq'
    | brk => exact False.elim hq'
    | cont => exact False.elim hq'
theorem pe_make (M : Mk X.K C f) (F : FnOk X.prog X.w X.K X.mg X.base CX k f fd ps sp) (hr : Room (k + 1) X.A) (hg : Gl X x) (hm : X.mg x = some (.ref C)) (hb : Binds X.K fd ps ds) (hd : Vals dvs ds) (hx : Passes CX X E)
    (ha : PA X (e :: es) t) (hdb : (x == ("__debug__" : Str)) = false := by decide) (he : starEach (e :: es) X.env = (false, eval e X.env) :: starEach es X.env := by rfl) (hpl : (backTo pos (starEach es X.env)).any (·.1) = false := by rfl) :
    PE X (.Call (.Name x p) (e :: es) [] pos) (tMake C sp dvs E t) := by
  intro pins s σ H Q I h
  refine wpAny_Call_Name_kw (ld_glob I hg hm ?_ hdb)
  refine PySem.W.callWith_K (h₀ := X.base) I.ok.mod.kin M.kp (thn (ha pos pins s σ H _ I h) fun us s1 ⟨vs, H1, I1, r, q⟩ => ⟨I1.kIn, ?_⟩) he hpl
  exact run_make M F hr hb hd hx I1 r q
theorem pe_make0 (M : Mk X.K C f) (F : FnOk X.prog X.w X.K X.mg X.base CX k f fd ps sp) (hr : Room (k + 1) X.A) (hg : Gl X x) (hm : X.mg x = some (.ref C)) (hb : Binds X.K fd ps ds) (hd : Vals dvs ds) (hx : Passes CX X E)
    (hdb : (x == ("__debug__" : Str)) = false := by decide) : PE X (.Call (.Name x p) [] [] pos) (tMake C sp dvs E tNil) := by
  intro pins s σ H Q I h
  refine wpAny_Call_Name_kw (ld_glob I hg hm ?_ hdb)
  exact PySem.W.callWith_K0 I.kIn M.kp (run_make (us := []) M F hr hb hd hx I .nil h)
end
section
variable {X : Cx} {CX : CXT} {k : Nat} {f C : Addr} {fd : FuncData} {ps ks : List Str} {sp : Sp} {E : XK} {x m : Str} {p pos apos kpos : Pos} {e o : Expr} {es : List Expr} {kws : List Keyword} {te ta : TE} {t tk : TA} {nm : Option Str}
variable {g : List Value → List Value → List Value} {gV : List V → List V → List V}
end
structure FnScope (N P : List Str) (sc : Scope) : Prop where
  kind : sc.kind = .function
  co : sc.isCoroutine = false
  gen : sc.isGenerator = false
  nd : N.Nodup
  pre : N.take P.length = P
  par : ∀ x ∈ P, sc.names.lookup x = some .local ∨ sc.names.lookup x = some .cell
  nofree : ∀ y ∈ sc.names, y.2 ≠ .free
theorem bindL_out {kindOf : Str → Option NameKind} {x : Str} : ∀ {binds : List (Str × Value)} {m : Str → Option Value}, (∀ v, (x, v) ∉ binds) → bindL kindOf binds m x = m x
  | [], _, _ => rfl
  | (n, v) :: r, m, h => by
    unfold bindL
    rw [bindL_out fun w hw => h w (List.mem_cons_of_mem _ hw)]
    split
    · have : x ≠ n := by rintro rfl; exact h v List.mem_cons_self
      simp [this]
    · rfl
theorem bindC_out {kindOf : Str → Option NameKind} {x : Str} : ∀ {binds : List (Str × Value)} {m : Str → Option Value}, (∀ v, (x, v) ∉ binds) → bindC kindOf binds m x = m x
  | [], _, _ => rfl
  | (n, v) :: r, m, h => by
    unfold bindC
    rw [bindC_out fun w hw => h w (List.mem_cons_of_mem _ hw)]
    split
    · rfl
    · have : x ≠ n := by rintro rfl; exact h v List.mem_cons_self
      simp [this]
theorem bindL_get {kindOf : Str → Option NameKind} {x : Str} {v : Value} : ∀ {P : List Str} {vs : List Value} {i : Nat} {m : Str → Option Value}, P.Nodup → P[i]? = some x → vs[i]? = some v → kindOf x = some .local →
    bindL kindOf (P.zip vs) m x = some v
  | [], _, _, _, _, h, _, _ => by simp at h
  | _ :: _, [], _, _, _, _, h, _ => by simp at h
  | p :: P, w :: vs, 0, m, nd, h1, h2, hk => by
    simp at h1 h2; subst h1; subst h2
    show bindL kindOf ((p, w) :: P.zip vs) m p = _
    unfold bindL
    rw [bindL_out fun v hv => (List.nodup_cons.mp nd).1 (List.of_mem_zip hv).1, if_pos hk]
    simp
  | p :: P, w :: vs, i + 1, m, nd, h1, h2, hk => by
    show bindL kindOf ((p, w) :: P.zip vs) m x = _
    unfold bindL
    exact bindL_get (i := i) (List.nodup_cons.mp nd).2 (by simpa using h1) (by simpa using h2) hk
theorem bindC_get {kindOf : Str → Option NameKind} {x : Str} {v : Value} : ∀ {P : List Str} {vs : List Value} {i : Nat} {m : Str → Option Value}, P.Nodup → P[i]? = some x → vs[i]? = some v → kindOf x ≠ some .local →
    bindC kindOf (P.zip vs) m x = some v
  | [], _, _, _, _, h, _, _ => by simp at h
  | _ :: _, [], _, _, _, _, h, _ => by simp at h
  | p :: P, w :: vs, 0, m, nd, h1, h2, hk => by
    simp at h1 h2; subst h1; subst h2
    show bindC kindOf ((p, w) :: P.zip vs) m p = _
    unfold bindC
    rw [bindC_out fun v hv => (List.nodup_cons.mp nd).1 (List.of_mem_zip hv).1, if_neg hk]
    simp
  | p :: P, w :: vs, i + 1, m, nd, h1, h2, hk => by
    show bindC kindOf ((p, w) :: P.zip vs) m x = _
    unfold bindC
    exact bindC_get (i := i) (List.nodup_cons.mp nd).2 (by simpa using h1) (by simpa using h2) hk
noncomputable def start (N : List Str) (vs : List V) : St := vs.map some ++ List.replicate (N.length - vs.length) none
noncomputable def cxOf (CX : CXT) (P : Program) (w : World) (K : PySem.W.Frag) (mg : Str → Option Value) (base : Heap) (N : List Str) (qual : Str) (scope : Scope) (f : Addr) (cd : Value) (A : Around) (outer : List Env) (s : Shared) (H : Hp) (E : XK) : Cx where
  prog := P
  w := w
  K := K
  mg := mg
  base := base
  A := A.deeper (envOfC qual scope s.heap.objs.size f cd)
  N := N
  s_0 := s
  H_0 := H
  env := envOfC qual scope s.heap.objs.size f cd
  outer := outer
  stack := envOfC qual scope s.heap.objs.size f cd :: outer
  ex := []
  calm := true
  fn := fun _ => true
  pn := []
  xe := fun e s' => wpAny (model P w) (A.deeper (envOfC qual scope s.heap.objs.size f cd)) (leaving (envOfC qual scope s.heap.objs.size f cd) e) (fun _ s'' => CX outer H s E e s'') (fun e' s'' => CX outer H s E e' s'') s'
theorem cell_has {sc : Scope} {n : Nat} {x : Str} (h : sc.names.lookup x = some .cell) : ∃ c, (cellsFrom n sc.names []).lookup x = some c := by
  have q := PySem.W.cellsFrom_some sc.names n [] (.inl h)
  exact Option.isSome_iff_exists.mp q
theorem inv_start {CX : CXT} {P : Program} {w : World} {K : PySem.W.Frag} {mg : Str → Option Value} {base : Heap} {N ps : List Str} {qual : Str} {scope : Scope} {f : Addr} {cd : Value} {A : Around} {outer : List Env} {s s1 : Shared} {H : Hp} {E : XK} {us : List Value} {vs : List V}
    (S : FnScope N ps scope) (hd : A.handled = none) (e0 : Env0 P w K mg base A outer s H) (hl : vs.length = ps.length) (r : Vals vs us)
    (x : InCallC s s.heap.objs.size (bindL (envOfC qual scope s.heap.objs.size f cd).kindOf (ps.zip us) fun _ => none) (cellsFrom (s.heap.objs.size + 1) scope.names []) (bindC (envOfC qual scope s.heap.objs.size f cd).kindOf (ps.zip us) fun _ => none) s1) :
    Inv (cxOf CX P w K mg base N qual scope f cd A outer s H E) [] (start N vs) H s1 := by
  have hpl : ps.length ≤ N.length := by have := congrArg List.length S.pre; rw [List.length_take] at this; omega
  obtain ⟨h1, tk, rfl, hk⟩ := x.done
  have noA : ∀ b : Addr, b ∉ (cxOf CX P w K mg base N qual scope f cd A outer s H E).ex := fun b z => absurd (show b ∈ ([] : List Addr) from z) (by simp)
  refine ⟨⟨e0.mod, S.kind, rfl, rfl, Nat.le_refl _, fun y z c h1 h2 => ?_, fun y hy => ?_, fun y c _ h => ?_, fun _ => hd, Around.frames_deeper e0.frames, .inr ⟨rfl, rfl⟩, fun b z => absurd z (noA b), e0.bs, e0.bsz, fun b _ _ => noA b, fun b z => absurd z (noA b), e0.funs, e0.frf⟩,
    rfl, e0.bare, Un.kept hk, ⟨_, x.toInCall.ns, fun i y v h1 h2 h3 => ?_⟩, fun y c h => ⟨_, x.cell y c h⟩, e0.hok.fresh (Nat.le_refl _), fun y c h => ?_, fun p hp => absurd (show p ∈ ([] : List (Addr × Obj)) from hp) (by simp), e0.hok.kept hk, ?_⟩
  · exact name_of_addr x.apart (PySem.mem_of_lookup h1) (PySem.mem_of_lookup h2)
  · have hy : scope.names.lookup y = some .cell ∨ scope.names.lookup y = some .free := hy
    rcases hy with hy | hy
    · exact cell_has hy
    · exact absurd rfl (S.nofree _ (PySem.mem_of_lookup hy))
  · exact Nat.le_of_lt (x.above y c (PySem.mem_of_lookup h))
  · have hi : i < vs.length := by
      unfold start at h2
      by_cases hi : i < vs.length
      · exact hi
      · rw [List.getElem?_append_right (by simpa using hi)] at h2
        rw [List.getElem?_replicate] at h2
        split at h2 <;> cases h2
    have ha : vs[i]? = some v := by
      unfold start at h2
      rw [List.getElem?_append_left (by simpa using hi), List.getElem?_map] at h2
      cases e : vs[i]? with
      | none => rw [e] at h2; cases h2
      | some a => rw [e] at h2; cases h2; rfl
    obtain ⟨u, hu, rv⟩ := r.get ha
    have hp : ps[i]? = some y := by
      rw [← S.pre, List.getElem?_take_of_lt (by omega)]; exact h1
    have ndP : ps.Nodup := by rw [← S.pre]; exact S.nd.sublist (List.take_sublist _ _)
    refine ⟨u, rv, ?_⟩
    rcases S.par y (List.mem_of_getElem? hp) with k | k
    · exact .inl ⟨k, bindL_get ndP hp hu k⟩
    · obtain ⟨c, e⟩ := cell_has (n := s.heap.objs.size + 1) k
      refine .inr ⟨.inl k, c, e, ?_⟩
      have q := x.cell y c e
      rw [bindC_get ndP hp hu (by show scope.names.lookup y ≠ _; rw [k]; decide)] at q
      exact q
  · exact e0.hok.fresh (Nat.le_of_lt (x.above y c (PySem.mem_of_lookup h)))
  · unfold start
    show _ = N.length
    rw [List.length_append, List.length_map, List.length_replicate]
    omega
theorem fn_of {CX : CXT} {P : Program} {w : World} {K : PySem.W.Frag} {mg : Str → Option Value} {base : Heap} {k : Nat} {f : Addr} {name qual : Str} {params : Arguments} {body : List Stmt} {scope : Scope} {dV kV doc pm cdv ct oc : Value} {an od : Option Addr}
    {osl : Array (Option Value)} {N ps : List Str} {sp : Sp} (lk : K.lookup f = some ⟨oc, od, .func (PySem.W.fnOf name qual params body scope dV kV doc pm an cdv ct), osl⟩) (hcd : PySem.W.codeIn K cdv qual = true) (S : FnScope N ps scope)
    (len : ∀ vs H Q E, sp vs H Q E → vs.length = ps.length)
    (hbody : ∀ (A : Around) (outer : List Env) (s : Shared) (H : Hp) (vs : List V) (Q : VK) (E : XK), Room k (A.deeper (envOfC qual scope s.heap.objs.size f cdv)) → sp vs H Q E →
      ∃ t, PSs (cxOf CX P w K mg base N qual scope f cdv A outer s H E) body t ∧ t { nx := fun _ H' => Q .non H', rt := Q } (start N vs) H) :
    FnOk P w K mg base CX (k + 1) f (PySem.W.fnOf name qual params body scope dV kV doc pm an cdv ct) ps sp := by
  refine ⟨len, fun A outer s H args us vs Q E hr e0 hb r hsp => ?_⟩
  have hl := len _ _ _ _ hsp
  have KX : K.In s.heap := e0.mod.kin.keeps fun b o e => (e0.bs b o e).1
  have lim : s.heap.NoLimit := e0.mod.nolimit.keeps fun b o e => (e0.bs b o e).1
  have hkind : ∀ y ∈ ps.zip us, scope.names.lookup y.1 = some .local ∨ (scope.names.lookup y.1 = some .cell ∧ ((cellsFrom (s.heap.objs.size + 1) scope.names []).lookup y.1).isSome = true) := fun ⟨n, v⟩ hy => by
    rcases S.par n (List.of_mem_zip hy).1 with q | q
    · exact .inl q
    · exact .inr ⟨q, PySem.W.cellsFrom_some _ _ _ (.inl q)⟩
  refine codeAny_call_function hr.depth (KX _ _ lk) rfl S.co S.gen rfl (PySem.W.codeRec_of KX hcd) (hb _ _ _ _ ?_)
  refine wpAny_newFunctionEnv_cells S.kind hkind fun env he s1 x => ?_
  subst he
  refine ⟨lim.keeps x.toInCall.keep, codeAny_func ?_⟩
  obtain ⟨t, ht, hq⟩ := hbody A outer s H vs Q E (hr.deeper _) hsp
  have I : Inv (cxOf CX P w K mg base N qual scope f cdv A outer s H E) [] (start N vs) H s1 := inv_start S hr.hd e0 hl r x
  refine wpAny_mono (ht [] s1 (start N vs) H _ I hq) (fun fl s' hs => ?_) fun e s' hs => hs
  have fin : ∀ {σ' : St} {H' : Hp} {v : V} {u : Value}, Inv (cxOf CX P w K mg base N qual scope f cdv A outer s H E) [] σ' H' s' → RelV v u → Q v H' → CE outer P w H s Q u s' :=
    fun {σ' H' v u} J rv q => ⟨v, H', J.os, J.bare, J.base, J.hok, rv, q⟩
  cases fl with
  | ret u =>
    obtain ⟨v, σ', H', J, rv, q⟩ := hs
    exact fin J rv q
  | next =>
    obtain ⟨σ', H', J, q⟩ := hs
    exact fin (v := V.non) (u := Value.none) J rfl q
  | brk =>
    obtain ⟨_, _, _, q⟩ := hs
    exact False.elim q
  | cont =>
    obtain ⟨_, _, _, q⟩ := hs
    exact False.elim q
end L2
namespace L2
open PySem PySem.Spec PyProof.Rows
section
variable {X : Cx} {x : Str} {p pos : Pos} {e : Expr} {es : List Expr} {t : TA} {id T : String} {r : List V → Hp → VK → Prop}
noncomputable def tCB (r : List V → Hp → VK → Prop) (t : TA) : TE := fun σ H Q => t σ H fun vs H1 => r vs H1 Q
theorem pe_callB (hc : CallR X (.builtin id) r) (hg : Gl X x) (hm : X.mg x = none) (hv : bootBuiltins x = some (.builtin id)) (ha : PA X (e :: es) t) (hn : x ≠ "__name__" := by decide) (hdb : (x == ("__debug__" : Str)) = false := by decide)
    (he : starEach (e :: es) X.env = (false, eval e X.env) :: starEach es X.env := by rfl) (hpl : (backTo pos (starEach es X.env)).any (·.1) = false := by rfl) : PE X (.Call (.Name x p) (e :: es) [] pos) (tCB r t) := by
  intro pins s σ H Q I h
  refine wpAny_Call_Name_kw (ld_blt I hg hm hv ?_ hn hdb)
  exact PyProof.Rows.callWith_builtin1 (thn (ha pos pins s σ H _ I h) fun us s1 ⟨vs, H1, I1, r1, q1⟩ => hc pins s1 σ H1 vs us Q I1 r1 q1) he hpl
theorem pe_callTy (hc : CallR X (.type T) r) (hg : Gl X x) (hm : X.mg x = none) (hv : bootBuiltins x = some (.type T)) (ha : PA X (e :: es) t) (hn : x ≠ "__name__" := by decide) (hdb : (x == ("__debug__" : Str)) = false := by decide)
    (he : starEach (e :: es) X.env = (false, eval e X.env) :: starEach es X.env := by rfl) (hpl : (backTo pos (starEach es X.env)).any (·.1) = false := by rfl) : PE X (.Call (.Name x p) (e :: es) [] pos) (tCB r t) := by
  intro pins s σ H Q I h
  refine wpAny_Call_Name_kw (ld_blt I hg hm hv ?_ hn hdb)
  exact PyProof.Rows.callWith_type1 (thn (ha pos pins s σ H _ I h) fun us s1 ⟨vs, H1, I1, r1, q1⟩ => hc pins s1 σ H1 vs us Q I1 r1 q1) he hpl
end
end L2
namespace HT
open PySem PyProof.Rows
theorem rcLt_int (A : Around) (s : Shared) (a : Int) (t : Tok) (c : Int) (u : Tok) (prog : Program) (w : World) (E : Value → Shared → Prop) (Q : Value → Shared → Prop) (h : Q (.bool (decide (a < c))) s) :
    wpAny (model prog w) A (richCompare .Lt (.int a t) (.int c u)) Q E s :=
  (PyProof.Rows.lt_int h : wpAny (model prog w) A (compareOp .Lt (.int a t) (.int c u)) Q E s)
section
open PySem.SeqAt
open PySem.AutoSeq1 (wpAny_loadPart')
open PySem.MeetsSeq PySem.MeetsSeq2 PySem.MeetsSeq3
end
section
variable {prog : Program} {w : World} {A : Around} {E : Value → Shared → Prop} {s : Shared}
theorem cat_tup {t b : Addr} {vs ws : List Value} {Q : Value → Shared → Prop} (ht : IsTup s.heap t vs.toArray) (hb : IsTup s.heap b ws.toArray) (hv : vs ≠ [])
    (h1 : ws = [] → Q (.ref t) s) (h2 : ws ≠ [] → Q (.ref s.heap.objs.size) { s with heap := s.heap.push { cls := .type "tuple", data := .seq (vs ++ ws).toArray } })
    (hsz : vs.length + ws.length ≤ sizeLine) : wpAny (model prog w) A (binaryOp .Add (.ref t) (.ref b)) Q E s := by
  obtain ⟨⟨cls, dd, data, sl⟩, ho, hc, n, hd⟩ := id ht
  obtain ⟨⟨cls2, dd2, data2, sl2⟩, ho2, hc2, n2, hd2⟩ := id hb
  simp only at hc hd hc2 hd2
  subst hc hd hc2 hd2
  have e : vs.toArray ++ ws.toArray = (vs ++ ws).toArray := by simp
  by_cases hw : ws = []
  · exact concat_meets ⟨_, ho, rfl⟩ ⟨_, ho2, rfl⟩ noFill_tuple_add seq_tuple_add PySem.F.slot_tuple_add PySem.F.entry_tuple_add (PySem.F.args_tuple_add_2 _ _)
      (tuple_addW1 t b vs.toArray ws.toArray n n2 dd dd2 sl sl2 (by simpa using hv) (by simp [hw])) ⟨ho, ho2, h1 hw⟩
  · refine concat_meets ⟨_, ho, rfl⟩ ⟨_, ho2, rfl⟩ noFill_tuple_add seq_tuple_add PySem.F.slot_tuple_add PySem.F.entry_tuple_add (PySem.F.args_tuple_add_2 _ _)
      (tuple_addW2 t b vs.toArray ws.toArray n n2 dd dd2 sl sl2 (by simpa using hv) (by simpa using hw) (by rw [List.size_toArray, List.size_toArray]; exact hsz)) ⟨ho, ho2, ?_⟩
    rw [e]
    exact h2 hw
noncomputable def sIx (n d : Nat) : Option Int → Nat
  | none => d
  | some v => if v < 0 then (v + (n : Int)).toNat else min v.toNat n
theorem sIx_none (n d : Nat) : sIx n d none = d := rfl
theorem sIx_nat (n d k : Nat) : sIx n d (some (k : Int)) = min k n := by
  show (if (k : Int) < 0 then ((k : Int) + (n : Int)).toNat else min (k : Int).toNat n) = min k n
  rw [if_neg (by omega), Int.toNat_natCast]
theorem sIx_le (n d : Nat) (hd : d ≤ n) (o : Option Int) : sIx n d o ≤ n := by
  cases o with
  | none => exact hd
  | some v =>
    show (if v < 0 then (v + (n : Int)).toNat else min v.toNat n) ≤ n
    by_cases hv : v < 0
    · rw [if_pos hv]; omega
    · rw [if_neg hv]; exact Nat.min_le_right _ _
theorem clip_eq (v : Int) (n d : Nat) : (if v < 0 then max (v + (n : Int)) 0 else min v (n : Int)) = ((sIx n d (some v) : Nat) : Int) := by
  show (if v < 0 then max (v + (n : Int)) 0 else min v (n : Int)) = (((if v < 0 then (v + (n : Int)).toNat else min v.toNat n) : Nat) : Int)
  by_cases hv : v < 0
  · simp only [if_pos hv]; omega
  · simp only [if_neg hv]; omega
theorem adjust_gen (lo hi : Option Int) (n : Nat) : Builtin.Slice.sliceAdjust lo hi 1 (n : Int) = (((sIx n 0 lo : Nat) : Int), ((sIx n n hi : Nat) : Int)) := by
  have h1 : ¬ ((1 : Int) < 0) := by omega
  unfold Builtin.Slice.sliceAdjust
  simp only [h1, if_false]
  refine Prod.ext ?_ ?_
  · cases lo with
    | none => rfl
    | some v => exact clip_eq v n 0
  · cases hi with
    | none => rfl
    | some v => exact clip_eq v n n
theorem places_gen (i j : Nat) : Builtin.Slice.slicePlaces (i : Int) (j : Int) 1 = j - i := by
  unfold Builtin.Slice.slicePlaces
  have h1 : (1 : Int) > 0 := by omega
  simp only [h1, if_true, Int.ediv_one]
  split <;> omega
theorem slicePart_ {v : Value} {o : Option Int} {Q : Option Int → Shared → Prop} (p : IsPart v o) (h : Q o s) : wpAny (model prog w) A (Builtin.Slice.slicePartIndex v) Q E s := by
  cases p with
  | none => exact slicePart_none h
  | int i t => exact slicePart_int h
theorem sliceApplied_gen {sl : Addr} {vl vu : Value} {lo hi : Option Int} {n : Nat} {Q : Int × Int × Nat → Shared → Prop} (hs : s.heap.IsSliceOf sl vl vu .none) (pl : IsPart vl lo) (pu : IsPart vu hi)
    (h : Q (((sIx n 0 lo : Nat) : Int), 1, sIx n n hi - sIx n 0 lo) s) : wpAny (model prog w) A (Builtin.Slice.sliceApplied (.ref sl) (pure (n : Int))) Q E s := by
  obtain ⟨os, hos, hcs, hds⟩ := id hs
  unfold Builtin.Slice.sliceApplied Builtin.Slice.sliceFields
  refine wpAny_bind (wpAny_bind (wpAny_field hos hds (x := vl) rfl (wpAny_bind (wpAny_field hos hds (x := vu) rfl (wpAny_bind (wpAny_field hos hds (x := .none) rfl (wpAny_pure ?_)))))))
  refine wpAny_bind (slicePart_none ?_)
  show wpAny _ _ (if ((1 : Int) == 0) = true then _ else _) _ _ s
  rw [if_neg (by decide)]
  refine wpAny_bind (slicePart_ pl (wpAny_bind (slicePart_ pu (wpAny_bind (wpAny_pure ?_)))))
  show wpAny _ _ (match Builtin.Slice.sliceAdjust lo hi 1 (n : Int) with | (lo, hi) => pure (lo, (1 : Int), Builtin.Slice.slicePlaces lo hi 1)) _ _ s
  rw [adjust_gen lo hi n]
  show wpAny _ _ (pure (((sIx n 0 lo : Nat) : Int), (1 : Int), Builtin.Slice.slicePlaces ((sIx n 0 lo : Nat) : Int) ((sIx n n hi : Nat) : Int) 1)) _ _ s
  rw [places_gen]
  exact wpAny_pure h
theorem pick_gen (xs : Array Value) (i k : Nat) : ((List.range k).filterMap fun (m : Nat) => xs[((i : Int) + (m : Int) * 1).toNat]?).toArray = ((xs.toList.drop i).take k).toArray := by
  have e : (fun (m : Nat) => xs[((i : Int) + (m : Int) * 1).toNat]?) = fun m => xs[i + m]? := by
    funext m
    have : ((i : Int) + (m : Int) * 1).toNat = i + m := by omega
    rw [this]
  rw [e]
  have := pick_run xs i k
  rw [List.filterMap_map] at this
  have e2 : ((fun x => xs[x]?) ∘ fun x => i + x) = fun m => xs[i + m]? := rfl
  rw [e2] at this
  rw [this]
theorem getItem_tuple_cut {t sl : Addr} {items : Array Value} {vl vu : Value} {lo hi : Option Int} {Q : Value → Shared → Prop} (ht : IsTup s.heap t items) (hs : s.heap.IsSliceOf sl vl vu .none) (pl : IsPart vl lo) (pu : IsPart vu hi)
    (hw : ¬ (sIx items.size 0 lo = 0 ∧ sIx items.size items.size hi = items.size))
    (h : Q (.ref s.heap.objs.size) { s with heap := s.heap.push { cls := .type "tuple", data := .seq ((items.toList.drop (sIx items.size 0 lo)).take (sIx items.size items.size hi - sIx items.size 0 lo)).toArray } })
    (hsz : items.size ≤ sizeLine) : wpAny (model prog w) A (getItem (.ref t) (.ref sl)) Q E s := by
  have htake : sizeOk (.seq ((items.toList.drop (sIx items.size 0 lo)).take (sIx items.size items.size hi - sIx items.size 0 lo)).toArray) := by
    show ((items.toList.drop (sIx items.size 0 lo)).take (sIx items.size items.size hi - sIx items.size 0 lo)).toArray.size ≤ sizeLine
    rw [List.size_toArray, List.length_take, List.length_drop, Array.length_toList]
    omega
  have hj : sIx items.size items.size hi ≤ items.size := sIx_le _ _ (Nat.le_refl _) hi
  obtain ⟨os, hos, hcs, hds⟩ := id hs
  have hTs : s.TypeIs (.ref sl) "slice" := ⟨os, hos, hcs⟩
  unfold getItem
  try with_reducible refine wpAny_holding ?_
  first | refine wpAny_bind (wpAny_pure ?_) | skip
  refine wpAny_bind (wpAny_sequenceKey ht.typeIs (by decide) ?_)
  refine wpAny_bind (wpAny_callSpecial?_slot (name := Str.ofString "__getitem__") ht.typeIs PyProof.Rows.slot_tuple_getitem
    (wpAny_call_entry PyProof.Rows.slot_tuple_getitem ht.typeIs entry_tuple_getitem ?_ (args_tuple_getitem _ _)))
  show wpAny _ _ (Builtin.Tuple.tupleItemsOf (.ref t) >>= _) _ _ s
  refine wpAny_bind (tupleItemsOf_ ht ?_)
  refine wpAny_bind (wpAny_typeOf hTs ?_)
  rw [if_pos (by decide)]
  refine wpAny_bind (sliceApplied_gen hs pl pu ?_)
  have hno : ¬ ((((sIx items.size 0 lo : Nat) : Int) == 0 && (1 : Int) == 1 && (sIx items.size items.size hi - sIx items.size 0 lo) == items.size) = true) := by
    intro q
    rw [Bool.and_eq_true, Bool.and_eq_true] at q
    have q1 : ((sIx items.size 0 lo : Nat) : Int) = 0 := eq_of_beq q.1.1
    have q2 : sIx items.size items.size hi - sIx items.size 0 lo = items.size := eq_of_beq q.2
    exact hw ⟨by omega, by omega⟩
  show wpAny _ _ (if (((sIx items.size 0 lo : Nat) : Int) == 0 && (1 : Int) == 1 && (sIx items.size items.size hi - sIx items.size 0 lo) == items.size) = true then _ else _) _ _ s
  rw [if_neg hno, pick_gen]
  first
    | exact wpAny_bind (m := Builtin.Tuple.tupleExact _) (wpAny_newObj_type (wpAny_pure ⟨_, rfl, wpAny_pure h⟩) htake)
    | exact wpAny_bind (m := Builtin.Tuple.tupleExact _) (wpAny_newObj_type (wpAny_bind (wpAny_pure (wpAny_pure ⟨_, rfl, wpAny_pure h⟩))) htake)
    | exact wpAny_bind (wpAny_bind (m := Builtin.Tuple.tupleExact _) (wpAny_newObj_type (wpAny_pure (wpAny_pure ⟨_, rfl, wpAny_pure h⟩)) htake))
    | exact wpAny_bind (wpAny_bind (m := Builtin.Tuple.tupleExact _) (wpAny_newObj_type (wpAny_pure ⟨_, rfl, wpAny_pure h⟩) htake))
end
end HT
namespace L2
open PySem PySem.Spec PyProof.Rows
noncomputable abbrev TO := St → Hp → (Option Int → Hp → Prop) → Prop
noncomputable def PO (X : Cx) (e : Option Expr) (t : TO) : Prop :=
  ∀ (pins : List (Addr × Obj)) (s : Shared) (σ : St) (H : Hp) (Q : Option Int → Hp → Prop), Inv X pins σ H s → t σ H Q →
    wpAny (model X.prog X.w) X.A (evalPart e X.env) (fun u s' => ∃ o H', Inv X pins σ H' s' ∧ IsPart u o ∧ Q o H') X.xe s
noncomputable def tNoPart : TO := fun _ H Q => Q none H
noncomputable def tPart (t : TE) : TO := fun σ H Q => t σ H fun x H1 => ∃ i, x = .int i ∧ Q (some i) H1
section
variable {X : Cx} {e : Expr} {te : TE} {lo hi : Option Expr} {tl th : TO} {pos p2 : Pos}
theorem po_none : PO X none tNoPart := by
  intro pins s σ H Q I h
  rw [evalPart_none]
  exact wpAny_pure ⟨none, H, I, .none, h⟩
theorem po_some (h : PE X e te) : PO X (some e) (tPart te) := by
  intro pins s σ H Q I hw
  rw [evalPart_some]
  refine thn (h pins s σ H _ I hw) fun u s1 ⟨x, H1, I1, r1, q1⟩ => ?_
  obtain ⟨i, rfl, q⟩ := q1
  obtain ⟨t, rfl⟩ := r1
  exact ⟨some i, H1, I1, .int i t, q⟩
noncomputable def SlR (X : Cx) (r : V → Option Int → Option Int → Hp → VK → Prop) : Prop :=
  ∀ (pins : List (Addr × Obj)) (s : Shared) (σ : St) (H : Hp) (x : V) (v vl vu : Value) (lo hi : Option Int) (sl : Addr) (Q : VK), Inv X pins σ H s → RelV x v → s.heap.IsSliceOf sl vl vu .none → IsPart vl lo → IsPart vu hi → r x lo hi H Q →
    ∃ T id, typeLookup (.type T) "__getitem__" = pure (some (.builtin id)) ∧ s.TypeIs v T ∧ wpAny (model X.prog X.w) X.A (getItem v (.ref sl)) (EP X pins σ Q) X.xe s
theorem SlR.or {r r' : V → Option Int → Option Int → Hp → VK → Prop} (h : SlR X r) (h' : SlR X r') : SlR X (fun x lo hi H Q => r x lo hi H Q ∨ r' x lo hi H Q) := by
  intro pins s σ H x v vl vu lo hi sl Q I rx hs pl pu q
  rcases q with q | q
  · exact h pins s σ H x v vl vu lo hi sl Q I rx hs pl pu q
  · exact h' pins s σ H x v vl vu lo hi sl Q I rx hs pl pu q
noncomputable def tSl (r : V → Option Int → Option Int → Hp → VK → Prop) (te : TE) (tl th : TO) : TE := fun σ H Q => te σ H fun x H1 => tl σ H1 fun l H2 => th σ H2 fun u H3 => r x l u H3 Q
theorem pe_slice {r : V → Option Int → Option Int → Hp → VK → Prop} (hr : SlR X r) (he : PE X e te) (hl : PO X lo tl) (hu : PO X hi th) : PE X (.Subscript e (.Slice lo hi none p2) pos) (tSl r te tl th) := by
  intro pins s σ H Q I h
  refine Subscript_ (thn (he pins s σ H _ I h) fun v s1 ⟨x, H1, I1, r1, q1⟩ => ?_)
  refine wpAny_Slice (thn (hl pins s1 σ H1 _ I1 q1) fun vl s2 ⟨l, H2, I2, pl, q2⟩ => thn (hu pins s2 σ H2 _ I2 q2) fun vu s3 ⟨u, H3, I3, pu, q3⟩ => ?_)
  rw [evalPart_none]
  refine wpAny_pure ?_
  have I4 : Inv X pins σ H3 { s3 with heap := s3.heap.push { cls := .type "slice", data := .fields #[vl, vu, .none] } } := I3.kept (t' := s3.toks) fun b ob q => Heap.get?_push_of_some _ q
  obtain ⟨T, id, hT, ht, hg⟩ := hr pins { s3 with heap := s3.heap.push { cls := .type "slice", data := .fields #[vl, vu, .none] } } σ H3 x v vl vu l u s3.heap.objs.size Q I4 r1 (Heap.IsSliceOf.new ..) pl pu q3
  show wpAny (model X.prog X.w) X.A (subscriptTail e (.Slice lo hi none p2) v (.ref s3.heap.objs.size)) (EP X pins σ Q) X.xe { s3 with heap := s3.heap.push { cls := .type "slice", data := .fields #[vl, vu, .none] } }
  exact tail_any (ops := [.ref s3.heap.objs.size, v]) ht hT hg (by with_unfolding_all rfl)
noncomputable def cutV (xs : List V) (lo hi : Option Int) : List V := (xs.drop (HT.sIx xs.length 0 lo)).take (HT.sIx xs.length xs.length hi - HT.sIx xs.length 0 lo)
theorem cutV_length (xs : List V) (lo hi : Option Int) : (cutV xs lo hi).length ≤ xs.length := by
  unfold cutV
  rw [List.length_take, List.length_drop]
  omega
noncomputable def rSlT (K : PySem.W.Frag) : V → Option Int → Option Int → Hp → VK → Prop := fun x lo hi H Q => ∃ a xs, x = .ref a ∧ SqT K H a xs ∧
  ¬ (HT.sIx xs.length 0 lo = 0 ∧ HT.sIx xs.length xs.length hi = xs.length) ∧ ∀ p, H p = none → Q (.ref p) (upd H p (.tup (cutV xs lo hi)))
theorem sl_tup : SlR X (rSlT X.K) := by
  intro pins s σ H x v vl vu lo hi sl Q I rx hs pl pu h
  obtain ⟨a, xs, rfl, hx, hw, q⟩ := h
  cases rx
  obtain ⟨its, r, ht, hz⟩ := I.tuple hx
  have hlen : its.toArray.size = xs.length := by rw [List.size_toArray]; exact r.length.symm
  refine ⟨"tuple", _, PyProof.Rows.slot_tuple_getitem.lookup, ht.typeIs, ?_⟩
  refine HT.getItem_tuple_cut ht hs pl pu (by rw [hlen]; exact hw) ?_ (by rw [hlen]; exact hz)
  rw [hlen]
  refine ⟨.ref s.heap.objs.size, _, I.laid (t' := s.toks) (o := .tup (cutV xs lo hi)) (fun b ob q => Heap.get?_push_of_some _ q) (Nat.le_refl _) ?_, rfl, q _ (I.hok.fresh (Nat.le_refl _))⟩
  exact ⟨Nat.le_trans (cutV_length xs lo hi) hz, _, (r.drop (HT.sIx xs.length 0 lo)).take (HT.sIx xs.length xs.length hi - HT.sIx xs.length 0 lo), IsTup.new _ _⟩
noncomputable def rCatT (K : PySem.W.Frag) : R2 := fun x y H Q => ∃ a b xs ys, x = .ref a ∧ y = .ref b ∧ SqT K H a xs ∧ SqT K H b ys ∧ xs ≠ [] ∧ xs.length + ys.length ≤ sizeLine ∧
  (ys = [] → Q (.ref a) H) ∧ (ys ≠ [] → ∀ p, H p = none → Q (.ref p) (upd H p (.tup (xs ++ ys))))
theorem Vals.nil_iff {xs : List V} {us : List Value} (r : Vals xs us) : us = [] ↔ xs = [] := by
  cases r with
  | nil => simp
  | cons _ _ => simp
theorem op_catT : OpR X (binaryOp .Add) (rCatT X.K) := by
  intro pins s σ H x y v u Q I rx ry h
  obtain ⟨a, b, xs, ys, rfl, rfl, ha, hb, hx, hz, q1, q2⟩ := h
  cases rx
  cases ry
  obtain ⟨its, r1, p1, _⟩ := I.tuple ha
  obtain ⟨its2, r2, p2, _⟩ := I.tuple hb
  refine HT.cat_tup p1 p2 (fun z => hx (r1.nil_iff.mp z)) (fun z => ⟨.ref a, H, I, rfl, q1 (r2.nil_iff.mp z)⟩) (fun z => ?_) (by rw [← r1.length, ← r2.length]; exact hz)
  refine ⟨.ref s.heap.objs.size, _, I.laid (t' := s.toks) (o := .tup (xs ++ ys)) (fun b ob q => Heap.get?_push_of_some _ q) (Nat.le_refl _) ?_, rfl, q2 (fun w => z (r2.nil_iff.mpr w)) _ (I.hok.fresh (Nat.le_refl _))⟩
  exact ⟨by rw [List.length_append]; exact hz, _, r1.append r2, IsTup.new _ _⟩
end
end L2
namespace L2
open PySem PySem.Spec PyProof.Rows
noncomputable def ixN (n : Nat) (i : Int) : Option Nat := if 0 ≤ i then (if i < n then some i.toNat else none) else if -(n : Int) ≤ i then some (i + n).toNat else none
noncomputable def atI {α : Type} (xs : List α) (i : Int) : Option α := (ixN xs.length i).bind fun j => xs[j]?
theorem ixN_seq {n : Nat} {i : Int} {j : Nat} (h : ixN n i = some j) : seqIndex? i n = some j ∧ j < n ∧ -(n : Int) ≤ i ∧ i < n := by
  unfold ixN at h
  by_cases h0 : 0 ≤ i
  · rw [if_pos h0] at h
    by_cases h1 : i < n
    · rw [if_pos h1] at h
      have e : i.toNat = j := Option.some.inj h
      exact ⟨by rw [seqIndex_of h0 h1, e], by omega, by omega, h1⟩
    · rw [if_neg h1] at h; cases h
  · rw [if_neg h0] at h
    by_cases h1 : -(n : Int) ≤ i
    · rw [if_pos h1] at h
      have e : (i + n).toNat = j := Option.some.inj h
      exact ⟨by rw [seqIndex_neg (by omega) h1, e], by omega, h1, by omega⟩
    · rw [if_neg h1] at h; cases h
theorem atI_get {α : Type} {xs : List α} {i : Int} {v : α} (h : atI xs i = some v) : ∃ j, seqIndex? i xs.length = some j ∧ xs[j]? = some v ∧ j < xs.length ∧ -(xs.length : Int) ≤ i ∧ i < xs.length := by
  unfold atI at h
  cases e : ixN xs.length i with
  | none => rw [e] at h; cases h
  | some j =>
    rw [e] at h
    obtain ⟨h1, h2, h3, h4⟩ := ixN_seq e
    exact ⟨j, h1, h, h2, h3, h4⟩
theorem atI_nat {α : Type} {xs : List α} {j : Nat} {v : α} (h : xs[j]? = some v) : atI xs (j : Int) = some v := by
  have hj : j < xs.length := (List.getElem?_eq_some_iff.mp h).1
  have e : ixN xs.length (j : Int) = some j := by
    unfold ixN
    rw [if_pos (by omega), if_pos (by omega)]; simp
  unfold atI; rw [e]; exact h
theorem atI_last {α : Type} (xs : List α) (v : α) : atI (xs ++ [v]) (-1) = some v := by
  have hl : (xs ++ [v]).length = xs.length + 1 := by simp
  have e : ixN (xs ++ [v]).length (-1) = some xs.length := by
    unfold ixN
    rw [hl, if_neg (by decide), if_pos (by omega)]
    congr 1
    omega
  unfold atI
  rw [e]
  show (xs ++ [v])[xs.length]? = some v
  simp
noncomputable def PlainIx (b : Expr) : Prop := ∀ o i, subscripted b false o i = operate [o, i] (getItem o i)
noncomputable def IxR (X : Cx) (r : R2) : Prop :=
  ∀ (value slice : Expr) (pins : List (Addr × Obj)) (s : Shared) (σ : St) (H : Hp) (x y : V) (v u : Value) (Q : VK), Inv X pins σ H s → RelV x v → RelV y u → r x y H Q →
    subscripted slice false v u = operate [v, u] (getItem v u) → wpAny (model X.prog X.w) X.A (subscriptTail value slice v u) (EP X pins σ Q) X.xe s
noncomputable def MtR (X : Cx) (id : String) (r : V → List V → Hp → VK → Prop) : Prop :=
  ∀ (pins : List (Addr × Obj)) (s : Shared) (σ : St) (H : Hp) (x : V) (xs : List V) (v : Value) (us : List Value) (Q : VK), Inv X pins σ H s → RelV x v → Vals xs us → r x xs H Q →
    wpAny (model X.prog X.w) X.A (call (.builtin id) (v :: us)) (EP X pins σ Q) X.xe s
section
variable {X : Cx} {a b : Expr} {ta tb : TE} {pos : Pos}
theorem IxR.or {r r' : R2} (h : IxR X r) (h' : IxR X r') : IxR X (fun x y H Q => r x y H Q ∨ r' x y H Q) := by
  intro value slice pins s σ H x y v u Q I rx ry q hs
  rcases q with q | q
  · exact h value slice pins s σ H x y v u Q I rx ry q hs
  · exact h' value slice pins s σ H x y v u Q I rx ry q hs
theorem pe_ix {r : R2} (hr : IxR X r) (ha : PE X a ta) (hb : PE X b tb) (hs : PlainIx b) : PE X (.Subscript a b pos) (tOp r ta tb) := by
  intro pins s σ H Q I h
  exact Subscript_ (binT ha hb I h fun v u s2 x y H2 I2 rx ry q => hr a b pins s2 σ H2 x y v u Q I2 rx ry q (hs _ _))
noncomputable def rIxL (K : PySem.W.Frag) : R2 := fun x y H Q => ∃ p xs i v, x = .ref p ∧ y = .int i ∧ SqL K H p xs ∧ atI xs i = some v ∧ Q v H
noncomputable def rIxT (K : PySem.W.Frag) : R2 := fun x y H Q => ∃ p xs i v, x = .ref p ∧ y = .int i ∧ SqT K H p xs ∧ atI xs i = some v ∧ Q v H
noncomputable def rIxS : R2 := fun x y H Q => ∃ z i c, x = .str z ∧ y = .int i ∧ z.length ≤ sizeLine ∧ atI z.cps.toList i = some c ∧ Q (.str ⟨#[c]⟩) H
theorem ix_list : IxR X (rIxL X.K) := by
  intro value slice pins s σ H x y v u Q I rx ry h hs
  obtain ⟨p, xs, i, z, rfl, rfl, hq, he, q⟩ := h
  cases rx
  obtain ⟨t, rfl⟩ := ry
  obtain ⟨its, r, pl, hz⟩ := I.list hq
  obtain ⟨j, h1, h2, h3, h4, h5⟩ := atI_get he
  obtain ⟨w, ew, rw'⟩ := r.get h2
  have hl := r.length
  have hn := line63
  have fin : EP X pins σ Q w s := ⟨z, H, I, rw', q⟩
  by_cases h0 : 0 ≤ i
  · have hj : i.toNat = j := by
      rw [seqIndex_of h0 h5] at h1
      exact Option.some.inj h1
    exact item_listR pl.isList h0 (by omega) (by rw [hj]; simpa using ew) fin hs
  · have hj : (i + (its.toArray.size : Int)).toNat = j := by
      rw [seqIndex_neg (by omega) h4] at h1
      rw [List.size_toArray, ← hl]
      exact Option.some.inj h1
    exact subscriptTail_builtinR (x := w) pl.isList.typeIs slot_list_getitem.lookup
      (wpAny_getItem_list_neg (Q := fun r s' => r = w ∧ EP X pins σ Q r s') pl.isList (by omega) (by rw [List.size_toArray] <;> omega) (by omega) (by rw [hj]; simpa using ew) ⟨rfl, fin⟩) hs
theorem ix_tup : IxR X (rIxT X.K) := by
  intro value slice pins s σ H x y v u Q I rx ry h hs
  obtain ⟨p, xs, i, z, rfl, rfl, hq, he, q⟩ := h
  cases rx
  obtain ⟨t, rfl⟩ := ry
  obtain ⟨its, r, pl, hz⟩ := I.tuple hq
  obtain ⟨j, h1, h2, h3, h4, h5⟩ := atI_get he
  obtain ⟨w, ew, rw'⟩ := r.get h2
  have hl := r.length
  have hn := line63
  have fin : EP X pins σ Q w s := ⟨z, H, I, rw', q⟩
  exact subscriptTail_builtinR (x := w) pl.typeIs slot_tuple_getitem.lookup
    (getItem_tuple (j := j) (Q := fun r s' => r = w ∧ EP X pins σ Q r s') pl (by omega) (by omega) (by rw [List.size_toArray, ← hl]; exact h1) (by simpa using ew) ⟨rfl, fin⟩) hs
theorem ix_str : IxR X rIxS := by
  intro value slice pins s σ H x y v u Q I rx ry h hs
  obtain ⟨z, i, c, rfl, rfl, hz, he, q⟩ := h
  obtain ⟨t, rfl⟩ := rx
  obtain ⟨t', rfl⟩ := ry
  obtain ⟨j, h1, h2, h3, h4, h5⟩ := atI_get he
  have hl : z.cps.toList.length = z.length := by simp [Str.length]
  rw [hl] at h1 h4 h5
  have hn := line63
  exact tail_any (typeIs_str s z t) slot_str_getitem.lookup (getItem_str (c := c) (by
    have e1 : decide (i < -(2 ^ 63 : Int)) = false := decide_eq_false (by omega)
    have e2 : decide (i ≥ 2 ^ 63) = false := decide_eq_false (by omega)
    rw [e1, e2, Bool.or_false]) (by rw [h1]; simpa using h2) ⟨.str ⟨#[c]⟩, H, I.tok _, ⟨_, rfl⟩, q⟩) hs
noncomputable def rIx (K : PySem.W.Frag) : R2 := fun x y H Q => rIxL K x y H Q ∨ rIxT K x y H Q ∨ rIxS x y H Q
theorem ix_seq : IxR X (rIx X.K) := ix_list.or (ix_tup.or ix_str)
theorem slice_bounds (lo hi : Option Int) (n : Nat) : (sliceBounds lo hi none n).1 = ((HT.sIx n 0 lo : Nat) : Int) ∧ (sliceBounds lo hi none n).2.1 = ((HT.sIx n n hi : Nat) : Int) ∧ (sliceBounds lo hi none n).2.2 = 1 := by
  refine ⟨?_, ?_, rfl⟩
  · cases lo with
    | none => simp [sliceBounds, HT.sIx]
    | some i =>
      simp only [sliceBounds, HT.sIx, Option.getD_none, show (1 : Int) > 0 by decide, if_true]
      by_cases h : i < 0
      · simp only [h, if_true] <;> omega
      · simp only [h, if_false] <;> omega
  · cases hi with
    | none => simp [sliceBounds, HT.sIx]
    | some i =>
      simp only [sliceBounds, HT.sIx, Option.getD_none, show (1 : Int) > 0 by decide, if_true]
      by_cases h : i < 0
      · simp only [h, if_true] <;> omega
      · simp only [h, if_false] <;> omega
theorem slicePick_cut (its : List Value) (lo hi : Option Int) : slicePick its.toArray lo hi none = ((its.drop (HT.sIx its.length 0 lo)).take (HT.sIx its.length its.length hi - HT.sIx its.length 0 lo)).toArray := by
  obtain ⟨h1, h2, h3⟩ := slice_bounds lo hi its.toArray.size
  unfold slicePick
  rw [h1, h2, h3]
  simp only [sliceRange_one, pick_run, List.size_toArray] <;> rfl
noncomputable def rSlL (K : PySem.W.Frag) : V → Option Int → Option Int → Hp → VK → Prop := fun x lo hi H Q => ∃ a xs, x = .ref a ∧ SqL K H a xs ∧ ∀ p, H p = none → Q (.ref p) (upd H p (.lst (cutV xs lo hi)))
theorem sl_list : SlR X (rSlL X.K) := by
  intro pins s σ H x v vl vu lo hi sl Q I rx hs pl pu h
  obtain ⟨a, xs, rfl, hx, q⟩ := h
  cases rx
  obtain ⟨its, r, ht, hz⟩ := I.list hx
  have hlen := r.length
  refine ⟨"list", _, slot_list_getitem.lookup, ht.isList.typeIs, ?_⟩
  refine wpAny_getItem_list_slice ht.isList hs pl pu .none (by simp) ?_ (by rw [List.size_toArray] <;> omega)
  rw [slicePick_cut, ← hlen]
  refine ⟨.ref s.heap.objs.size, _, I.laid (t' := s.toks) (o := .lst (cutV xs lo hi)) (fun b ob q => Heap.get?_push_of_some _ q) (Nat.le_refl _) ?_, rfl, q _ (I.hok.fresh (Nat.le_refl _))⟩
  exact ⟨Nat.le_trans (cutV_length xs lo hi) hz, _, 0, (r.drop (HT.sIx xs.length 0 lo)).take (HT.sIx xs.length xs.length hi - HT.sIx xs.length 0 lo), Heap.get?_push_size _ rfl⟩
noncomputable def flatV : V → Bool
  | .non => true
  | .bl _ => true
  | .int _ => true
  | .str _ => true
  | _ => false
noncomputable def eqV : V → V → Bool
  | .non, .non => true
  | .bl a, .bl b => a == b
  | .bl a, .int b => (if a then 1 else 0) == b
  | .int a, .bl b => a == (if b then 1 else 0)
  | .int a, .int b => a == b
  | .str a, .str b => a == b
  | _, _ => false
theorem eqAt_V {A : Around} {s : Shared} {y x : V} {u v : Value} (ry : RelV y u) (rx : RelV x v) (fy : flatV y = true) (fx : flatV x = true) : SeqAt.EqAt A s u v (eqV y x) := by
  cases y with
  | non =>
    cases ry
    cases x with
    | non => cases rx; exact SeqAt.EqAt.same _
    | bl b => cases rx; exact SeqAt.EqAt.none_bool b
    | int b => obtain ⟨t, rfl⟩ := rx; exact SeqAt.EqAt.none_int b t
    | str b => obtain ⟨t, rfl⟩ := rx; exact SeqAt.EqAt.none_str b t
    | _ => exact absurd (show false = true from fx) Bool.false_ne_true
  | bl a =>
    cases ry
    cases x with
    | non => cases rx; exact SeqAt.EqAt.bool_none a
    | bl b => cases rx; exact SeqAt.EqAt.bool_bool a b
    | int b => obtain ⟨t, rfl⟩ := rx; exact SeqAt.EqAt.bool_int a b t
    | str b => obtain ⟨t, rfl⟩ := rx; exact SeqAt.EqAt.bool_str a b t
    | _ => exact absurd (show false = true from fx) Bool.false_ne_true
  | int a =>
    obtain ⟨t', rfl⟩ := ry
    cases x with
    | non => cases rx; exact SeqAt.EqAt.int_none a t'
    | bl b => cases rx; exact SeqAt.EqAt.int_bool a t' b
    | int b => obtain ⟨t, rfl⟩ := rx; exact SeqAt.EqAt.int_int a t' b t
    | str b => obtain ⟨t, rfl⟩ := rx; exact SeqAt.EqAt.int_str a t' b t
    | _ => exact absurd (show false = true from fx) Bool.false_ne_true
  | str a =>
    obtain ⟨t', rfl⟩ := ry
    cases x with
    | non => cases rx; exact SeqAt.EqAt.str_none a t'
    | bl b => cases rx; exact SeqAt.EqAt.str_bool a t' b
    | int b => obtain ⟨t, rfl⟩ := rx; exact SeqAt.EqAt.str_int a t' b t
    | str b => obtain ⟨t, rfl⟩ := rx; exact SeqAt.EqAt.str_str a t' b t
    | _ => exact absurd (show false = true from fx) Bool.false_ne_true
  | _ => exact absurd (show false = true from fy) Bool.false_ne_true
noncomputable def eqU (x : V) (u : Value) : Bool := match u with
  | .none => eqV .non x
  | .bool b => eqV (.bl b) x
  | .int i _ => eqV (.int i) x
  | .str z _ => eqV (.str z) x
  | _ => false
theorem eqU_of {x y : V} {u : Value} (r : RelV y u) (f : flatV y = true) : eqU x u = eqV y x := by
  cases y with
  | non => cases r; rfl
  | bl b => cases r; rfl
  | int i => obtain ⟨t, rfl⟩ := r; rfl
  | str z => obtain ⟨t, rfl⟩ := r; rfl
  | _ => exact absurd (show false = true from f) Bool.false_ne_true
theorem mem_eqAt {A : Around} {s : Shared} {x : V} {v : Value} (rx : RelV x v) (fx : flatV x = true) : ∀ {xs : List V} {us : List Value}, Vals xs us → xs.all flatV = true → ∀ u ∈ us, SeqAt.EqAt A s u v (eqU x u)
  | _, _, .nil, _ => fun u hu => by cases hu
  | y :: xs, u :: us, .cons r t, f => fun u' hu => by
    rw [List.all_cons, Bool.and_eq_true] at f
    rcases List.mem_cons.mp hu with rfl | hu
    · rw [eqU_of r f.1]; exact eqAt_V r rx f.1 fx
    · exact mem_eqAt rx fx t f.2 u' hu
theorem call_len_seq : CallR X (.builtin "len") (fun xs H Q => ∃ p ys, xs = [.ref p] ∧ (SqL X.K H p ys ∨ SqT X.K H p ys) ∧ Q (.int ys.length) H) := by
  intro pins s σ H xs us Q I r h
  obtain ⟨p, ys, rfl, hq, q⟩ := h
  obtain ⟨u, rfl, rx⟩ := vals1 r
  cases rx
  have hn := line63
  rcases hq with hq | hq
  · obtain ⟨its, r', pl, hz⟩ := I.list hq
    have hlen := r'.length
    exact Calls.call_len_list pl.isList (by simp only [List.size_toArray] <;> omega) ⟨.int ys.length, H, I.tok _, ⟨s.toks + 1, by rw [List.size_toArray, hlen]⟩, q⟩
  · obtain ⟨its, r', pl, hz⟩ := I.tuple hq
    have hlen := r'.length
    exact len_tuple pl (by simp only [List.size_toArray] <;> omega) ⟨.int ys.length, H, I.tok _, ⟨s.toks + 1, by rw [List.size_toArray, hlen]⟩, q⟩
theorem call_list_of : CallR X (.type "list") (fun xs H Q => ∃ p ys, xs = [.ref p] ∧ (SqL X.K H p ys ∨ SqT X.K H p ys) ∧ ∀ l, H l = none → Q (.ref l) (upd H l (.lst ys))) := by
  intro pins s σ H xs us Q I r h
  obtain ⟨p, ys, rfl, hq, q⟩ := h
  obtain ⟨u, rfl, rx⟩ := vals1 r
  cases rx
  have fin : ∀ (its : List Value), Vals ys its → ys.length ≤ sizeLine → ∀ (h' : Heap) (c' : Nat), (∀ b o', s.heap.get? b = some o' → h'.get? b = some o') →
      h'.get? s.heap.objs.size = some { cls := .type "list", dict := none, data := .seq its.toArray c', slots := #[] } → EP X pins σ Q (.ref s.heap.objs.size) { s with heap := h' } := fun its r' hz h' c' kp e =>
    ⟨.ref s.heap.objs.size, _, I.laid (t' := s.toks) kp (Nat.le_refl _) (show ObjOk X.prog X.w _ h' _ (.lst ys) from ⟨hz, its, c', r', e⟩), rfl, q _ (I.hok.fresh (Nat.le_refl _))⟩
  rcases hq with hq | hq
  · obtain ⟨its, r', pl, hz⟩ := I.list hq
    have hlen := r'.length
    obtain ⟨o, ho, hc, n, hd⟩ := pl.isList
    exact call_list_seq p (.inl rfl) ho hc hd (fun h' c' kp e => fin its r' hz h' c' kp e) (by simp only [List.size_toArray] <;> omega)
  · obtain ⟨its, r', pl, hz⟩ := I.tuple hq
    have hlen := r'.length
    obtain ⟨o, ho, hc, n, hd⟩ := pl
    exact call_list_seq p (.inr rfl) ho hc hd (fun h' c' kp e => fin its r' hz h' c' kp e) (by simp only [List.size_toArray] <;> omega)
theorem call_tuple_of : CallR X (.type "tuple") (fun xs H Q => ∃ p ys, xs = [.ref p] ∧ ((SqL X.K H p ys ∧ ∀ l, H l = none → Q (.ref l) (upd H l (.tup ys))) ∨ (SqT X.K H p ys ∧ Q (.ref p) H))) := by
  intro pins s σ H xs us Q I r h
  obtain ⟨p, ys, rfl, h⟩ := h
  obtain ⟨u, rfl, rx⟩ := vals1 r
  cases rx
  rcases h with ⟨hq, q⟩ | ⟨hq, q⟩
  · obtain ⟨its, r', pl, hz⟩ := I.list hq
    have hlen := r'.length
    refine call_tuple_list pl.isList (fun h' kp => ?_) (by simp only [List.size_toArray] <;> omega)
    have I1 : Inv X pins σ H { s with heap := h' } := I.kept (t' := s.toks) kp
    have I2 : Inv X pins σ (upd H h'.objs.size (.tup ys)) { s with heap := h'.push { cls := .type "tuple", data := .seq its.toArray } } :=
      I1.laid (t' := s.toks) (fun b o e => Heap.get?_push_of_some _ e) (Nat.le_refl _) (show ObjOk X.prog X.w _ _ _ (.tup ys) from ⟨hz, its, r', IsTup.new _ _⟩)
    exact ⟨.ref h'.objs.size, _, I2, rfl, q _ (I1.hok.fresh (Nat.le_refl _))⟩
  · obtain ⟨its, r', pl, hz⟩ := I.tuple hq
    exact call_tuple_same pl ⟨.ref p, H, I, rfl, q⟩
noncomputable def tyV (K : PySem.W.Frag) (T : String) (x : V) (H : Hp) : Prop := match x with
  | .str _ => T = "str"
  | .int _ => T = "int"
  | .ref p => (T = "list" ∧ ∃ xs, SqL K H p xs) ∨ (T = "tuple" ∧ ∃ o, K.lookup p = some o ∧ o.cls = .type "tuple" ∧ o.dict = none) ∨
      (T = "dict" ∧ ((∃ kvs, H p = some (.dK kvs)) ∨ ∃ kvs, H p = some (.dT kvs))) ∨ (T = "set" ∧ ∃ S n, H p = some (.set S n))
  | _ => False
theorem tyV_is {pins : List (Addr × Obj)} {σ : St} {H : Hp} {s : Shared} {T : String} {x : V} {v : Value} (I : Inv X pins σ H s) (r : RelV x v) (ty : tyV X.K T x H) :
    s.TypeIs v T ∧ ∀ a, v = .ref a → ∃ ob, s.heap.get? a = some ob ∧ ob.dict = none := by
  cases x with
  | str z =>
    obtain ⟨t, rfl⟩ := r
    cases (show T = "str" from ty)
    exact ⟨typeIs_str s z t, fun _ e => nomatch e⟩
  | int i =>
    obtain ⟨t, rfl⟩ := r
    cases (show T = "int" from ty)
    exact ⟨typeIs_int s i t, fun _ e => nomatch e⟩
  | ref p =>
    cases r
    rcases ty with ⟨rfl, xs, hq⟩ | ⟨rfl, o, hk, hc, hd⟩ | ⟨rfl, hk⟩ | ⟨rfl, S, n, hk⟩
    · obtain ⟨its, _, pl, _⟩ := I.list hq
      refine ⟨pl.isList.typeIs, fun a e => ?_⟩
      cases e
      obtain ⟨o, n, e, c, hd, _⟩ := pl
      exact ⟨o, e, hd⟩
    · refine ⟨⟨o, I.kIn p o hk, hc⟩, fun a e => ?_⟩
      cases e
      exact ⟨o, I.kIn _ o hk, hd⟩
    · have z : ∃ o, s.heap.get? p = some o ∧ o.ExactDict := by
        rcases hk with ⟨kvs, hk⟩ | ⟨kvs, hk⟩
        · obtain ⟨_, _, _, _, o, _, _, e, ex, _⟩ := I.hok p _ hk
          exact ⟨o, e, ex⟩
        · obtain ⟨_, _, _, _, o, _, _, e, ex, _⟩ := I.hok p _ hk
          exact ⟨o, e, ex⟩
      obtain ⟨o, e, ex⟩ := z
      refine ⟨⟨o, e, ex.1⟩, fun a e2 => ?_⟩
      cases e2
      exact ⟨o, e, ex.2.1⟩
    · obtain ⟨o, _, _, _, e, ex, _⟩ := I.hok p _ hk
      refine ⟨⟨o, e, ex.1⟩, fun a e2 => ?_⟩
      cases e2
      exact ⟨o, e, ex.2.1⟩
  | _ => exact False.elim ty
noncomputable def tBM (K : PySem.W.Frag) (T : String) (r : V → List V → Hp → VK → Prop) (to : TE) (t : TA) : TE := fun σ H Q => to σ H fun x H1 => tyV K T x H1 ∧ t σ H1 fun xs H2 => r x xs H2 Q
variable {o e : Expr} {es : List Expr} {to : TE} {t : TA} {name : Str} {apos cpos : Pos} {T id : String} {r : V → List V → Hp → VK → Prop}
theorem pe_bm (pa : PlainAttrs T) (slot : Slot T name id) (hty : typeOf (.builtin id) = pure (.type "method_descriptor")) (hm : MtR X id r) (ho : PE X o to) (ha : PA X (e :: es) t)
    (hbase : attributeBase o name X.env (eval o X.env) = eval o X.env := by rfl)
    (hfew : ((backTo cpos (starEach (e :: es) X.env)).all (fun x => !x.1) && (backToKw cpos (keywordEach [] X.env)).all (fun x => x.1.isSome)
      && decide ((e :: es).length + ([] : List Keyword).length + (if ([] : List Keyword).isEmpty then 0 else 1) < 30)) = true := by rfl)
    (hline : (apos.endLine == cpos.line) = true := by rfl) (hs : starEach (e :: es) X.env = (false, eval e X.env) :: starEach es X.env := by rfl) (hplain : (backTo cpos (starEach es X.env)).any (·.1) = false := by rfl) :
    PE X (.Call (.Attribute o name apos) (e :: es) [] cpos) (tBM X.K T r to t) := by
  intro pins s σ H Q I h
  refine wpAny_Call_method_late hbase hfew hline rfl (thn (ho pins s σ H _ I h) fun v s1 ⟨x, H1, I1, r1, ty, q1⟩ => ?_)
  obtain ⟨h1, h2⟩ := tyV_is I1 r1 ty
  refine ⟨T, id, pa, slot, hty, h1, h2, ?_⟩
  have hA := ha cpos pins s1 σ H1 _ I1 q1
  rw [hs] at hA ⊢
  refine Calls.callWith_builtin (by show (false || (backTo cpos (starEach es X.env)).any (·.1)) = false; rw [hplain] <;> rfl) (Calls.evalArgs_plain ?_)
  exact thn hA fun us s2 ⟨vs, H2, I2, r2, q2⟩ => hm pins s2 σ H2 x vs v us Q I2 r1 r2 q2
end
end L2
namespace L2
open PySem PySem.Spec PyProof.Rows
noncomputable def MtM (X : Cx) (id : String) (r : V → List V → Hp → VK → Prop) : Prop :=
  ∀ (pins : List (Addr × Obj)) (s : Shared) (σ : St) (H : Hp) (x : V) (xs : List V) (v : Value) (us : List Value) (Q : VK), Inv X pins σ H s → RelV x v → Vals xs us → r x xs H Q →
    wpAny (model X.prog X.w) X.A (call (.builtin id) (v :: us)) (EP X pins σ Q) X.xe s
theorem Vals.one : ∀ {x : V} {us : List Value}, Vals [x] us → ∃ u, us = [u] ∧ RelV x u
  | _, _, .cons r .nil => ⟨_, rfl, r⟩
theorem Vals.rep {xs : List V} {us : List Value} (h : Vals xs us) : ∀ k : Nat, Vals (List.replicate k xs).flatten (List.replicate k us).flatten
  | 0 => .nil
  | k + 1 => by
    rw [List.replicate_succ, List.replicate_succ, List.flatten_cons, List.flatten_cons]
    exact Vals.append h (Vals.rep h k)
theorem foldl_rep (its : List Value) : ∀ (k : Nat) (acc : List Value),
    List.foldl (fun x1 x2 => x1 ++ x2) acc.toArray (List.replicate k its.toArray) = (acc ++ (List.replicate k its).flatten).toArray
  | 0, acc => by simp
  | k + 1, acc => by
    have e : acc.toArray ++ its.toArray = (acc ++ its).toArray := by simp
    have e2 : (acc ++ its) ++ (List.replicate k its).flatten = acc ++ (List.replicate (k + 1) its).flatten := by
      rw [List.replicate_succ, List.flatten_cons, List.append_assoc]
    rw [← e2, ← foldl_rep its k (acc ++ its), ← e, List.replicate_succ, List.foldl_cons]
section
variable {X : Cx} {pins : List (Addr × Obj)} {σ : St} {H : Hp} {s : Shared} {l b : Addr} {xs ys zs : List V}
theorem Inv.lset {its its' : List Value} {n : Nat} {f : Array Value → Array Value} {t' : Nat} (I : Inv X pins σ H s) (hH : H l = some (.lst xs))
    (e : s.heap.get? l = some { cls := .type "list", data := .seq its.toArray n }) (hf : f its.toArray = its'.toArray) (hv : Vals ys its') (hz : ys.length ≤ sizeLine) :
    Inv X pins σ (upd H l (.lst ys)) { s with heap := s.heap.update l (Obj.mapSeq f), toks := t' } := by
  have q := PySem.IsL.update e f
  rw [hf] at q
  refine I.write (x := l) (e := l) (by rw [hH]; exact trivial) (.inl rfl) (fun b' u hb hu => (Heap.get?_update_other s.heap (Obj.mapSeq f) (Ne.symm hb)).trans hu) ⟨_, q⟩ ?_
  exact ⟨hz, its', _, hv, q⟩
theorem Inv.lnew {its : List Value} {t' : Nat} (I : Inv X pins σ H s) (hv : Vals ys its) (hz : ys.length ≤ sizeLine) :
    Inv X pins σ (upd H s.heap.objs.size (.lst ys)) { s with heap := s.heap.push { cls := .type "list", data := .seq its.toArray }, toks := t' } :=
  I.laid (fun _ _ q => Heap.get?_push_of_some _ q) (Nat.le_refl _) ⟨hz, its, 0, hv, Heap.get?_push_size _ rfl⟩
theorem Inv.fresh (I : Inv X pins σ H s) : H s.heap.objs.size = none := I.hok.fresh (Nat.le_refl _)
theorem Inv.lstM (I : Inv X pins σ H s) (hH : H l = some (.lst xs)) : xs.length ≤ sizeLine ∧ ∃ (its : List Value) (n : Nat), Vals xs its ∧ xs.length = its.length ∧ s.heap.get? l = some { cls := .type "list", data := .seq its.toArray n } := by
  obtain ⟨z, its, n, r, e⟩ := I.hok l _ hH
  exact ⟨z, its, n, r, r.length, e⟩
theorem notLongL {n : Nat} (h : n ≤ sizeLine) : Builtin.List.listTooLong n = false := by
  unfold Builtin.List.listTooLong
  exact decide_eq_false (by omega)
end
section
variable {X : Cx}
noncomputable def rAppend : V → List V → Hp → VK → Prop := fun x vs H Q => ∃ l xs y, x = .ref l ∧ vs = [y] ∧ H l = some (.lst xs) ∧ xs.length < sizeLine ∧ Q .non (upd H l (.lst (xs ++ [y])))
theorem mt_append : MtM X "list.append" rAppend := by
  intro pins s σ H x vs v us Q I rx rv h
  obtain ⟨l, xs, y, rfl, rfl, hH, hz, q⟩ := h
  cases rx
  obtain ⟨u, rfl, ru⟩ := rv.one
  obtain ⟨z, its, n, r, hl, e⟩ := I.lstM hH
  refine call_meets F.slot_list_append ⟨_, e, rfl⟩ F.entry_list_append (F.args_list_append_2 _ _) (PySem.list_append l its.toArray n u (by rw [List.size_toArray]; omega)) ⟨e, ?_⟩
  refine ⟨.non, _, I.lset (its' := its ++ [u]) hH e (by simp) (r.append (.cons ru .nil)) ?_, rfl, q⟩
  rw [List.length_append, List.length_singleton]
  omega
noncomputable def rExtend : V → List V → Hp → VK → Prop := fun x vs H Q => ∃ l b xs zs, x = .ref l ∧ vs = [.ref b] ∧ H l = some (.lst xs) ∧ H b = some (.lst zs) ∧ xs.length + zs.length ≤ sizeLine ∧ Q .non (upd H l (.lst (xs ++ zs)))
theorem mt_extend : MtM X "list.extend" rExtend := by
  intro pins s σ H x vs v us Q I rx rv h
  obtain ⟨l, b, xs, zs, rfl, rfl, hH, hB, hz, q⟩ := h
  cases rx
  obtain ⟨u, rfl, ru⟩ := rv.one
  cases ru
  obtain ⟨z, its, n, r, hl, e⟩ := I.lstM hH
  obtain ⟨z2, its2, n2, r2, hl2, e2⟩ := I.lstM hB
  have hsz : its.toArray.size + its2.toArray.size ≤ sizeLine := by rw [List.size_toArray, List.size_toArray]; omega
  have hlong : ¬ (!its.toArray.isEmpty && Builtin.List.listTooLong (its.toArray.size + its2.toArray.size)) = true := by
    rw [notLongL hsz, Bool.and_false]
    exact Bool.false_ne_true
  refine call_meets F.slot_list_extend ⟨_, e, rfl⟩ F.entry_list_extend (F.args_list_extend_2 _ _)
    (AutoSeq1.list_extend_list_list_0 l its.toArray n b its2.toArray n2 hlong (by rw [List.size_toArray]; omega) (by omega)) ⟨e, e2, ?_⟩
  refine ⟨.non, _, I.lset (its' := its ++ its2) hH e (by simp) (r.append r2) ?_, rfl, q⟩
  rw [List.length_append]
  omega
noncomputable def rCat : R2 := fun x y H Q => ∃ l b xs zs, x = .ref l ∧ y = .ref b ∧ H l = some (.lst xs) ∧ H b = some (.lst zs) ∧ xs.length + zs.length ≤ sizeLine ∧ ∀ p, H p = none → Q (.ref p) (upd H p (.lst (xs ++ zs)))
theorem op_cat : OpR X (binaryOp .Add) rCat := by
  intro pins s σ H x y v u Q I rx ry h
  obtain ⟨l, b, xs, zs, rfl, rfl, hH, hB, hz, q⟩ := h
  cases rx
  cases ry
  obtain ⟨z, its, n, r, hl, e⟩ := I.lstM hH
  obtain ⟨z2, its2, n2, r2, hl2, e2⟩ := I.lstM hB
  refine PySem.P.add_list e e2 ?_ (by rw [List.size_toArray, List.size_toArray]; omega)
  have ea : its.toArray ++ its2.toArray = (its ++ its2).toArray := by simp
  rw [ea]
  exact ⟨.ref _, _, I.lnew (t' := s.toks) (r.append r2) (by rw [List.length_append]; omega), rfl, q _ I.fresh⟩
noncomputable def rRep : R2 := fun x y H Q => ∃ l k xs, x = .ref l ∧ y = .int k ∧ H l = some (.lst xs) ∧ -(2 ^ 63) ≤ k ∧ k < 2 ^ 63 ∧ xs.length * k.toNat ≤ sizeLine ∧
  ∀ p, H p = none → Q (.ref p) (upd H p (.lst (List.replicate k.toNat xs).flatten))
theorem len_rep {α : Type} (xs : List α) (k : Nat) : (List.replicate k xs).flatten.length = k * xs.length := by
  induction k with
  | zero => simp
  | succ k ih => rw [List.replicate_succ, List.flatten_cons, List.length_append, ih, Nat.succ_mul, Nat.add_comm]
theorem op_rep : OpR X (binaryOp .Mult) rRep := by
  intro pins s σ H x y v u Q I rx ry h
  obtain ⟨l, k, xs, rfl, rfl, hH, h1, h2, hz, q⟩ := h
  cases rx
  obtain ⟨t, rfl⟩ := ry
  obtain ⟨z, its, n, r, hl, e⟩ := I.lstM hH
  have hlen : its.toArray.size * k.toNat ≤ sizeLine := by rw [List.size_toArray, ← hl]; exact hz
  have hcap : ¬ its.toArray.size * k.toNat > (2 ^ 63 - 1) / 8 := by
    have : (sizeLine : Nat) ≤ (2 ^ 63 - 1) / 8 := by decide
    omega
  have hfit : ¬ (!Builtin.List.listFitsIndex k) = true := by
    rw [fitsIndex_both h1 h2]
    exact Bool.false_ne_true
  have hlong : ¬ Builtin.List.listTooLong (its.toArray.size * k.toNat) = true := by
    rw [notLongL hlen]
    exact Bool.false_ne_true
  have hnew : List.foldl (fun x1 x2 => x1 ++ x2) #[] (List.replicate (if its.toArray.isEmpty = true then 0 else k.toNat) its.toArray) = (List.replicate k.toNat its).flatten.toArray := by
    have f0 : ∀ m : Nat, List.foldl (fun x1 x2 => x1 ++ x2) #[] (List.replicate m its.toArray) = (List.replicate m its).flatten.toArray := fun m => by
      have := foldl_rep its m []
      rw [List.nil_append] at this
      exact this
    rw [f0]
    cases its with
    | nil => simp
    | cons a r' => rw [if_neg (by simp)]
  refine wpAny_binaryOp_repeat_ref (T := "list") (U := "int") (by decide) ⟨_, e, rfl⟩ (fun s' => typeIs_int s' k t) noFill_list_mul F.fills_int_mul F.slot_int_rmul repeat_list F.slot_int_index.lookup
    (call_meets F.slot_int_rmul (typeIs_int s k t) F.entry_int_rmul (F.args_int_rmul_2 _ _) (int___rmul___int_list k t l its.toArray n)
      ⟨e, rfl, ⟨_, e, rfl⟩, call_meets F.slot_list_mul ⟨_, e, rfl⟩ F.entry_list_mul (F.args_list_mul_2 _ _) (AutoListH.list___mul___list_int_3 l its.toArray n k t hfit hcap hlong) ⟨e, ?_⟩⟩)
  rw [hnew]
  exact ⟨.ref _, _, I.lnew (t' := s.toks) (r.rep k.toNat) (by rw [len_rep, Nat.mul_comm]; exact hz), rfl, q _ I.fresh⟩
end
section
variable {prog : Program} {w : World} {A : Around} {E : Value → Shared → Prop} {s : Shared}
end
section
variable {X : Cx}
end
end L2
namespace L2
open PySem PySem.Spec PyProof.Rows
theorem Vals.ints : ∀ {ns : List Int} {us : List Value}, Vals (ns.map V.int) us → IntsAre us ns
  | [], us, h => by
    rw [List.map_nil] at h
    cases h
    exact IntsAre.nil
  | n :: ns, us, h => by
    rw [List.map_cons] at h
    cases h with
    | cons r t =>
      obtain ⟨k, rfl⟩ := r
      exact IntsAre.cons n k (Vals.ints t)
theorem vals_of_ints : ∀ {us : List Value} {ns : List Int}, IntsAre us ns → Vals (ns.map V.int) us
  | _, _, .nil => by rw [List.map_nil]; exact Paired.nil
  | _, _, .cons n t h => by rw [List.map_cons]; exact Paired.cons (show RelV (V.int n) (Value.int n t) from ⟨t, rfl⟩) (vals_of_ints h)
theorem Vals.ref1 {a : Addr} {us : List Value} (r : Vals [V.ref a] us) : us = [Value.ref a] := by
  cases r with
  | cons r t =>
    cases t
    cases r
    rfl
theorem Vals.int2 {i j : Int} {us : List Value} (r : Vals [V.int i, V.int j] us) : ∃ t u, us = [Value.int i t, Value.int j u] := by
  cases r with
  | cons r t =>
    cases t with
    | cons r2 t2 =>
      cases t2
      obtain ⟨t, rfl⟩ := r
      obtain ⟨u, rfl⟩ := r2
      exact ⟨t, u, rfl⟩
section
variable {prog : Program} {w : World} {A : Around} {E : Value → Shared → Prop} {s : Shared} {l : Addr} {its : List Value} {ns : List Int} {Q : Value → Shared → Prop}
theorem sum_raw (hh : A.handled = none) (hl : s.heap.IsList l its.toArray) (hi : IntsAre its ns)
    (h : ∀ h' tk t', (∀ b o, s.heap.get? b = some o → h'.get? b = some o) → Q (.int ns.sum t') { s with heap := h', toks := tk }) : wpAny (model prog w) A (call (.builtin "sum") [.ref l]) Q E s := by
  obtain ⟨xs, e⟩ := hi.allInts.items
  have hn : numsOf (intItems xs).toList = ns := by rw [← e]; exact hi.numsOf
  rw [nums_intItems] at hn
  rw [e] at hl
  refine PySem.sum_intListG hh hl fun h' tk t' hk => ?_
  have := h h' tk t' hk
  rw [preSum_eq, List.take_of_length_le (by simp), hn]; exact this
theorem max_raw (hh : A.handled = none) (hl : s.heap.IsList l its.toArray) (hi : IntsAre its ns) (hne : 0 < ns.length)
    (h : ∀ h' tk M t', (∀ b o, s.heap.get? b = some o → h'.get? b = some o) → M ∈ ns → (∀ a, a ∈ ns → a ≤ M) → Q (.int M t') { s with heap := h', toks := tk }) : wpAny (model prog w) A (call (.builtin "max") [.ref l]) Q E s := by
  obtain ⟨xs, e⟩ := hi.allInts.items
  have hn : numsOf (intItems xs).toList = ns := by rw [← e]; exact hi.numsOf
  rw [nums_intItems] at hn
  subst hn
  rw [e] at hl
  have hsz : 0 < xs.size := by simpa using hne
  refine PySem.max_intList hh hl hsz fun v h' tk hv hk => ?_
  obtain ⟨t, rfl⟩ := intItems_at hv
  obtain ⟨h1, h2⟩ := argBest_gt (numAt xs) (xs.size - 1)
  refine h h' tk _ t hk ?_ fun a ha => ?_
  · rw [numAt_eq]; exact PySem.getD_mem (by rw [List.length_map, Array.length_toList]; omega)
  · obtain ⟨j, hj, rfl⟩ := mem_getD ha
    rw [List.length_map, Array.length_toList] at hj
    rw [← numAt_eq]; exact h2 j (by omega)
theorem min_raw (hh : A.handled = none) (hl : s.heap.IsList l its.toArray) (hi : IntsAre its ns) (hne : 0 < ns.length)
    (h : ∀ h' tk M t', (∀ b o, s.heap.get? b = some o → h'.get? b = some o) → M ∈ ns → (∀ a, a ∈ ns → M ≤ a) → Q (.int M t') { s with heap := h', toks := tk }) : wpAny (model prog w) A (call (.builtin "min") [.ref l]) Q E s := by
  obtain ⟨xs, e⟩ := hi.allInts.items
  have hn : numsOf (intItems xs).toList = ns := by rw [← e]; exact hi.numsOf
  rw [nums_intItems] at hn
  subst hn
  rw [e] at hl
  have hsz : 0 < xs.size := by simpa using hne
  refine PySem.min_intList hh hl hsz fun v h' tk hv hk => ?_
  obtain ⟨t, rfl⟩ := intItems_at hv
  obtain ⟨h1, h2⟩ := argBest_lt (numAt xs) (xs.size - 1)
  refine h h' tk _ t hk ?_ fun a ha => ?_
  · rw [numAt_eq]; exact PySem.getD_mem (by rw [List.length_map, Array.length_toList]; omega)
  · obtain ⟨j, hj, rfl⟩ := mem_getD ha
    rw [List.length_map, Array.length_toList] at hj
    rw [← numAt_eq]; exact h2 j (by omega)
end
section
variable {X : Cx}
noncomputable def rSum (K : PySem.W.Frag) : List V → Hp → VK → Prop := fun vs H Q => ∃ (a : Addr) (ns : List Int), vs = [V.ref a] ∧ SqL K H a (ns.map V.int) ∧ Q (.int ns.sum) H
noncomputable def rMin (K : PySem.W.Frag) : List V → Hp → VK → Prop := fun vs H Q => ∃ (a : Addr) (ns : List Int), vs = [V.ref a] ∧ SqL K H a (ns.map V.int) ∧ 0 < ns.length ∧ ∀ m, m ∈ ns → (∀ y, y ∈ ns → m ≤ y) → Q (.int m) H
theorem cr_sum (hc : X.calm = true) : CallR X (.builtin "sum") (rSum X.K) := by
  intro pins s σ H vs us Q I r h
  obtain ⟨a, ns, rfl, hs, q⟩ := h
  obtain ⟨its, rv, hl, _⟩ := I.list hs
  rw [Vals.ref1 r]
  exact sum_raw (I.ok.hd hc) hl.isList rv.ints fun h' tk t' hk => ⟨.int _, H, I.kept hk, ⟨_, rfl⟩, q⟩
theorem cr_min (hc : X.calm = true) : CallR X (.builtin "min") (rMin X.K) := by
  intro pins s σ H vs us Q I r h
  obtain ⟨a, ns, rfl, hs, hne, q⟩ := h
  obtain ⟨its, rv, hl, _⟩ := I.list hs
  rw [Vals.ref1 r]
  exact min_raw (I.ok.hd hc) hl.isList rv.ints hne fun h' tk m t' hk h1 h2 => ⟨.int _, H, I.kept hk, ⟨_, rfl⟩, q m h1 h2⟩
noncomputable def rSorted (K : PySem.W.Frag) : List V → Hp → VK → Prop := fun vs H Q => ∃ (a : Addr) (ns : List Int), vs = [V.ref a] ∧ SqL K H a (ns.map V.int) ∧ ns.length < 64 ∧
  ∀ (ns' : List Int) (p : Addr), ns'.Perm ns → ns'.Pairwise (· ≤ ·) → H p = none → Q (.ref p) (upd H p (.lst (ns'.map V.int)))
theorem small64 {n : Nat} (h : n < 64) : n ≤ sizeLine := by rw [sizeLine_eq]; omega
theorem cr_sorted : CallR X (.builtin "sorted") (rSorted X.K) := by
  intro pins s σ H vs us Q I r h
  obtain ⟨a, ns, rfl, hs, h64, q⟩ := h
  obtain ⟨its, rv, hl, _⟩ := I.list hs
  rw [Vals.ref1 r]
  have hi := rv.ints
  refine PyProof.Rows.sorted_ints hl.isList hi (by rw [hi.length]; exact h64) fun out ns' h1 h2 h3 => ?_
  obtain ⟨ep, he'⟩ := PyProof.Rows.sortedAll_at s.heap its out
  have hlen : (ns'.map V.int).length ≤ sizeLine := by rw [List.length_map, h2.length_eq]; exact small64 h64
  exact ⟨.ref _, upd H (s.heap.objs.size + 1) (.lst (ns'.map V.int)), I.laid (t' := s.toks) (fun _ _ => PyProof.Rows.sortedAll_old) (Nat.le_succ _) ⟨hlen, out.toList, ep, vals_of_ints h1, he'⟩, rfl, q ns' _ h2 h3 (I.hok.fresh (Nat.le_succ _))⟩
end
section
variable {X : Cx}
noncomputable def rIndex (K : PySem.W.Frag) : V → List V → Hp → VK → Prop := fun x xs H Q => ∃ (a : Addr) (ys : List V) (y : V) (j : Nat) (z : V), x = V.ref a ∧ xs = [y] ∧ SqL K H a ys ∧ flatV y = true ∧ ys.all flatV = true ∧ ys[j]? = some z ∧ eqV z y = true ∧
  (∀ (m : Nat) (z' : V), m < j → ys[m]? = some z' → eqV z' y = false) ∧ Q (.int (j : Nat)) H
theorem flat_at {ys : List V} (f : ys.all flatV = true) {j : Nat} {z : V} (h : ys[j]? = some z) : flatV z = true := List.all_eq_true.mp f z (List.mem_of_getElem? h)
theorem mt_index : MtR X "list.index" (rIndex X.K) := by
  intro pins s σ H x xs v us Q I rx rxs h
  obtain ⟨a, ys, y, j, z, rfl, rfl, hs, fy, fys, hz, hzj, hno, q⟩ := h
  cases rx
  cases rxs with
  | cons ry rt =>
    rename_i uy ut
    cases rt
    obtain ⟨its, rv, ⟨⟨cls, dd, data, sl⟩, n, ho, hc, hdn, hd⟩, hlen⟩ := I.list hs
    simp only at hc hd
    subst hc hd
    obtain ⟨u, hu, ru⟩ := rv.get hz
    obtain ⟨hjl, hje⟩ := List.getElem?_eq_some_iff.mp hu
    have hvl := rv.length
    have hj : j < its.toArray.size := by simpa using hjl
    have hsl := sizeLine_eq
    refine call_meets PySem.F.slot_list_index ⟨_, ho, rfl⟩ PySem.F.entry_list_index (PySem.F.args_list_index_2 _ _)
      (SeqAt.list_indexAt a its.toArray n dd sl uy (eqU y) j hj (by omega) ?_ ?_) ⟨ho, fun u' hu' => mem_eqAt ry fy rv fys u' (by simpa using hu'), ?_⟩
    · have e1 : its.toArray[j] = u := by simpa using hje
      rw [e1, eqU_of ru (flat_at fys hz)]
      exact hzj
    · intro m hm hmj
      have hml : m < its.length := by simpa using hm
      have hmy : m < ys.length := by omega
      have hy' : ys[m]? = some ys[m] := List.getElem?_eq_getElem hmy
      obtain ⟨u2, hu2, ru2⟩ := rv.get hy'
      obtain ⟨_, hme⟩ := List.getElem?_eq_some_iff.mp hu2
      have e1 : its.toArray[m] = u2 := by simpa using hme
      rw [e1, eqU_of ru2 (flat_at fys hy')]
      exact hno m _ hmj hy'
    · exact ⟨.int (j : Nat), H, I.tok _, ⟨_, rfl⟩, q⟩
end
section
variable {X : Cx}
end
section
variable {X : Cx}
end
section
variable {X : Cx} {pins : List (Addr × Obj)} {σ : St} {H : Hp} {s : Shared}
end
section
variable {X : Cx}
end
end L2
namespace L2
open PySem PySem.Spec PyProof.Rows
noncomputable abbrev CellAt (h : Heap) (c : Addr) (v : Option Value) : Prop := h.IsCell c v
noncomputable def relS (scope sc : Scope) : Scope :=
  { scope with names := scope.names.map fun (n, k) => if (k == .free && sc.kind == .function && sc.names.lookup n == some .cell) then (n, .cell) else (n, k) }
noncomputable def cloFrom (cells : List (Str × Addr)) : List (Str × NameKind) → List (Str × Addr) → List (Str × Addr)
  | [], acc => acc
  | (n, k) :: r, acc => if k == .free then cloFrom cells r ((n, (cells.lookup n).getD 0) :: acc) else cloFrom cells r acc
theorem closure_loop (env : Env) (f : Str × NameKind → List (Str × Addr) → Sem (ForInStep (List (Str × Addr))))
    (hf : ∀ n k c, f (n, k) c = if k == .free then (do let a ← cellOf env n; pure (.yield ((n, a) :: c))) else pure (.yield c)) :
    ∀ (names : List (Str × NameKind)) (acc : List (Str × Addr)), (∀ y ∈ names, y.2 = .free → ∃ c, env.cells.lookup y.1 = some c) → forIn names acc f = pure (cloFrom env.cells names acc)
  | [], acc, _ => by rw [List.forIn_nil]; rfl
  | (n, k) :: r, acc, h => by
    rw [List.forIn_cons, hf]
    have ih := fun acc => closure_loop env f hf r acc fun y hy => h y (List.mem_cons_of_mem _ hy)
    unfold cloFrom
    by_cases hk : (k == NameKind.free) = true
    · rw [if_pos hk, if_pos hk]
      obtain ⟨c, hc⟩ := h (n, k) List.mem_cons_self (by simpa using hk)
      have e : cellOf env n = pure c := by unfold cellOf; rw [hc]
      rw [e]
      have e2 : (env.cells.lookup n).getD 0 = c := by rw [hc]; rfl
      rw [e2]
      exact ih _
    · rw [if_neg hk, if_neg hk]
      exact ih _
theorem closure_ok {scope : Scope} {env : Env} (h : ∀ y ∈ scope.names, y.2 = .free → ∃ c, env.cells.lookup y.1 = some c) : closureFor scope env = pure (cloFrom env.cells scope.names []) := by
  simp only [closureFor]
  rw [closure_loop env _ (fun n k c => rfl) scope.names [] h]
  rfl
theorem mem_lookup {α : Type} : ∀ {l : List (Str × α)} {n : Str} {c : α}, (n, c) ∈ l → ∃ c', l.lookup n = some c'
  | (k, v) :: r, n, c, h => by
    rw [List.lookup_cons]
    cases hb : n == k with
    | true => exact ⟨_, rfl⟩
    | false =>
      rcases List.mem_cons.mp h with e | h
      · cases e; simp at hb
      · exact mem_lookup h
theorem cloFrom_mem {cells : List (Str × Addr)} : ∀ {names : List (Str × NameKind)} {acc : List (Str × Addr)} {n : Str} {c : Addr}, (n, c) ∈ cloFrom cells names acc → (n, c) ∈ acc ∨ ((n, .free) ∈ names ∧ c = (cells.lookup n).getD 0)
  | [], _, _, _, h => .inl h
  | (m, k) :: r, acc, n, c, h => by
    unfold cloFrom at h
    split at h
    · rename_i hk
      have hk : k = .free := by simpa using hk
      rcases cloFrom_mem h with h | ⟨h1, h2⟩
      · rcases List.mem_cons.mp h with e | h
        · cases e; exact .inr ⟨hk ▸ List.mem_cons_self, rfl⟩
        · exact .inl h
      · exact .inr ⟨List.mem_cons_of_mem _ h1, h2⟩
    · rcases cloFrom_mem h with h | ⟨h1, h2⟩
      · exact .inl h
      · exact .inr ⟨List.mem_cons_of_mem _ h1, h2⟩
theorem cloFrom_acc {cells : List (Str × Addr)} : ∀ {names : List (Str × NameKind)} {acc : List (Str × Addr)} {p : Str × Addr}, p ∈ acc → p ∈ cloFrom cells names acc
  | [], _, _, h => h
  | (m, k) :: r, acc, p, h => by
    unfold cloFrom
    split
    · exact cloFrom_acc (List.mem_cons_of_mem _ h)
    · exact cloFrom_acc h
theorem cloFrom_has {cells : List (Str × Addr)} : ∀ {names : List (Str × NameKind)} {acc : List (Str × Addr)} {n : Str}, (n, .free) ∈ names → (n, (cells.lookup n).getD 0) ∈ cloFrom cells names acc
  | (m, k) :: r, acc, n, h => by
    unfold cloFrom
    rcases List.mem_cons.mp h with e | h
    · cases e
      exact cloFrom_acc List.mem_cons_self
    · split
      · exact cloFrom_has h
      · exact cloFrom_has h
theorem cells_mem : ∀ {names : List (Str × NameKind)} {h : Heap} {acc : List (Str × Addr)} {x : Str} {c : Addr}, (x, c) ∈ cellsFrom h.objs.size names acc →
    (x, c) ∈ acc ∨ ((x, .cell) ∈ names ∧ h.objs.size ≤ c ∧ CellAt (pushCells h names) c none)
  | [], _, _, _, _, h => .inl h
  | (n, k) :: r, h, acc, x, c, hm => by
    unfold cellsFrom at hm
    unfold pushCells
    split at hm
    · rename_i hk
      rw [if_pos hk]
      have hk : k = .cell := by simpa using hk
      rw [← Heap.size_push h { cls := .type "cell", data := .cell none }] at hm
      rcases cells_mem hm with hm | ⟨h1, h2, h3⟩
      · rcases List.mem_cons.mp hm with e | hm
        · cases e
          exact .inr ⟨hk ▸ List.mem_cons_self, Nat.le_refl _, _, pushCells_keeps r _ _ _ (Heap.get?_push_size _ rfl), rfl⟩
        · exact .inl hm
      · rw [Heap.size_push] at h2
        exact .inr ⟨List.mem_cons_of_mem _ h1, Nat.le_of_succ_le h2, h3⟩
    · rename_i hk
      rw [if_neg hk]
      rcases cells_mem hm with hm | ⟨h1, h2, h3⟩
      · exact .inl hm
      · exact .inr ⟨List.mem_cons_of_mem _ h1, h2, h3⟩
theorem cells_acc : ∀ {names : List (Str × NameKind)} {n : Nat} {acc : List (Str × Addr)} {p : Str × Addr}, p ∈ acc → p ∈ cellsFrom n names acc
  | [], _, _, _, h => h
  | (m, k) :: r, n, acc, p, h => by
    unfold cellsFrom
    split
    · exact cells_acc (List.mem_cons_of_mem _ h)
    · exact cells_acc h
theorem cells_has : ∀ {names : List (Str × NameKind)} {n : Nat} {acc : List (Str × Addr)} {x : Str}, (x, .cell) ∈ names → ∃ c, (x, c) ∈ cellsFrom n names acc
  | (m, k) :: r, n, acc, x, h => by
    unfold cellsFrom
    rcases List.mem_cons.mp h with e | h
    · cases e
      exact ⟨n, cells_acc List.mem_cons_self⟩
    · split
      · exact cells_has h
      · exact cells_has h
theorem cells_inj : ∀ {names : List (Str × NameKind)} {h : Heap} {acc : List (Str × Addr)} {x y : Str} {c : Addr}, (∀ p ∈ acc, p.2 < h.objs.size) → (∀ x y c, (x, c) ∈ acc → (y, c) ∈ acc → x = y) →
    (x, c) ∈ cellsFrom h.objs.size names acc → (y, c) ∈ cellsFrom h.objs.size names acc → x = y
  | [], _, _, _, _, _, _, hi, h1, h2 => hi _ _ _ h1 h2
  | (n, k) :: r, h, acc, x, y, c, hl, hi, h1, h2 => by
    unfold cellsFrom at h1 h2
    split at h1
    · rename_i hk
      rw [if_pos hk] at h2
      rw [← Heap.size_push h { cls := .type "cell", data := .cell none }] at h1 h2
      refine cells_inj (h := h.push _) (fun p hp => ?_) (fun x y c a b => ?_) h1 h2
      · rw [Heap.size_push]
        rcases List.mem_cons.mp hp with rfl | hp
        · exact Nat.lt_succ_self _
        · exact Nat.lt_succ_of_lt (hl p hp)
      · rcases List.mem_cons.mp a with e | a <;> rcases List.mem_cons.mp b with e' | b
        · cases e; cases e'; rfl
        · cases e; exact absurd (hl _ b) (Nat.lt_irrefl _)
        · cases e'; exact absurd (hl _ a) (Nat.lt_irrefl _)
        · exact hi _ _ _ a b
    · rename_i hk
      rw [if_neg hk] at h2
      exact cells_inj hl hi h1 h2
theorem newEnv_comp {M : Model} {A : Around} {E : Value → Shared → Prop} {s : Shared} {scope : Scope} {globals : Addr} {closure : List (Str × Addr)} {qual : Str} {func : Option Addr} {code : Value} {around : Env} {builtins : Addr} {Q : Env → Shared → Prop}
    (h : Q (newEnv scope s.heap.objs.size globals (cellsFrom (s.heap.objs.size + 1) scope.names closure) qual func code (some around) builtins)
      { s with heap := pushCells (s.heap.push { cls := .type "dict", data := .dict #[] }) scope.names }) :
    wpAny M A (newFunctionEnv scope globals closure [] qual func code (some around) builtins) Q E s := by
  simp only [newFunctionEnv, Option.isSome_some, if_true]
  refine wpAny_bind (wpAny_alloc ?_)
  refine wpAny_bind (wpAny_layCells _ (fun n k c => rfl) scope.names closure _ _ ?_)
  rw [show ({ s with heap := s.heap.push { cls := .type "dict", data := .dict #[] } } : Shared).heap.objs.size = s.heap.objs.size + 1 from Heap.size_push ..]
  rw [List.forIn_nil]
  exact wpAny_bind (wpAny_pure (wpAny_pure h))
theorem lookup_relS {sc : Scope} : ∀ {names : List (Str × NameKind)} {x : Str} {k : NameKind},
    (names.map fun (n, k) => if (k == NameKind.free && sc.kind == .function && sc.names.lookup n == some .cell) then (n, NameKind.cell) else (n, k)).lookup x = some k →
    ∃ k', names.lookup x = some k' ∧ (k = k' ∨ (k' = .free ∧ k = .cell))
  | [], _, _, h => by simp at h
  | (n, k₀) :: r, x, k, h => by
    have ih := @lookup_relS sc r x k
    have h' : List.lookup x ((if (k₀ == NameKind.free && sc.kind == .function && sc.names.lookup n == some .cell) = true then (n, NameKind.cell) else (n, k₀)) :: (r.map _)) = some k := h
    cases hx : x == n with
    | true =>
      simp only [List.lookup_cons, hx]
      by_cases hc : (k₀ == NameKind.free && sc.kind == .function && sc.names.lookup n == some .cell) = true
      · rw [if_pos hc] at h'
        simp only [List.lookup_cons, hx] at h'
        cases h'
        simp only [Bool.and_eq_true, beq_iff_eq] at hc
        exact ⟨k₀, rfl, .inr ⟨hc.1.1, rfl⟩⟩
      · rw [if_neg hc] at h'
        simp only [List.lookup_cons, hx] at h'
        cases h'
        exact ⟨_, rfl, .inl rfl⟩
    | false =>
      simp only [List.lookup_cons, hx]
      by_cases hc : (k₀ == NameKind.free && sc.kind == .function && sc.names.lookup n == some .cell) = true
      · rw [if_pos hc] at h'
        simp only [List.lookup_cons, hx] at h'
        exact ih h'
      · rw [if_neg hc] at h'
        simp only [List.lookup_cons, hx] at h'
        exact ih h'
structure BlkOk (N : List Str) (sc scope : Scope) (own : List (Str × Nat)) : Prop where
  kind : scope.kind = .function
  uniq : ∀ y ∈ scope.names, scope.names.lookup y.1 = some y.2
  ix : ∀ p ∈ own, N[p.2]? = some p.1
  free : ∀ y ∈ scope.names, y.2 = .free → sc.names.lookup y.1 = some .cell ∨ sc.names.lookup y.1 = some .free
  own : ∀ y ∈ scope.names, y.2 = .local ∨ y.2 = .cell → y.1 ∈ own.map (·.1) ∨ y.1 ∉ N
noncomputable def wipe (σ : St) : List Nat → St
  | [] => σ
  | v :: vs => (wipe σ vs).set v none
theorem wipe_length (σ : St) : ∀ vs : List Nat, (wipe σ vs).length = σ.length
  | [] => rfl
  | v :: vs => by unfold wipe; rw [List.length_set, wipe_length σ vs]
theorem wipe_some {σ : St} {i : Nat} {x : V} : ∀ {vs : List Nat}, (wipe σ vs)[i]? = some (some x) → σ[i]? = some (some x) ∧ i ∉ vs
  | [], h => ⟨h, by simp⟩
  | v :: vs, h => by
    unfold wipe at h
    by_cases hi : v = i
    · subst hi
      by_cases hv : v < (wipe σ vs).length
      · rw [List.getElem?_set_self hv] at h; cases h
      · rw [List.getElem?_eq_none (by simpa using hv)] at h; cases h
    · rw [List.getElem?_set_ne hi] at h
      obtain ⟨h1, h2⟩ := wipe_some h
      exact ⟨h1, by simp only [List.mem_cons, not_or]; exact ⟨fun e => hi e.symm, h2⟩⟩
noncomputable abbrev Cx.blk (X : Cx) (s : Shared) (H : Hp) (scope : Scope) (cenv : Env) (fp : List Addr) : Cx := { X with s_0 := s, H_0 := H, env := cenv, outer := X.stack, ex := fp, fn := fun x => scope.names.lookup x == some .cell, pn := [], xe := fun _ _ => False }
section
variable {X : Cx} {pins : List (Addr × Obj)} {σ : St} {H : Hp} {s : Shared}
theorem block_start {scope : Scope} {own : List (Str × Nat)} {fp : List Addr} (I : Inv X pins σ H s) (ok : BlkOk X.N X.env.scope scope own) (hN : X.N.Nodup) (hfp : ∀ b ∈ fp, FpOk X pins H b ∧ b < s.heap.objs.size) :
    Inv (X.blk s H scope (compEnvC scope (cellsFrom (s.heap.objs.size + 1) scope.names (cloFrom X.env.cells scope.names [])) s.heap.objs.size X.env) fp) [] (wipe σ (own.map (·.2))) H { s with heap := pushCells (s.heap.push { cls := .type "dict", data := .dict #[] }) scope.names } := by
  have hfree : ∀ y ∈ scope.names, y.2 = .free → ∃ c, X.env.cells.lookup y.1 = some c := fun y hy e => by
    rcases ok.free y hy e with k | k
    · exact I.ok.has _ (.inl k)
    · exact I.ok.has _ (.inr k)
  generalize hcenv : compEnvC scope (cellsFrom (s.heap.objs.size + 1) scope.names (cloFrom X.env.cells scope.names [])) s.heap.objs.size X.env = cenv
  have kp : ∀ b o, s.heap.get? b = some o → (pushCells (s.heap.push { cls := .type "dict", data := .dict #[] }) scope.names).get? b = some o := fun b o e => pushCells_keeps _ _ _ _ (Heap.get?_push_of_some _ e)
  have hL : cenv.locals = s.heap.objs.size := by rw [← hcenv]; rfl
  have hcl : cenv.cells = cellsFrom (s.heap.objs.size + 1) scope.names (cloFrom X.env.cells scope.names []) := by rw [← hcenv]; rfl
  have hsc : cenv.scope = relS scope X.env.scope := by rw [← hcenv]; rfl
  rw [← Heap.size_push s.heap { cls := .type "dict", data := .dict #[] }] at hcl
  have cm : ∀ {y c}, (y, c) ∈ cloFrom X.env.cells scope.names [] → X.env.cells.lookup y = some c ∧ c < s.heap.objs.size := fun {y c} hm => by
    rcases cloFrom_mem hm with hm | ⟨h1, rfl⟩
    · cases hm
    · obtain ⟨c, hc⟩ := hfree _ h1 rfl
      rw [hc]
      obtain ⟨w, z⟩ := I.cell _ _ hc
      exact ⟨rfl, z.lt⟩
  have mem : ∀ {y c}, cenv.cells.lookup y = some c → (X.env.cells.lookup y = some c ∧ c < s.heap.objs.size) ∨ (s.heap.objs.size + 1 ≤ c ∧ CellAt (pushCells (s.heap.push { cls := .type "dict", data := .dict #[] }) scope.names) c none) := fun {y c} e => by
    rw [hcl] at e
    rcases cells_mem (PySem.mem_of_lookup e) with hm | ⟨_, h2, h3⟩
    · exact .inl (cm hm)
    · rw [Heap.size_push] at h2; exact .inr ⟨h2, h3⟩
  have look : ∀ {y}, scope.names.lookup y = some .free → ∃ c, cenv.cells.lookup y = some c ∧ X.env.cells.lookup y = some c := fun {y} hl => by
    have hy : (y, NameKind.free) ∈ scope.names := PySem.mem_of_lookup hl
    obtain ⟨c', e'⟩ := mem_lookup (cells_acc (names := scope.names) (n := (s.heap.push { cls := .type "dict", data := .dict #[] }).objs.size) (cloFrom_has (cells := X.env.cells) (acc := []) hy))
    rw [← hcl] at e'
    refine ⟨c', e', ?_⟩
    rw [hcl] at e'
    rcases cells_mem (PySem.mem_of_lookup e') with hm | ⟨h1, _, _⟩
    · exact (cm hm).1
    · have := ok.uniq _ h1
      rw [hl] at this; cases this
  have okB : (X.blk s H scope cenv fp).Ok := by
    refine ⟨I.ok.mod, by show cenv.scope.kind = _; rw [hsc]; exact ok.kind, by show cenv.globals = _; rw [← hcenv]; exact I.ok.glob, by show cenv.builtins = _; rw [← hcenv]; exact I.ok.blt, by show s.heap.objs.size ≤ cenv.locals; rw [hL]; exact Nat.le_refl _,
      fun y z c e1 e2 => ?_, fun y hy => ?_, fun y c z e => ?_, I.ok.hd, I.ok.frames, .inl rfl, fun b hb => ⟨?_, fun y c e z => ?_⟩, I.bs, Nat.le_trans I.ok.bsz I.sz, fun b o e hb => ?_, fun b hb z => ?_, I.stack, I.stkFree⟩
    · have e1 : cenv.cells.lookup y = some c := e1
      have e2 : cenv.cells.lookup z = some c := e2
      rw [hcl] at e1 e2
      refine cells_inj (fun p hp => ?_) (fun y z c a b => I.ok.inj y z c (cm a).1 (cm b).1) (PySem.mem_of_lookup e1) (PySem.mem_of_lookup e2)
      rw [Heap.size_push]
      exact Nat.lt_succ_of_lt (cm (y := p.1) (c := p.2) hp).2
    · show ∃ c, cenv.cells.lookup y = some c
      have key : ∀ k, cenv.kindOf y = some k → (k = .cell ∨ k = .free) → ∃ c, cenv.cells.lookup y = some c := fun k hk hk' => by
        unfold Env.kindOf at hk
        rw [hsc] at hk
        obtain ⟨k', e, r⟩ := lookup_relS hk
        have : k' = .cell ∨ k' = .free := by
          rcases r with rfl | ⟨rfl, _⟩
          · exact hk'
          · exact .inr rfl
        rcases this with rfl | rfl
        · obtain ⟨c, hm⟩ := cells_has (n := (s.heap.push { cls := .type "dict", data := .dict #[] }).objs.size) (acc := cloFrom X.env.cells scope.names []) (PySem.mem_of_lookup e)
          obtain ⟨c', e'⟩ := mem_lookup hm
          exact ⟨c', by rw [hcl]; exact e'⟩
        · obtain ⟨c, h1, _⟩ := look e
          exact ⟨c, h1⟩
      rcases hy with hy | hy
      · exact key _ hy (.inl rfl)
      · exact key _ hy (.inr rfl)
    · have z : (scope.names.lookup y == some NameKind.cell) = true := z
      have z : scope.names.lookup y = some .cell := by simpa using z
      have e : cenv.cells.lookup y = some c := e
      rw [hcl] at e
      rcases cells_mem (PySem.mem_of_lookup e) with hm | ⟨_, h2, _⟩
      · rcases cloFrom_mem hm with hm | ⟨h1, _⟩
        · cases hm
        · have q := ok.uniq _ h1
          rw [z] at q; cases q
      · rw [Heap.size_push] at h2
        exact Nat.le_of_succ_le h2
    · show b ≠ cenv.locals
      rw [hL]; exact Nat.ne_of_lt (hfp b hb).2
    · have e : cenv.cells.lookup y = some c := e
      rcases mem e with ⟨h1, _⟩ | ⟨h1, _⟩
      · exact (hfp b hb).1.2.2.2.2.1 y c h1 z
      · have h2 : s.heap.objs.size + 1 ≤ b := by rw [← z]; exact h1
        exact absurd (Nat.lt_of_lt_of_le (hfp b hb).2 (Nat.le_of_succ_le h2)) (Nat.lt_irrefl _)
    · rcases (hfp b hb).1.2.2.2.1 with z | z
      · exact I.ok.noex b o e z
      · exact absurd (Nat.lt_of_lt_of_le (Heap.lt_size e) (Nat.le_trans I.ok.bsz z)) (Nat.lt_irrefl _)
    · rcases List.mem_cons.mp (I.stkSub b z) with z | z
      · exact (hfp b hb).1.2.1 z
      · exact (hfp b hb).1.2.2.1 z
  refine ⟨okB, rfl, I.bare, Un.kept kp, ⟨fun _ => none, ?_, fun i y av e1 e2 e3 => ?_⟩, fun y c e => ?_, ?_, fun y c e => ?_, fun p hp => ?_, I.hok.kept kp, by rw [wipe_length]; exact I.len⟩
  · show Heap.Ns _ cenv.locals _
    rw [hL]
    exact Heap.Ns.keeps (Heap.Ns.new ..) fun b o e => pushCells_keeps _ _ _ _ e
  · obtain ⟨e2, hne⟩ := wipe_some e2
    have hfr : scope.names.lookup y = some .free ∧ (cenv.kindOf y = some .cell ∨ cenv.kindOf y = some .free) := by
      have key : ∀ k, cenv.scope.names.lookup y = some k → k = .local ∨ k = .cell ∨ k = .free → scope.names.lookup y = some .free ∧ (cenv.kindOf y = some .cell ∨ cenv.kindOf y = some .free) := fun k hk hk' => by
        have hk0 := hk
        rw [hsc] at hk
        obtain ⟨k', e, r⟩ := lookup_relS hk
        have no : ¬ (k' = .local ∨ k' = .cell) := fun hh => by
          rcases ok.own _ (PySem.mem_of_lookup e) hh with e' | e'
          · obtain ⟨p, hp, hpy⟩ := List.mem_map.mp e'
            have e3 := ok.ix p hp
            have : p.1 = y := hpy
            rw [this] at e3
            exact hne (List.mem_map.mpr ⟨p, hp, nodup_ix hN e3 e1⟩)
          · exact e' (List.mem_of_getElem? e1)
        rcases r with rfl | ⟨rfl, rfl⟩
        · rcases hk' with rfl | rfl | rfl
          · exact absurd (.inl rfl) no
          · exact absurd (.inr rfl) no
          · exact ⟨e, .inr hk0⟩
        · exact ⟨e, .inl hk0⟩
      have e3 : Vis cenv.scope y := e3
      rcases e3 with e3 | e3 | e3
      · exact key _ e3 (.inl rfl)
      · exact key _ e3 (.inr (.inl rfl))
      · exact key _ e3 (.inr (.inr rfl))
    obtain ⟨m, hn, hl⟩ := I.loc
    have hvis : Vis X.env.scope y := (ok.free _ (PySem.mem_of_lookup hfr.1) rfl).elim (fun k => .inr (.inl k)) (fun k => .inr (.inr k))
    obtain ⟨w, r, q⟩ := hl i y av e1 e2 hvis
    refine ⟨w, r, .inr ⟨hfr.2, ?_⟩⟩
    obtain ⟨c, h1, h2⟩ := look hfr.1
    rcases q with ⟨k, _⟩ | ⟨_, c', e', z⟩
    · have k : X.env.scope.names.lookup y = some .local := k
      rcases ok.free _ (PySem.mem_of_lookup hfr.1) rfl with k' | k' <;> rw [show X.env.scope.names.lookup y = _ from k'] at k <;> cases k
    · rw [h2] at e'; cases e'
      exact ⟨c, h1, z.keeps kp⟩
  · have e : cenv.cells.lookup y = some c := e
    rcases mem e with ⟨h1, _⟩ | ⟨_, z⟩
    · obtain ⟨w, z⟩ := I.cell y c h1
      exact ⟨w, z.keeps kp⟩
    · exact ⟨_, z⟩
  · show H cenv.locals = none
    rw [hL]; exact I.hok.fresh (Nat.le_refl _)
  · have e : cenv.cells.lookup y = some c := e
    rcases mem e with ⟨h1, _⟩ | ⟨h1, _⟩
    · exact I.freeC y c h1
    · exact I.hok.fresh (Nat.le_of_succ_le h1)
  · exact absurd (show p ∈ ([] : List (Addr × Obj)) ++ [] from hp) (by simp)
theorem app_ok {E : Value → Shared → Prop} {D : Addr} {xs : List V} {y : V} {v : Value} {Q : Value → Shared → Prop} (I : Inv X pins σ H s) (hD : H D = some (.lst xs)) (hz : xs.length < sizeLine) (r : RelV y v)
    (h : ∀ s', Inv X pins σ (upd H D (.lst (xs ++ [y]))) s' → Q .none s') : wpAny (model X.prog X.w) X.A (call (.builtin "list.append") [.ref D, v]) Q E s := by
  obtain ⟨hz', its, n, ri, e⟩ := I.hok D _ hD
  have hl := ri.length
  refine append_at (hsz := by rw [List.size_toArray]; omega) e fun h' sb ho' => ?_
  refine h { s with heap := h' } (I.write (t' := s.toks) (by rw [hD]; trivial) (.inl rfl) (fun b u hb q => (sb.2 b hb).trans q) ⟨_, ho'⟩ ⟨by rw [List.length_append]; exact hz, its ++ [v], n + 1, ri.append (.cons r .nil), ?_⟩)
  rw [ho']
  simp
noncomputable def PTs (X : Cx) (ifs : List Expr) (t : TT) : Prop :=
  ∀ (pins : List (Addr × Obj)) (s : Shared) (σ : St) (H : Hp) (Q : Bool → Hp → Prop), Inv X pins σ H s → t σ H Q →
    wpAny (model X.prog X.w) X.A (forIn ifs true fun c r => if r = true then do let ok ← isTrue c X.env (eval c X.env); pure (ForInStep.yield ok) else pure (ForInStep.yield r)) (TP X pins σ Q) X.xe s
noncomputable def tYes : TT := fun _ H Q => Q true H
theorem pts_nil : PTs X [] tYes := fun _ _ _ H _ I h => wpAny_tests_nil ⟨H, I, h⟩
theorem pts_one {c : Expr} {t : TT} (h : PT X c t) : PTs X [c] t := fun pins s σ H Q I hw => wpAny_tests_one (h pins s σ H Q I hw)
end
theorem thnF {α : Type} {t : Sem α} {Q Q' : α → Shared → Prop} {M : Model} {A : Around} {E : Value → Shared → Prop} {s : Shared} (h : wpAny M A t Q (fun _ _ => False) s) (hQ : ∀ a s, Q a s → Q' a s) : wpAny M A t Q' E s := wpAny_mono h hQ fun _ _ z => False.elim z
theorem compLoop_any {prog : Program} {w : World} {A : Around} {R : Result → Shared → Prop} {s : Shared} {elt target iter : Expr} {ifs : List Expr} {scope : Scope} {pos : Pos} {it acc : Value} {env : Env} (I : Nat → Shared → Prop)
    (turn : ∀ n s, I n s → wpAny (model prog w) A (pyNext it) (fun r s₁ => match r with
      | none => R (.ok .next) s₁
      | some v => wpAny (model prog w) A (letOwnedTupleGo target it v) (fun _ s₁' => wpAny (model prog w) A (assign target env v) (fun _ s₂ =>
          wpAny (model prog w) A (forIn ifs true fun c r => if r = true then do let ok ← isTrue c env (eval c env); pure (ForInStep.yield ok) else pure (ForInStep.yield r)) (fun ok s₃ =>
            if ok = true then wpAny (model prog w) A (eval elt env) (fun x s₄ =>
              wpAny (model prog w) A (call (.builtin "list.append") [acc, x]) (fun _ s₅ => ∃ m, m < n ∧ I m s₅) (notedBy (model prog w) A env fun e s' => R (.error e) s') s₄) (notedBy (model prog w) A env fun e s' => R (.error e) s') s₃
            else ∃ m, m < n ∧ I m s₃) (notedBy (model prog w) A env fun e s' => R (.error e) s') s₂) (notedBy (model prog w) A env fun e s' => R (.error e) s') s₁') (notedBy (model prog w) A env fun e s' => R (.error e) s') s₁) (notedBy (model prog w) A env fun e s' => R (.error e) s') s)
    (n : Nat) (h : I n s) :
    codeAny (model prog w) A (.compLoop (.ListComp elt [⟨target, iter, ifs, 0⟩] scope pos) 0 it acc env) R s := by
  refine codeAny_loop rfl I (fun n s hI => ?_) n h
  show wpAny _ A ((compTurn (.ListComp elt [⟨target, iter, ifs, 0⟩] scope pos) 0 it acc env).onRaise (fun x => do noteFrame x env; theTreesLotGoes x)) _ _ s
  refine wpAny_noted ?_
  rw [compTurn_list]
  refine wpAny_bind (wpAny_standAt (wpAny_bind (wpAny_mono (turn n s hI) (fun r s₁ h₁ => ?_) fun _ _ h' => h')))
  cases r with
  | none => exact wpAny_pure h₁
  | some v =>
    refine wpAny_bind (wpAny_mono h₁ (fun _ s₁' h₁' => ?_) fun _ _ h' => h')
    refine wpAny_bind (wpAny_mono h₁' (fun _ s₂ h₂ => wpAny_bind (wpAny_mono h₂ (fun ok s₃ h₃ => ?_) fun _ _ h' => h')) fun _ _ h' => h')
    cases ok with
    | false => exact wpAny_pure ⟨rfl, h₃⟩
    | true =>
      exact wpAny_bind (wpAny_bind (wpAny_mono h₃ (fun x s₄ h₄ => wpAny_bind (wpAny_mono h₄ (fun _ s₅ h₅ => wpAny_pure (wpAny_pure ⟨rfl, h₅⟩)) fun _ _ h' => h')) fun _ _ h' => h'))
section
variable {X : Cx}
noncomputable def tLc (wi : TI) (g : TG) (tt : TT) (te : TE) (vs : List Nat) : TE := fun σ H Q => wi σ H fun J H1 => ∀ D, H1 D = none → ∃ W : Nat → Nat → Hp → Prop, (∃ m, W 0 m (upd H1 D (.lst []))) ∧ ∀ i m H, W i m H →
  (J.stop i H ∧ Q (.ref D) H) ∨ (J.go i H ∧ ∃ Nx : Hp → Prop, (∀ H', Nx H' → ∃ m', m' < m ∧ W (i + 1) m' H') ∧ ∀ x H', J.yld i H x H' → g x (wipe σ vs) H' fun σ2 H2 => wipe σ2 vs = wipe σ vs ∧ tt σ2 H2 fun b H3 =>
    if b = true then te σ2 H3 fun y H4 => ∃ acc, H4 D = some (.lst acc) ∧ acc.length < sizeLine ∧ Nx (upd H4 D (.lst (acc ++ [y]))) else Nx H3)
theorem lc_core {pins : List (Addr × Obj)} {s : Shared} {σ : St} {H : Hp} {Q : VK} {elt tg iter : Expr} {ifs : List Expr} {scope : Scope} {own : List (Str × Nat)} {pos pos' : Pos} {wi : TI} {g : TG} {tt : TT} {te : TE} {use : Option (Value → Sem Unit)} {Qf : Value → Shared → Prop}
    (hc : X.calm = true) (hN : X.N.Nodup) (I : Inv X pins σ H s) (hi : PI X tg iter wi) (ok : BlkOk X.N X.env.scope scope own)
    (hg : ∀ (s : Shared) (H : Hp) (C : Addr) (cl : List (Str × Addr)) (fp : List Addr), PG (X.blk s H scope (compEnvC scope cl C X.env) fp) tg g) (ht : ∀ (s : Shared) (H : Hp) (C : Addr) (cl : List (Str × Addr)) (fp : List Addr), PTs (X.blk s H scope (compEnvC scope cl C X.env) fp) ifs tt)
    (he : ∀ (s : Shared) (H : Hp) (C : Addr) (cl : List (Str × Addr)) (fp : List Addr), PE (X.blk s H scope (compEnvC scope cl C X.env) fp) elt te) (hs : ∀ x, foldedSetIterable iter X.env x = pure x)
    (h : tLc wi g tt te (own.map (·.2)) σ H Q)
    (hRR : ∀ D C s' m H', Inv X pins σ H' s' → Q (.ref D) H' → s'.heap.Ns C m → FpOk X pins H' C → compPost (model X.prog X.w) X.A X.xe use Qf (.ref D) C (.ok .next) s') :
    wpAny (model X.prog X.w) X.A (comprehension (.ListComp elt [⟨tg, iter, ifs, 0⟩] scope pos) scope X.env pos' (newList []) false (eval iter X.env) use) Qf X.xe s := by
  have hfree : ∀ y ∈ scope.names, y.2 = .free → ∃ c, X.env.cells.lookup y.1 = some c := fun y hy e => by
    rcases ok.free y hy e with k | k
    · exact I.ok.has _ (.inl k)
    · exact I.ok.has _ (.inr k)
  refine wpAny_comprehension_free (use := use) rfl hs (closure_ok hfree) ok.kind (fun y hy e => by rw [ok.uniq y hy, e])
    (thn (hi pins s σ H _ I h) fun xv s1 hx => thn hx fun itv s2 h2 => ?_)
  obtain ⟨it, fp, tn, J, H2, e, I2, T, st2, f2, q⟩ := h2
  subst e
  refine wpAny_newObj_type (newEnv_comp ?_) (by show 0 ≤ sizeLine; decide)
  generalize hD : s2.heap.objs.size = D
  have hDn : H2 D = none := I2.hok.fresh (Nat.le_of_eq hD)
  obtain ⟨W, ⟨m0, w0⟩, turn⟩ := q D hDn
  -- the new list
  generalize hs3 : ({ s2 with heap := s2.heap.push { cls := .type "list", data := .seq ([] : List Value).toArray } } : Shared) = s3
  have I3 : Inv X pins σ (upd H2 D (.lst [])) s3 := by
    rw [← hs3]
    refine I2.laid (t' := s2.toks) (fun b o e => Heap.get?_push_of_some _ e) (Nat.le_of_eq hD) ⟨Nat.zero_le _, [], 0, .nil, ?_⟩
    rw [← hD]
    exact Heap.get?_push_size _ rfl
  have h3 : s3.heap = s2.heap.push { cls := .type "list", data := .seq ([] : List Value).toArray } := by rw [← hs3]
  have sz : ∀ b ∈ fp, b < s2.heap.objs.size := fun b hb => by
    obtain ⟨o, e, _⟩ := T.obj _ _ st2 b hb
    exact Heap.lt_size e
  have f3 : ∀ b ∈ fp, FpOk X pins (upd H2 D (.lst [])) b ∧ b < s3.heap.objs.size := fun b hb => by
    have hlt := sz b hb
    refine ⟨⟨?_, (f2 b hb).2⟩, by rw [h3, Heap.size_push]; exact Nat.lt_succ_of_lt hlt⟩
    rw [upd_ne (by rw [← hD]; exact Nat.ne_of_lt hlt)]
    exact (f2 b hb).1
  have st3 : tn 0 s3.heap := T.keep _ _ _ st2 fun b _ o e => by rw [h3]; exact Heap.get?_push_of_some _ e
  have I4 := block_start I3 ok hN f3
  have pg := hg s3 (upd H2 D (.lst [])) s3.heap.objs.size (cellsFrom (s3.heap.objs.size + 1) scope.names (cloFrom X.env.cells scope.names [])) fp
  have pt := ht s3 (upd H2 D (.lst [])) s3.heap.objs.size (cellsFrom (s3.heap.objs.size + 1) scope.names (cloFrom X.env.cells scope.names [])) fp
  have pe := he s3 (upd H2 D (.lst [])) s3.heap.objs.size (cellsFrom (s3.heap.objs.size + 1) scope.names (cloFrom X.env.cells scope.names [])) fp
  show codeAny _ _ (.compStart (.ListComp elt [⟨tg, iter, ifs, 0⟩] scope pos) 0 (.ref it) (.ref D) (compEnvC scope (cellsFrom (s3.heap.objs.size + 1) scope.names (cloFrom X.env.cells scope.names [])) s3.heap.objs.size X.env)) (compPost (model X.prog X.w) X.A X.xe use Qf (.ref D) s3.heap.objs.size) { s3 with heap := pushCells (s3.heap.push { cls := .type "dict", data := .dict #[] }) scope.names }
  have nfp : ∀ b ∈ fp, (upd H2 D (.lst [])) b = none := fun b hb => (f3 b hb).1.1
  generalize hce : compEnvC scope (cellsFrom (s3.heap.objs.size + 1) scope.names (cloFrom X.env.cells scope.names [])) s3.heap.objs.size X.env = ce at I4 pg pt pe ⊢
  have cL : ce.locals = s3.heap.objs.size := by subst hce; rfl
  generalize hH3 : upd H2 D (.lst []) = H3 at I3 I4 pg pt pe w0 nfp f3
  generalize hs4 : ({ s3 with heap := pushCells (s3.heap.push { cls := .type "dict", data := .dict #[] }) scope.names } : Shared) = s4 at I4 ⊢
  have st4 : tn 0 s4.heap := T.keep _ _ _ st3 fun b _ o e => by rw [← hs4]; exact pushCells_keeps _ _ _ _ (Heap.get?_push_of_some _ e)
  have stat : ∀ {σ' : St} {H' : Hp} {s' : Shared}, Inv (X.blk s3 H3 scope ce fp) [] σ' H' s' → (∀ b ∈ fp, H' b = none) → ∀ b ∈ fp, FpOk (X.blk s3 H3 scope ce fp) [] H' b := fun {σ' H' s'} I' hn b hb =>
    ⟨hn b hb, (I'.ok.exf b hb).1, I'.ok.exfs b hb, .inl hb, fun x c e => (I'.ok.exf b hb).2 x c e, fun p hp => absurd (show p ∈ ([] : List (Addr × Obj)) ++ [] from hp) (by simp)⟩
  have loop : codeAny (model X.prog X.w) X.A (.compLoop (.ListComp elt [⟨tg, iter, ifs, 0⟩] scope pos) 0 (.ref it) (.ref D) ce) (compPost (model X.prog X.w) X.A X.xe use Qf (.ref D) s3.heap.objs.size) s4 := by
    refine compLoop_any (fun n s' => ∃ i H', Inv (X.blk s3 H3 scope ce fp) [] (wipe σ (own.map (·.2))) H' s' ∧ tn i s'.heap ∧ (∀ b ∈ fp, H' b = none) ∧ W i n H') ?_ m0 ⟨0, H3, I4, st4, nfp, w0⟩
    rintro n s5 ⟨i, H5, I5, st5, n5, w5⟩
    rcases turn i n H5 w5 with ⟨stop, qq⟩ | ⟨go, Nx, hNx, step⟩
    · have td := T.done (X.blk s3 H3 scope ce fp) rfl rfl rfl hc i [] s5 _ H5 (fun _ _ => False) I5 (stat I5 n5) st5 stop
      refine thnF td fun r s6 ⟨hr, I6⟩ => ?_
      subst hr
      -- back in the def's context
      have I7 : Inv X pins σ H5 s6 := I3.call' (ch := fp) I6.os I6.base I6.hok I6.bare fun b hb => ⟨(f3 b hb).1.2.2.2.1, (f3 b hb).1.2.1, (f3 b hb).1.2.2.2.2.1, (f3 b hb).1.2.2.2.2.2⟩
      have nC : H5 s3.heap.objs.size = none := by
        have z : H5 ce.locals = none := I6.free
        rw [cL] at z
        exact z
      obtain ⟨m, hn, _⟩ := I6.loc
      have hn : s6.heap.Ns ce.locals m := hn
      rw [cL] at hn
      exact hRR D s3.heap.objs.size s6 m H5 I7 qq hn (I3.fpOk (Nat.le_refl _) nC)
    · have ti := T.item (X.blk s3 H3 scope ce fp) rfl rfl rfl hc i [] s5 _ H5 (fun _ _ => False) I5 (stat I5 n5) st5 go
      refine thnF ti fun r s6 ⟨u, hr, h6⟩ => ?_
      subst hr
      refine thnF h6 fun _ s7 ⟨x, H7, I7, r7, y7, st7, n7⟩ => ?_
      have I7' := I7.pinned (stat I7 n7) (T.obj _ _ st7)
      refine thnF (pg _ s7 _ H7 x u _ I7' r7 (step x H7 y7)) fun _ s8 ⟨σ8, H8, I8, hw8, q8⟩ => ?_
      refine thnF (pt _ s8 σ8 H8 _ I8 q8) fun b s9 ⟨H9, I9, q9⟩ => ?_
      -- the turn's end
      have fin : ∀ {s' : Shared} {H' : Hp}, Inv (X.blk s3 H3 scope ce fp) ([] ++ pinsAt fp s7.heap) σ8 H' s' → Nx H' → ∃ m, m < n ∧ ∃ i H', Inv (X.blk s3 H3 scope ce fp) [] (wipe σ (own.map (·.2))) H' s' ∧ tn i s'.heap ∧ (∀ b ∈ fp, H' b = none) ∧ W i m H' := fun {s' H'} I' nx => by
        obtain ⟨m', hm, w'⟩ := hNx H' nx
        have pin' : ∀ b ∈ fp, ∀ o, s7.heap.get? b = some o → s'.heap.get? b = some o ∧ H' b = none := fun b hb o e =>
          let z := I'.pin (b, o) (List.mem_append_right _ (List.mem_append_right _ (mem_pinsAt hb e)))
          ⟨z.1, z.2.1⟩
        have hl : (wipe σ (own.map (·.2))).length = σ8.length := by rw [← hw8, wipe_length]
        refine ⟨m', hm, i + 1, H', (I'.unpinned (pins := [])).weak hl (fun j v e => ?_), T.keep _ _ _ st7 fun b hb o e => (pin' b hb o e).1, fun b hb => ?_, w'⟩
        · rw [← hw8] at e
          exact (wipe_some e).1
        · obtain ⟨o, e, _⟩ := T.obj _ _ st7 b hb
          exact (pin' b hb o e).2
      cases b with
      | false =>
        simp only [Bool.false_eq_true, if_false] at q9 ⊢
        exact fin I9 q9
      | true =>
        simp only [if_true] at q9 ⊢
        refine thnF (pe _ s9 σ8 H9 _ I9 q9) fun z s10 ⟨yv, H10, I10, r10, acc, hD10, hz10, nx⟩ => ?_
        exact app_ok (X := X.blk s3 H3 scope ce fp) I10 hD10 hz10 r10 fun s11 I11 => fin I11 nx
  exact codeAny_compStart_list loop (T.self X.A 0 _ _ _ st4 loop)
theorem pe_lc {elt tg iter : Expr} {ifs : List Expr} {scope : Scope} {own : List (Str × Nat)} {pos : Pos} {wi : TI} {g : TG} {tt : TT} {te : TE} (hc : X.calm = true) (hN : X.N.Nodup) (hi : PI X tg iter wi) (ok : BlkOk X.N X.env.scope scope own)
    (hg : ∀ (s : Shared) (H : Hp) (C : Addr) (cl : List (Str × Addr)) (fp : List Addr), PG (X.blk s H scope (compEnvC scope cl C X.env) fp) tg g) (ht : ∀ (s : Shared) (H : Hp) (C : Addr) (cl : List (Str × Addr)) (fp : List Addr), PTs (X.blk s H scope (compEnvC scope cl C X.env) fp) ifs tt)
    (he : ∀ (s : Shared) (H : Hp) (C : Addr) (cl : List (Str × Addr)) (fp : List Addr), PE (X.blk s H scope (compEnvC scope cl C X.env) fp) elt te) (hs : ∀ x, foldedSetIterable iter X.env x = pure x := by intro _; rfl) :
    PE X (.ListComp elt [⟨tg, iter, ifs, 0⟩] scope pos) (tLc wi g tt te (own.map (·.2))) := by
  intro pins s σ H Q I h
  rw [eval_ListComp]
  refine lc_core hc hN I hi ok hg ht he hs h fun D C s' m H' I' q hn f => ⟨m, hn, fun h'' sb => ?_⟩
  obtain ⟨f0, f1, f2, f3, f4, f5⟩ := f
  exact ⟨.ref D, H', I'.turned (t' := s'.toks) (fun b o hb e => (sb.2 b hb).trans e) f0 f1 f3 f4 f5, rfl, q⟩
theorem ps_setLc {i : Nat} {y : Str} {py : Pos} {elt tg iter : Expr} {ifs : List Expr} {scope : Scope} {own : List (Str × Nat)} {pos spos : Pos} {wi : TI} {g : TG} {tt : TT} {te : TE} (hc : X.calm = true) (hN : X.N.Nodup) (hy : X.N[i]? = some y) (hyl : X.env.scope.names.lookup y = some .local)
    (hsw : swapsWith (.ListComp elt [⟨tg, iter, ifs, 0⟩] scope pos) (some (.Name y py)) spos.line X.env = pure true) (hi : PI X tg iter wi) (ok : BlkOk X.N X.env.scope scope own)
    (hg : ∀ (s : Shared) (H : Hp) (C : Addr) (cl : List (Str × Addr)) (fp : List Addr), PG (X.blk s H scope (compEnvC scope cl C X.env) fp) tg g) (ht : ∀ (s : Shared) (H : Hp) (C : Addr) (cl : List (Str × Addr)) (fp : List Addr), PTs (X.blk s H scope (compEnvC scope cl C X.env) fp) ifs tt)
    (he : ∀ (s : Shared) (H : Hp) (C : Addr) (cl : List (Str × Addr)) (fp : List Addr), PE (X.blk s H scope (compEnvC scope cl C X.env) fp) elt te) (hs : ∀ x, foldedSetIterable iter X.env x = pure x := by intro _; rfl) :
    PS X (.Assign [.Name y py] (.ListComp elt [⟨tg, iter, ifs, 0⟩] scope pos) spos) (tAsg (tLc wi g tt te (own.map (·.2))) (gName i)) := by
  intro pins s σ H D I h
  rw [exec_Assign_Name_used _ _ _ _ hsw]
  refine wpAny_bind (wpAny_standAt (wpAny_bind ?_))
  show wpAny _ X.A (do let _ ← comprehension (.ListComp elt [⟨tg, iter, ifs, 0⟩] scope pos) scope X.env (firstIterPos [⟨tg, iter, ifs, 0⟩] pos) (newList []) false (eval iter X.env) (some (assign (.Name y py) X.env))) _ _ s
  have h : tLc wi g tt te (own.map (·.2)) σ H (fun x H1 => gName i x σ H1 D.nx) := h
  refine wpAny_bind (thn (lc_core (Qf := fun _ s' => SP X pins D .next s') hc hN I hi ok hg ht he hs h fun L C s' m H' I' q hn f => ?_) fun _ s' hq => wpAny_pure (wpAny_pure hq))
  show wpAny _ _ (assign (.Name y py) X.env (.ref L)) _ _ _
  refine wpAny_assign_Name (store_ok2 (v := V.ref L) I' hN hy (.inl hyl) rfl (fun s2 I2 ⟨a, sb, ha⟩ => ?_) (.inr hyl))
  obtain ⟨f0, f1, f2, f3, f4, f5⟩ := f
  have haC : C ≠ a := by
    rcases ha with z | z
    · rw [z]; exact f1
    · exact fun e => f4 y a z e.symm
  refine ⟨m, hn.sameBut sb haC, fun h3 sb3 => ?_⟩
  exact ⟨_, H', I2.turned (t' := s2.toks) (fun b o hb e => (sb3.2 b hb).trans e) f0 f1 f3 f4 f5, q⟩
theorem sw_true {elt : Expr} {gs : List Comprehension} {scope : Scope} {pos py : Pos} {y : Str} {l : Nat} {env : Env} (hk : env.scope.kind = .function) (hy : env.scope.names.lookup y = some .local) (hl : (py.line == pos.line) = true)
    (ha : (scope.names.any fun (n, k) => n == y && (k == .local || k == .cell)) = false) : swapsWith (.ListComp elt gs scope pos) (some (.Name y py)) l env = pure true := by
  have ky : env.kindOf y = some .local := hy
  have hb : env.blockKind = .function := by unfold Env.blockKind; rw [hk]; rfl
  unfold swapsWith
  simp only [hb, ky, ha, Expr.pos, hl]
  rfl
end
theorem lc_range {lo : Int} {n : Nat} {g : TG} {tt : TT} {te : TE} {vs : List Nat} {σ : St} {H1 : Hp} {D : Addr} {Qd : Hp → Prop} (Pv : Nat → Hp → Prop) (h0 : Pv 0 (upd H1 D (.lst [])))
    (hs : ∀ i H, i < n → Pv i H → g (.int (lo + i)) (wipe σ vs) H fun σ2 H2 => wipe σ2 vs = wipe σ vs ∧ tt σ2 H2 fun b H3 =>
      if b = true then te σ2 H3 fun y H4 => ∃ acc, H4 D = some (.lst acc) ∧ acc.length < sizeLine ∧ Pv (i + 1) (upd H4 D (.lst (acc ++ [y]))) else Pv (i + 1) H3) (hd : ∀ H, Pv n H → Qd H) :
    ∃ W : Nat → Nat → Hp → Prop, (∃ m, W 0 m (upd H1 D (.lst []))) ∧ ∀ i m H, W i m H →
      ((Itr lo n).stop i H ∧ Qd H) ∨ ((Itr lo n).go i H ∧ ∃ Nx : Hp → Prop, (∀ H', Nx H' → ∃ m', m' < m ∧ W (i + 1) m' H') ∧ ∀ x H', (Itr lo n).yld i H x H' → g x (wipe σ vs) H' fun σ2 H2 => wipe σ2 vs = wipe σ vs ∧ tt σ2 H2 fun b H3 =>
        if b = true then te σ2 H3 fun y H4 => ∃ acc, H4 D = some (.lst acc) ∧ acc.length < sizeLine ∧ Nx (upd H4 D (.lst (acc ++ [y]))) else Nx H3) := by
  refine ⟨fun i m H => m = n - i ∧ i ≤ n ∧ Pv i H, ⟨n, by simp, Nat.zero_le _, h0⟩, ?_⟩
  rintro i m H ⟨rfl, hi, p⟩
  by_cases hlt : i < n
  · refine .inr ⟨hlt, Pv (i + 1), fun H' p' => ⟨n - (i + 1), by omega, rfl, hlt, p'⟩, fun x H' y => ?_⟩
    obtain ⟨e, y⟩ := y
    subst e y
    exact hs i _ hlt p
  · have e : i = n := by omega
    subst e
    exact .inl ⟨Nat.le_refl _, hd H p⟩
theorem lc_list {K : PySem.W.Frag} {a : Addr} {xs : List V} {g : TG} {tt : TT} {te : TE} {vs : List Nat} {σ : St} {H1 : Hp} {D : Addr} {Qd : Hp → Prop} (Pv : Nat → Hp → Prop) (h0 : Pv 0 (upd H1 D (.lst []))) (hl : ∀ i H, i ≤ xs.length → Pv i H → SqL K H a xs)
    (hs : ∀ i x H, xs[i]? = some x → Pv i H → g x (wipe σ vs) H fun σ2 H2 => wipe σ2 vs = wipe σ vs ∧ tt σ2 H2 fun b H3 =>
      if b = true then te σ2 H3 fun y H4 => ∃ acc, H4 D = some (.lst acc) ∧ acc.length < sizeLine ∧ Pv (i + 1) (upd H4 D (.lst (acc ++ [y]))) else Pv (i + 1) H3) (hd : ∀ H, Pv xs.length H → Qd H) :
    ∃ W : Nat → Nat → Hp → Prop, (∃ m, W 0 m (upd H1 D (.lst []))) ∧ ∀ i m H, W i m H →
      ((Itl K a).stop i H ∧ Qd H) ∨ ((Itl K a).go i H ∧ ∃ Nx : Hp → Prop, (∀ H', Nx H' → ∃ m', m' < m ∧ W (i + 1) m' H') ∧ ∀ x H', (Itl K a).yld i H x H' → g x (wipe σ vs) H' fun σ2 H2 => wipe σ2 vs = wipe σ vs ∧ tt σ2 H2 fun b H3 =>
        if b = true then te σ2 H3 fun y H4 => ∃ acc, H4 D = some (.lst acc) ∧ acc.length < sizeLine ∧ Nx (upd H4 D (.lst (acc ++ [y]))) else Nx H3) := by
  refine ⟨fun i m H => m = xs.length - i ∧ i ≤ xs.length ∧ Pv i H, ⟨xs.length, by simp, Nat.zero_le _, h0⟩, ?_⟩
  rintro i m H ⟨rfl, hi, p⟩
  have q := hl i H hi p
  by_cases hlt : i < xs.length
  · refine .inr ⟨⟨xs, xs[i], q, by simp [hlt]⟩, Pv (i + 1), fun H' p' => ⟨xs.length - (i + 1), by omega, rfl, hlt, p'⟩, fun x H' y => ?_⟩
    obtain ⟨e, y⟩ := y
    subst e
    exact hs i x _ (y xs q) p
  · have e : i = xs.length := by omega
    subst e
    exact .inl ⟨⟨xs, q, Nat.le_refl _⟩, hd H p⟩
noncomputable def blkC (N : List Str) (sc scope : Scope) (own : List (Str × Nat)) : Bool :=
  (match scope.kind with | .function => true | _ => false) && (scope.names.all fun y => decide (scope.names.lookup y.1 = some y.2)) && (own.all fun p => decide (N[p.2]? = some p.1)) &&
    (scope.names.all fun y => match y.2 with
      | .free => (match sc.names.lookup y.1 with | some .cell => true | some .free => true | _ => false)
      | .local => decide (y.1 ∈ own.map (·.1)) || decide (y.1 ∉ N)
      | .cell => decide (y.1 ∈ own.map (·.1)) || decide (y.1 ∉ N)
      | _ => true)
theorem blkOk_by {N : List Str} {sc scope : Scope} {own : List (Str × Nat)} (h : blkC N sc scope own = true) : BlkOk N sc scope own := by
  unfold blkC at h
  simp only [Bool.and_eq_true, List.all_eq_true, decide_eq_true_eq] at h
  obtain ⟨⟨⟨h1, h2⟩, h3⟩, h4⟩ := h
  refine ⟨?_, h2, h3, fun y hy e => ?_, fun y hy e => ?_⟩
  · split at h1
    · assumption
    · cases h1
  · have q := h4 y hy
    simp only [e] at q
    split at q <;> first | exact .inl (by assumption) | exact .inr (by assumption) | cases q
  · have q := h4 y hy
    rcases e with e | e <;> (simp only [e, Bool.or_eq_true, decide_eq_true_eq] at q; exact q)
end L2
namespace L2
open PySem PySem.Spec PyProof.Rows
section
variable {prog : Program} {w : World} {A : Around} {R : Result → Shared → Prop} {s : Shared} {elt t0 i0 t1 i1 : Expr} {ifs0 ifs1 : List Expr} {scope : Scope} {pos : Pos} {it acc : Value} {env : Env}
end
section
variable {X : Cx}
end
end L2
namespace L2
open PySem PySem.Spec PyProof.Rows
section
variable {κ : Type} [DecidableEq κ]
theorem RelO.isSome_eq {o : Option V} {u : Option Value} (r : RelO o u) : o.isSome = u.isSome := by
  cases o with
  | none => cases u with
    | none => rfl
    | some _ => exact (show False from r).elim
  | some _ => cases u with
    | none => exact (show False from r).elim
    | some _ => rfl
end
section
variable {P : Program} {w : World} {H : Hp} {h : Heap} {a : Addr}
end
section
variable {X : Cx} {pins : List (Addr × Obj)} {σ : St} {H : Hp} {s : Shared} {a : Addr} {y v : V} {u r : Value} {o : Option V} {A : Around} {E : Value → Shared → Prop}
theorem Inv.big (I : Inv X pins σ H s) : sysModules < s.heap.objs.size := by
  have h : mainGlobals < s.heap.objs.size := (I.mod.glob.keeps I.bk).lt
  exact Nat.lt_trans (by decide) h
theorem d_write {h' : Heap} {t' : Nat} {ob : HO} (I : Inv X pins σ H s) (mu : Mut (H a)) (hs : Heap.SameBut a s.heap h') (he : ∃ q, h'.get? a = some q) (new : ObjOk X.prog X.w (upd H a ob) h' a ob) :
    Inv X pins σ (upd H a ob) { s with heap := h', toks := t' } :=
  I.write (x := a) (e := a) mu (.inl rfl) (fun b q hb z => (hs.2 b hb).trans z) he new
end
section
variable {X : Cx} {pins : List (Addr × Obj)} {σ : St} {H : Hp} {s : Shared} {a : Addr} {kvs : List (Key × V)} {k : Key} {u : Value} {A : Around} {E : Value → Shared → Prop}
end
noncomputable def NoSl (i : Expr) : Prop := ∀ ov iv, subscripted i false ov iv = operate [ov, iv] (getItem ov iv)
theorem subD_of {prog : Program} {w : World} {A : Around} {E : Value → Shared → Prop} {s : Shared} {env : Env} {value slice : Expr} {pos : Pos} {T id : String} {Q : Value → Shared → Prop}
    (hl : typeLookup (.type T) "__getitem__" = pure (some (.builtin id))) (hs : NoSl slice)
    (h : wpAny (model prog w) A (eval value env) (fun o s₁ => wpAny (model prog w) A (eval slice env) (fun i s₂ => s₂.TypeIs o T ∧ wpAny (model prog w) A (getItem o i) Q E s₂) E s₁) E s) :
    wpAny (model prog w) A (eval (.Subscript value slice pos) env) Q E s := by
  refine Subscript_ (wpAny_mono h (fun o s₁ h₁ => wpAny_mono h₁ (fun i s₂ h₂ => ?_) fun _ _ x => x) fun _ _ x => x)
  obtain ⟨hT, h₂⟩ := h₂
  unfold subscriptTail
  refine wpAny_bind ?_
  rw [getitemInPython_of_ne hT.not_modules]
  refine wpAny_bind (wpAny_specialOf hT hl ?_)
  have fin : wpAny (model prog w) A (subscripted slice false o i) (fun r s₃ => wpAny (model prog w) A (letTemporaryGo value o r >>= fun _ => pure r) Q E s₃) E s₂ := by
    rw [hs o i]
    exact wpAny_operating (wpAny_mono h₂ (fun r s₃ h₃ => wpAny_bind (wpAny_letTemporaryGo (wpAny_pure h₃))) fun _ _ x => x)
  first
    | exact wpAny_pure (wpAny_bind fin)
    | exact wpAny_bind (wpAny_pure (wpAny_bind fin))
    | exact wpAny_bind fin
section
variable {X : Cx} {o i e value : Expr} {pos pos' tpos : Pos} {td ty tv : TE}
end
section
variable {X : Cx} {pos : Pos}
end
section
variable {X : Cx} {pins : List (Addr × Obj)} {σ : St} {H : Hp} {s : Shared} {a : Addr} {y d : V} {u r : Value} {o : Option V} {A : Around} {E : Value → Shared → Prop}
end
section
variable {X : Cx} {o e f : Expr} {apos cpos : Pos} {td ty tx : TE}
end
section
variable {X : Cx} {pins : List (Addr × Obj)} {σ : St} {H : Hp} {s : Shared} {a : Addr} {kvs : List (Key × V)} {A : Around} {E : Value → Shared → Prop}
end
section
variable {X : Cx} {pins : List (Addr × Obj)} {σ : St} {H : Hp} {s : Shared} {a : Addr} {y : V} {u : Value} {A : Around} {E : Value → Shared → Prop}
end
end L2
namespace L2
open PySem PySem.Spec PyProof.Rows
section
variable {prog : Program} {w : World} {A : Around} {E : Value → Shared → Prop}
end
section
variable {X : Cx}
end
end L2
namespace L2
open PySem PySem.Spec PyProof.Rows
section
variable {X : Cx} {pins : List (Addr × Obj)} {σ : St} {H : Hp} {s : Shared} {h' : Heap}
theorem Inv.turnedL {t' : Nat} {ch : List Addr} (I : Inv X pins σ H s) (k : ∀ b o, b ∉ ch → s.heap.get? b = some o → h'.get? b = some o) (hf : ∀ b ∈ ch, FpOk X pins H b) : Inv X pins σ H { s with heap := h', toks := t' } := by
  have nit : ∀ b u, H b = some u → b ∉ ch := fun b u e z => by
    have q := (hf b z).1
    rw [q] at e; cases e
  refine I.step (g' := s.gens) (d' := s.drawn) (ch := ch) (fun b hb => ⟨(hf b hb).2.2.2.1, (hf b hb).2.1, (hf b hb).2.2.2.2.1, (hf b hb).2.2.2.2.2⟩) (fun b o _ _ hc e _ => k b o hc e) (fun b o _ _ hc e _ => ⟨o.slots, k b o hc e⟩)
    (fun _ _ _ _ n => n) (fun b o hc e => ⟨o, k b o hc e⟩) (fun _ _ e => e) (fun _ _ _ e => e) (fun b ps e => ⟨#[], by rw [e]; simp⟩) (fun m hm => ?_) (fun b u e => ?_) I.bare
  · obtain ⟨o, es, ep, ho, r⟩ := hm
    exact ⟨o, es, ep, k _ o (fun z => (hf _ z).2.1 rfl) ho, r⟩
  · refine (I.hok b u e).stay (fun c v hc q => k c v ?_ q) (fun _ q => q) fun _ _ q => q
    rcases hc with z | z
    · rw [z]; exact nit b u e
    · exact nit c _ z
theorem Inv.turnedNew {t' : Nat} {ch : List Addr} {T : Addr} {ob : HO} (I : Inv X pins σ H s) (k : ∀ b o, b ∉ ch → s.heap.get? b = some o → h'.get? b = some o) (hf : ∀ b ∈ ch, FpOk X pins H b) (hT : s.heap.objs.size ≤ T)
    (new : ObjOk X.prog X.w (upd H T ob) h' T ob) : Inv X pins σ (upd H T ob) { s with heap := h', toks := t' } := by
  have hn : H T = none := I.hok.fresh hT
  have nit : ∀ b u, H b = some u → b ∉ ch := fun b u e z => by
    have q := (hf b z).1
    rw [q] at e; cases e
  refine I.step (g' := s.gens) (d' := s.drawn) (ch := ch) (fun b hb => ⟨(hf b hb).2.2.2.1, (hf b hb).2.1, (hf b hb).2.2.2.2.1, (hf b hb).2.2.2.2.2⟩) (fun b o _ _ hc e _ => k b o hc e) (fun b o _ _ hc e _ => ⟨o.slots, k b o hc e⟩)
    (fun b o _ e n => ?_) (fun b o hc e => ⟨o, k b o hc e⟩) (fun b xs e => ?_) (fun b o u e => ?_) (fun b ps e => ⟨#[], ?_⟩) (fun m hm => ?_) (fun b u e => ?_) I.bare
  · rw [upd_ne (Nat.ne_of_lt (Nat.lt_of_lt_of_le (Heap.lt_size e) hT))]; exact n
  · rw [upd_ne (ne_of_none e hn)]; exact e
  · rw [upd_ne (ne_of_none e hn)]; exact e
  · rw [upd_ne (ne_of_none e hn), e]; simp
  · obtain ⟨o, es, ep, ho, r⟩ := hm
    exact ⟨o, es, ep, k _ o (fun z => (hf _ z).2.1 rfl) ho, r⟩
  · by_cases hb : b = T
    · subst hb
      rw [upd_same] at e
      cases e
      exact new
    · rw [upd_ne hb] at e
      refine (I.hok b u e).stay (fun c v hc q => k c v ?_ q) (fun c q => by rw [upd_ne (ne_of_none q hn)]; exact q) fun c xs q => by rw [upd_ne (ne_of_none q hn)]; exact q
      rcases hc with z | z
      · rw [z]; exact nit b u e
      · exact nit c _ z
end
section
variable {X : Cx}
theorem pi_one {tg : Expr} {pins : List (Addr × Obj)} {σ : St} {H : Hp} {s : Shared} {R : It → Hp → Prop} {J : It} {tn : Nat → Heap → Prop} {tk : Nat} (I : Inv X pins σ H s) (o : Obj)
    (T : Turn X.prog X.w X.K tg J [s.heap.objs.size] s.heap.objs.size tn) (st : tn 0 (s.heap.push o)) (q : R J H) : PIE X pins σ tg R (.ref s.heap.objs.size) { s with heap := s.heap.push o, toks := tk } := by
  refine ⟨s.heap.objs.size, [s.heap.objs.size], tn, J, H, rfl, I.kept fun b ob e => Heap.get?_push_of_some _ e, T, st, fun b hb => ?_, q⟩
  have e : b = s.heap.objs.size := by simpa using hb
  subst e
  exact I.fpOk (Nat.le_refl _) (I.hok.fresh (Nat.le_refl _))
end
noncomputable def Itc (lo c : Int) (n : Nat) : It := ⟨fun i _ => i < n, fun i H x H' => H' = H ∧ x = .int (lo + (i : Nat) * c), fun i _ => n ≤ i⟩
theorem turn_rangeC {P : Program} {w : World} {K : PySem.W.Frag} {tg : Expr} (it : Addr) (lo c : Int) (n : Nat) : Turn P w K tg (Itc lo c n) [it] it (fun i h => IsRangeIter h it (lo + (i : Nat) * c) ((n : Int) - (i : Nat)) c) where
  mem := by simp
  obj := fun i h st b hb => by
    have e : b = it := by simpa using hb
    subst e
    exact ⟨_, st, fun v z => nomatch z⟩
  keep := fun i h h' st k => k it (by simp) _ st
  item := by
    intro X hP hw hK hc i pins s σ H E I hf st hg
    subst hP hw hK
    obtain ⟨f0, f1, f2, f3, f4, f5⟩ := hf it (by simp)
    have W := Walks.range (prog := X.prog) (w := X.w) (I.ok.hd hc) it lo c n
    refine W.item i s _ _ hg st fun v h' tk hv st' kk => ?_
    obtain ⟨t, rfl⟩ := hv
    have I1 : Inv X pins σ H { s with heap := h', toks := tk } := I.turned (fun b o hb e => kk b o (by simpa using hb) e) f0 f1 f3 f4 f5
    exact ⟨_, rfl, go_of (s := { s with heap := h', toks := tk }) (n := "range_iterator") st' rfl rfl (by decide) ⟨.int (lo + (i : Nat) * c), H, I1, ⟨t, rfl⟩, ⟨rfl, rfl⟩, st', fun b hb => (hf b hb).1⟩⟩
  done := by
    intro X hP hw hK hc i pins s σ H E I hf st hg
    subst hP hw hK
    obtain ⟨f0, f1, f2, f3, f4, f5⟩ := hf it (by simp)
    exact wpAny_pyNext_range_end (I.ok.hd hc) st (by have : n ≤ i := hg; omega) fun h' eb => ⟨rfl, I.turned (t' := s.toks) (fun b o hb e => eb b o hb e) f0 f1 f3 f4 f5⟩
  self := fun A i s Q E st h => wpAny_pyIter_rangeiter st h
noncomputable def RgC (i j c : Int) (n : Nat) : Prop := c ≠ 0 ∧ c.natAbs < 1073741824 ∧ Builtin.Range.small i j c = true ∧ Builtin.Range.rangeSize i j c = n
theorem RgC.neg {i j : Int} (ha : -(2 ^ 62) ≤ i) (ha' : i < 2 ^ 62) (hb : -(2 ^ 62) ≤ j) (hb' : j < 2 ^ 62) : RgC i j (-1) (i - j).toNat :=
  ⟨by decide, by decide, PySem.W.small_down ha ha' hb hb', PySem.W.rangeSize_downNat i j⟩
noncomputable def iRng3 (ta : TA) : TI := fun σ H R => ta σ H fun vs H1 => ∃ (i j c : Int) (n : Nat), vs = [.int i, .int j, .int c] ∧ RgC i j c n ∧ R (Itc i c n) H1
section
variable {X : Cx} {tg : Expr}
theorem pi_range3 {a b c : Expr} {ta : TA} {p pos : Pos} (hg : Gl X "range") (hm : X.mg "range" = none) (ha : PA X [a, b, c] ta)
    (hs : starEach [a, b, c] X.env = (false, eval a X.env) :: starEach [b, c] X.env := by rfl) (hpl : (backTo pos (starEach [b, c] X.env)).any (·.1) = false := by rfl) :
    PI X tg (.Call (.Name "range" p) [a, b, c] [] pos) (iRng3 ta) := by
  intro pins s σ H R I h
  refine Call_ (ld_blt I hg hm boot_range (PyProof.Rows.callWith_type1 (thn (ha pos pins s σ H _ I h) fun us s1 ⟨vs, H1, I1, r1, q1⟩ => ?_) hs hpl))
  obtain ⟨i, j, k, n, e, ⟨c0, c1, c2, c3⟩, q⟩ := q1
  subst e
  cases r1 with
  | cons r rr =>
    cases rr with
    | cons r' rr =>
      cases rr with
      | cons r'' rr =>
        cases rr
        obtain ⟨t, rfl⟩ := r
        obtain ⟨t', rfl⟩ := r'
        obtain ⟨t'', rfl⟩ := r''
        refine call_range_3 c0 ?_ (.inl (PyProof.noPylong_small c1))
        refine wpAny_pyIter_range (IsRange.new ..) c2 ?_
        have I2 : Inv X pins σ H1 { s1 with heap := s1.heap.push { cls := .type "range", data := .fields #[.int i t, .int j t', .int k t''] } } := I1.kept (t' := s1.toks) fun b o e => Heap.get?_push_of_some _ e
        refine pi_one (tk := s1.toks) I2 _ (turn_rangeC _ i k n) ?_ q
        have e1 : i + ((0 : Nat) : Int) * k = i := by simp
        have e2 : (n : Int) - ((0 : Nat) : Int) = Builtin.Range.rangeSize i j k := by rw [c3]; simp
        show IsRangeIter _ _ (i + ((0 : Nat) : Int) * k) ((n : Int) - ((0 : Nat) : Int)) k
        rw [e1, e2]
        exact Heap.get?_push_size _ rfl
end
theorem for_rangeC {lo c : Int} {n : Nat} {g : TG} {tb : TS} {D : Ends} {σ : St} {H : Hp} (Pv : Nat → St → Hp → Prop) (h0 : Pv 0 σ H)
    (hs : ∀ i σ H, i < n → Pv i σ H → g (.int (lo + (i : Nat) * c)) σ H fun σ2 H2 => tb { D with nx := Pv (i + 1), ct := Pv (i + 1), bk := D.nx } σ2 H2) (hd : ∀ σ H, Pv n σ H → D.nx σ H) :
    ∃ W : Nat → Nat → St → Hp → Prop, (∃ m, W 0 m σ H) ∧ ∀ i m σ H, W i m σ H →
      ((Itc lo c n).stop i H ∧ D.nx σ H) ∨ ((Itc lo c n).go i H ∧ ∃ N : St → Hp → Prop, (∀ σ' H', N σ' H' → ∃ m', m' < m ∧ W (i + 1) m' σ' H') ∧ ∀ x H', (Itc lo c n).yld i H x H' → g x σ H' fun σ2 H2 => tb { D with nx := N, ct := N, bk := D.nx } σ2 H2) := by
  refine ⟨fun i m σ H => m = n - i ∧ i ≤ n ∧ Pv i σ H, ⟨n, by simp, Nat.zero_le _, h0⟩, ?_⟩
  rintro i m σ H ⟨rfl, hi, p⟩
  by_cases hlt : i < n
  · refine .inr ⟨hlt, Pv (i + 1), fun σ' H' p' => ⟨n - (i + 1), by omega, rfl, hlt, p'⟩, fun x H' y => ?_⟩
    obtain ⟨e, y⟩ := y
    subst e y
    exact hs i σ _ hlt p
  · have e : i = n := by omega
    subst e
    exact .inl ⟨Nat.le_refl _, hd σ H p⟩
section
variable {X : Cx} {tg : Expr}
end
section
variable {prog : Program} {w : World} {A : Around} {E : Value → Shared → Prop} {s : Shared}
end
section
variable {X : Cx} {pins : List (Addr × Obj)} {σ : St} {H : Hp} {s : Shared} {d : Addr} {o : Obj}
end
section
variable {P : Program} {w : World} {K : PySem.W.Frag} {tg : Expr} {d : Addr} {o : Obj} {es : Array DictEntry} {ep : Nat}
end
section
variable {X : Cx} {tg e : Expr} {td : TE} {apos cpos : Pos}
end
theorem boot_zip5 : bootBuiltins "zip" = some (.type "zip") := by decide +kernel
end L2
section 
namespace Bits
open PySem PyProof.Rows
end Bits
end 
section 
namespace TL
open PySem PySem.Builtin PySem.Builtin.Str PySem.StrLaws
end TL
end 
namespace L2
open PySem PySem.Spec PyProof.Rows
section
variable {X : Cx} {pins : List (Addr × Obj)} {σ : St} {H : Hp} {s : Shared} {Q : VK}
end
section
variable {X : Cx}
end
section
variable {X : Cx} {o e : Expr} {to te : TE}
end
end L2
namespace L2
open PySem PySem.Spec PyProof.Rows
section
variable {X : Cx}
end
end L2
namespace Att
open PySem PySem.W PySem.Calls PyProof.Rows
theorem ints_of_wellAll {P : Params} {h : Heap} : ∀ (ns : List Int) (vs : List Value), WellAll P h vs (ns.map WData.int) → IntsAre vs ns := by
  intro ns
  induction ns with
  | nil =>
    intro vs w
    rw [List.map_nil] at w
    cases w
    exact .nil
  | cons n ns ih =>
    intro vs w
    rw [List.map_cons] at w
    cases w with
    | cons a b =>
      cases a
      exact .cons _ _ (ih _ b)
section
variable {prog : Program} {w : World} {A : Around} {E : Value → Shared → Prop} {s : Shared} {K : Frag}
end
end Att
namespace L2
open PySem PySem.Spec PyProof.Rows
theorem vals_ints : ∀ {vs : List Value} {ns : List Int}, IntsAre vs ns → Vals (ns.map V.int) vs
  | _, _, .nil => .nil
  | _, _, .cons n t h => .cons ⟨t, rfl⟩ (vals_ints h)
noncomputable def Only (H : Hp) : Prop := ∀ b, H b = none ∨ ∃ o xs, H b = some (.frz o (.lst xs))
end L2
namespace L2
open PySem PySem.Spec PyProof.Rows
noncomputable abbrev KOf {K : PySem.W.Frag} {h : Heap} (_ : K.In h) : PySem.W.Frag := K
end L2
namespace L2
open PySem PySem.Spec PyProof.Rows
noncomputable def inClass (s : Stmt) (j : Nat) : Stmt := match s with
  | .ClassDef _ _ _ body _ _ _ _ _ _ _ => body.getD j (.Pass ⟨0, 0, 0, 0⟩)
  | _ => .Pass ⟨0, 0, 0, 0⟩
noncomputable def defArgs (s : Stmt) : Arguments := match s with
  | .FunctionDef _ a _ _ _ _ _ _ _ _ => a
  | _ => { posonlyargs := [], args := [], vararg := none, kwonlyargs := [], kw_defaults := [], kwarg := none, defaults := [] }
noncomputable def defBody (s : Stmt) : List Stmt := match s with
  | .FunctionDef _ _ b _ _ _ _ _ _ _ => b
  | _ => []
noncomputable def defScope (s : Stmt) : Scope := match s with
  | .FunctionDef _ _ _ _ _ _ sc _ _ _ => sc
  | _ => { kind := .function, names := [], isGenerator := false, isCoroutine := false }
noncomputable abbrev CX0 : CXT := fun _ _ _ _ _ _ => False
noncomputable abbrev E0 : XK := fun _ _ _ => False
theorem pass0 {X : Cx} : Passes CX0 X E0 := fun _ _ _ _ _ _ _ h => h.elim
structure Fun (K : PySem.W.Frag) (x qual : Str) (st : Stmt) (f : Addr) (fd : FuncData) : Prop where
  ex : ∃ (oc : Value) (od : Option Addr) (kV doc pm : Value) (an : Option Addr) (cdv ct : Value) (osl : Array (Option Value)),
    fd = PySem.W.fnOf x qual (defArgs st) (defBody st) (defScope st) .none kV doc pm an cdv ct ∧ K.lookup f = some ⟨oc, od, .func fd, osl⟩ ∧ PySem.W.codeIn K cdv qual = true
  kp : PySem.W.keepIn K (.ref f) = true
section
variable {P : Program} {w : World} {K : PySem.W.Frag} {mg : Str → Option Value} {base : Heap}
theorem Fun.ok {x qual : Str} {st : Stmt} {f : Addr} {fd : FuncData} {N ps : List Str} {k : Nat} {sp : Sp} (F : Fun K x qual st f fd) (S : FnScope N ps (defScope st)) (len : ∀ vs H Q E, sp vs H Q E → vs.length = ps.length)
    (hbody : ∀ (cdv : Value) (A : Around) (outer : List Env) (s : Shared) (H : Hp) (vs : List V) (Q : VK) (E : XK), Room k (A.deeper (envOfC qual (defScope st) s.heap.objs.size f cdv)) → sp vs H Q E →
      ∃ t, PSs (cxOf CX0 P w K mg base N qual (defScope st) f cdv A outer s H E).nox (defBody st) t ∧ t { nx := fun _ H' => Q .non H', rt := Q } (start N vs) H) : FnOk P w K mg base CX0 (k + 1) f fd ps sp := by
  obtain ⟨oc, od, kV, doc, pm, an, cdv, ct, osl, rfl, lk, hcd⟩ := F.ex
  refine fn_of lk hcd S len fun A outer s H vs Q E hr hsp => ?_
  obtain ⟨t, h, q⟩ := hbody cdv A outer s H vs Q E hr hsp
  exact ⟨t, h.nox, q⟩
theorem Fun.binds {x qual : Str} {st : Stmt} {f : Addr} {fd : FuncData} {ps : List Str} (F : Fun K x qual st f fd)
    (h : ∀ (kV doc pm : Value) (an : Option Addr) (cdv ct : Value) (us : List Value), us.length = ps.length → bindArgs (PySem.W.fnOf x qual (defArgs st) (defBody st) (defScope st) .none kV doc pm an cdv ct) ⟨us, []⟩ = pure (ps.zip us)) : Binds K fd ps [] := by
  obtain ⟨oc, od, kV, doc, pm, an, cdv, ct, osl, rfl, lk, hcd⟩ := F.ex
  exact .all (h kV doc pm an cdv ct)
theorem fun_mk {x qual : Str} {st : Stmt} {f : Addr} {oc : Value} {od an : Option Addr} {osl : Array (Option Value)} {kV doc pm cdv ct : Value} (l : K.lookup f = some ⟨oc, od, .func (PySem.W.fnOf x qual (defArgs st) (defBody st) (defScope st) .none kV doc pm an cdv ct), osl⟩)
    (c : PySem.W.codeIn K cdv qual = true) (k : PySem.W.keepIn K (.ref f) = true) : Fun K x qual st f (PySem.W.fnOf x qual (defArgs st) (defBody st) (defScope st) .none kV doc pm an cdv ct) := ⟨⟨oc, od, kV, doc, pm, an, cdv, ct, osl, rfl, l, c⟩, k⟩
end
theorem small1000 {n : Nat} (h : n ≤ 1000) : n < sizeLine := Nat.lt_of_le_of_lt h (by decide)
section
variable {X : Cx}
theorem pv (i : Nat) {x : Str} {pos : Pos} (hN : X.N[i]? = some x := by rfl) (hv : Vis X.env.scope x := by first | exact Or.inl rfl | exact Or.inr (Or.inl rfl) | exact Or.inr (Or.inr rfl)) (hd : (x == ("__debug__" : Str)) = false := by decide)
    (hcd : (x == ("__classdict__" : Str)) = false := by decide) : PE X (.Name x pos) (tVar i) := pe_var hN hv hd hcd
end
theorem iteF {A B : Prop} (h : B) : if false = true then A else B := by
  rw [if_neg Bool.false_ne_true]
  exact h
theorem iteT {A B : Prop} (h : A) : if true = true then A else B := by
  rw [if_pos rfl]
  exact h
noncomputable def Same (H H' : Hp) : Prop := ∀ b o, H b = some o → H' b = some o
theorem Same.refl (H : Hp) : Same H H := fun _ _ h => h
theorem Same.trans {H H1 H2 : Hp} (a : Same H H1) (b : Same H1 H2) : Same H H2 := fun c o h => b c o (a c o h)
theorem Same.free {H H' : Hp} (e : Same H H') {l : Addr} (h : H' l = Option.none) : H l = Option.none := by
  cases q : H l with
  | none => rfl
  | some o =>
    rw [e l o q] at h
    cases h
theorem Same.seq {K : PySem.W.Frag} {H H' : Hp} {a : Addr} {xs : List V} (e : Same H H') (h : SqL K H a xs) : SqL K H' a xs := by
  rcases h with (h | ⟨o, h⟩) | h
  · exact .inl (.inl (e _ _ h))
  · exact .inl (.inr ⟨o, e _ _ h⟩)
  · exact .inr h
section
variable {κ : Type} [DecidableEq κ]
theorem nd_snoc : ∀ {l : List κ} {k : κ}, l.Nodup → ¬ k ∈ l → (l ++ [k]).Nodup
  | [], k, _, _ => by simp
  | a :: r, k, h, hk => by
    obtain ⟨h1, h2⟩ := List.nodup_cons.mp h
    show (a :: (r ++ [k])).Nodup
    refine List.nodup_cons.mpr ⟨fun m => ?_, nd_snoc h2 fun m => hk (List.mem_cons.mpr (Or.inr m))⟩
    rcases List.mem_append.mp m with q | q
    · exact h1 q
    · exact hk (List.mem_cons.mpr (Or.inl (List.mem_singleton.mp q).symm))
end
theorem at_of {xs : List V} {z : Int} {j : Nat} {v : V} (e : z = (j : Int)) (h : xs[j]? = some v) : atI xs z = some v := by
  rw [e]
  exact atI_nat h
theorem nd_ix {α : Type} {l : List α} (hN : l.Nodup) {i j : Nat} {x : α} (a : l[i]? = some x) (b : l[j]? = some x) : i = j := by
  obtain ⟨h1, e1⟩ := List.getElem?_eq_some_iff.mp a
  obtain ⟨h2, e2⟩ := List.getElem?_eq_some_iff.mp b
  exact (List.getElem_inj hN).mp (e1.trans e2.symm)
theorem Same.made {H H1 : Hp} {x dx C : Addr} (nx : H x = Option.none) (nd : H dx = Option.none) (k : ∀ b o, (upd (upd H dx (.own x)) x (.ins C dx [])) b = some o → b ≠ x → H1 b = some o) : Same H H1 := fun b o e =>
  k b o (by rw [upd_ne (ne_of_none e nx), upd_ne (ne_of_none e nd)]; exact e) (ne_of_none e nx)
end L2
end
section
namespace L2
theorem iteTb {b : Bool} {A B : Prop} (e : b = true) (h : A) : if b = true then A else B := by
  subst e; exact iteT h
theorem iteFb {b : Bool} {A B : Prop} (e : b = false) (h : B) : if b = true then A else B := by
  subst e; exact iteF h
theorem hid {G : Prop} (h : ¬ G → False) : G := Classical.byContradiction h
end L2
end
section
set_option Elab.async false
namespace Hw
noncomputable def enc : Km256.Call → List Int
  | .start => [0]
  | .new_ f => [1, (f : Int)]
  | .born s d f => [2, (s : Int), (d : Int), (f : Int)]
  | .gone i => [3, (i : Int)]
  | .kin i j => [4, (i : Int), (j : Int)]
  | .herd => [5]
  | .plan y => [6, (y : Int)]
noncomputable def encs (ks : List Km256.Call) : List Int := ks.flatMap enc
noncomputable def Small : Km256.Call → Prop
  | .start => True
  | .new_ f => f < 2 ^ 32
  | .born s d f => s < 2 ^ 32 ∧ d < 2 ^ 32 ∧ f < 2 ^ 32
  | .gone i => i < 2 ^ 32
  | .kin i j => i < 2 ^ 32 ∧ j < 2 ^ 32
  | .herd => True
  | .plan y => y < 2 ^ 32
noncomputable def oneAns (a : Km256.Abs) (k : Km256.Call) : List Int :=
  ((Km256Neutral.told (Km256.act a k).2).length : Int) :: Km256Neutral.told (Km256.act a k).2
noncomputable def run : Km256.Abs → List Km256.Call → List Int
  | _, [] => []
  | a, k :: ks => oneAns a k ++ run (Km256.act a k).1 ks
theorem nat32 {z : Int} (h : Km256Neutral.natural z 32 = true) : ((z.toNat : Nat) : Int) = z ∧ z.toNat < 2 ^ 32 := by
  unfold Km256Neutral.natural at h
  simp only [Bool.and_eq_true, decide_eq_true_eq] at h
  obtain ⟨h1, h2⟩ := h
  have h2' : z < 4294967296 := h2
  refine ⟨by omega, ?_⟩
  show z.toNat < 4294967296
  omega
noncomputable def Sh (c : List (List Int)) : Prop := ∃ k, Km256Neutral.callOf c = some k ∧ c = [enc k] ∧ Small k
noncomputable def Goes (c : List (List Int)) : Prop := PyKm256.whole c = c ∧ (Km256Neutral.asked1 c = true → Sh c)
theorem goes_not {c : List (List Int)} (h1 : PyKm256.whole c = c) (h2 : Km256Neutral.asked1 c = false) : Goes c :=
  ⟨h1, fun h => Bool.noConfusion (h2.symm.trans h)⟩
theorem goes0 : Goes [[0]] := ⟨rfl, fun _ => ⟨.start, rfl, rfl, trivial⟩⟩
theorem goes1 (x : Int) : Goes [[1, x]] := ⟨rfl, fun h => by
  obtain ⟨e1, l1⟩ := nat32 h
  exact ⟨.new_ _, rfl, by simp only [enc]; rw [e1], l1⟩⟩
theorem goes2 (x y z : Int) : Goes [[2, x, y, z]] := ⟨rfl, fun h => by
  have h : (Km256Neutral.natural x 32 && Km256Neutral.natural y 32 && Km256Neutral.natural z 32) = true := h
  simp only [Bool.and_eq_true] at h
  obtain ⟨⟨h1, h2⟩, h3⟩ := h
  obtain ⟨e1, l1⟩ := nat32 h1
  obtain ⟨e2, l2⟩ := nat32 h2
  obtain ⟨e3, l3⟩ := nat32 h3
  exact ⟨.born _ _ _, rfl, by simp only [enc]; rw [e1, e2, e3], l1, l2, l3⟩⟩
theorem goes3 (x : Int) : Goes [[3, x]] := ⟨rfl, fun h => by
  obtain ⟨e1, l1⟩ := nat32 h
  exact ⟨.gone _, rfl, by simp only [enc]; rw [e1], l1⟩⟩
theorem goes4 (x y : Int) : Goes [[4, x, y]] := ⟨rfl, fun h => by
  have h : (Km256Neutral.natural x 32 && Km256Neutral.natural y 32) = true := h
  simp only [Bool.and_eq_true] at h
  obtain ⟨h1, h2⟩ := h
  obtain ⟨e1, l1⟩ := nat32 h1
  obtain ⟨e2, l2⟩ := nat32 h2
  exact ⟨.kin _ _, rfl, by simp only [enc]; rw [e1, e2], l1, l2⟩⟩
theorem goes5 : Goes [[5]] := ⟨rfl, fun _ => ⟨.herd, rfl, rfl, trivial⟩⟩
theorem goes6 (x : Int) : Goes [[6, x]] := ⟨rfl, fun h => by
  obtain ⟨e1, l1⟩ := nat32 h
  exact ⟨.plan _, rfl, by simp only [enc]; rw [e1], l1⟩⟩
theorem goes (c : List (List Int)) : Goes c := by
  rcases c with _ | ⟨a, t⟩
  · exact goes_not rfl rfl
  rcases a with _ | ⟨z, xs⟩
  · exact goes_not rfl rfl
  rcases z with n | n
  · rcases n with _ | _ | _ | _ | _ | _ | _ | n
    · rcases xs with _ | ⟨x, xs⟩
      · rcases t with _ | ⟨b, t⟩
        · exact goes0
        · exact goes_not rfl rfl
      · exact goes_not rfl rfl
    · rcases xs with _ | ⟨x, _ | ⟨y, xs⟩⟩
      · exact goes_not rfl rfl
      · rcases t with _ | ⟨b, t⟩
        · exact goes1 x
        · exact goes_not rfl rfl
      · exact goes_not rfl rfl
    · rcases xs with _ | ⟨x, _ | ⟨y, _ | ⟨z, _ | ⟨u, xs⟩⟩⟩⟩
      · exact goes_not rfl rfl
      · exact goes_not rfl rfl
      · exact goes_not rfl rfl
      · rcases t with _ | ⟨b, t⟩
        · exact goes2 x y z
        · exact goes_not rfl rfl
      · exact goes_not rfl rfl
    · rcases xs with _ | ⟨x, _ | ⟨y, xs⟩⟩
      · exact goes_not rfl rfl
      · rcases t with _ | ⟨b, t⟩
        · exact goes3 x
        · exact goes_not rfl rfl
      · exact goes_not rfl rfl
    · rcases xs with _ | ⟨x, _ | ⟨y, _ | ⟨z, xs⟩⟩⟩
      · exact goes_not rfl rfl
      · exact goes_not rfl rfl
      · rcases t with _ | ⟨b, t⟩
        · exact goes4 x y
        · exact goes_not rfl rfl
      · exact goes_not rfl rfl
    · rcases xs with _ | ⟨x, xs⟩
      · rcases t with _ | ⟨b, t⟩
        · exact goes5
        · exact goes_not rfl rfl
      · exact goes_not rfl rfl
    · rcases xs with _ | ⟨x, _ | ⟨y, xs⟩⟩
      · exact goes_not rfl rfl
      · rcases t with _ | ⟨b, t⟩
        · exact goes6 x
        · exact goes_not rfl rfl
      · exact goes_not rfl rfl
    · exact goes_not rfl rfl
  · exact goes_not rfl rfl
theorem whole_id (c : List (List Int)) : PyKm256.whole c = c := (goes c).1
theorem map_whole (cs : List (List (List Int))) : cs.map PyKm256.whole = cs := by
  have e : PyKm256.whole = id := funext whole_id
  rw [e, List.map_id]
theorem callOf_asked {c : List (List Int)} (h : Km256Neutral.asked1 c = true) : ∃ k, Km256Neutral.callOf c = some k ∧ c = [enc k] ∧ Small k := (goes c).2 h
theorem step_some {c : List (List Int)} {k : Km256.Call} (h : Km256Neutral.callOf c = some k) (a : Km256.Abs) :
    Km256Neutral.step (some a) c = (some (Km256.act a k).1, Km256Neutral.told (Km256.act a k).2) := by
  unfold Km256Neutral.step
  rw [h]
theorem run_eq : ∀ (cs : List (List (List Int))) (a : Km256.Abs), cs.all Km256Neutral.asked1 = true →
    ∃ ks, PyFlat.put cs = encs ks ∧ ks.length = cs.length ∧ (∀ k ∈ ks, Small k) ∧ PyFlat.told (PyFlat.played Km256Neutral.step (some a) cs) = run a ks
  | [], a, _ => ⟨[], rfl, rfl, fun _ h => (nomatch h), rfl⟩
  | c :: cs, a, h => by
    rw [List.all_cons, Bool.and_eq_true] at h
    obtain ⟨k, hk, hc, hs⟩ := callOf_asked h.1
    obtain ⟨ks, e1, e2, e3, e4⟩ := run_eq cs (Km256.act a k).1 h.2
    refine ⟨k :: ks, ?_, ?_, ?_, ?_⟩
    · show PyFlat.put1 c ++ PyFlat.put cs = enc k ++ encs ks
      rw [e1, hc]
      show (enc k ++ []) ++ encs ks = enc k ++ encs ks
      rw [List.append_nil]
    · rw [List.length_cons, List.length_cons, e2]
    · intro x hx
      rcases List.mem_cons.mp hx with rfl | hx
      · exact hs
      · exact e3 x hx
    · show ((Km256Neutral.step (some a) c).2.length : Int) :: ((Km256Neutral.step (some a) c).2 ++ PyFlat.told (PyFlat.played Km256Neutral.step (Km256Neutral.step (some a) c).1 cs)) = _
      rw [step_some hk, e4]
      rfl
theorem answers_eq {l : List Int} (h : PyKm256.answers_asked l = true) :
    ∃ ks, l = encs ks ∧ 1 ≤ ks.length ∧ ks.length ≤ 1000 ∧ (∀ k ∈ ks, Small k) ∧ PyKm256.answers l = run [] ks := by
  unfold PyKm256.answers_asked at h
  cases e : PyKm256.calls l with
  | none => rw [e] at h; cases h
  | some cs =>
    rw [e] at h
    have h' : (PyFlat.atMost 1000 cs && Km256Neutral.asked cs) = true := h
    rw [Bool.and_eq_true] at h'
    obtain ⟨_, ha⟩ := h'
    unfold Km256Neutral.asked at ha
    simp only [Bool.and_eq_true, decide_eq_true_eq] at ha
    obtain ⟨hl1, hl2, hall, hmay⟩ := ha
    have hput : l = PyFlat.put cs := by
      unfold PyKm256.calls at e
      cases e2 : PyFlat.calls PyKm256.shape l.length l with
      | none => rw [e2] at e; cases e
      | some ds =>
        rw [e2] at e
        have e3 : ds.map PyKm256.whole = cs := Option.some.inj e
        rw [map_whole] at e3
        subst e3
        exact (PyFlat.put_calls _ _ _ e2).1
    obtain ⟨ks, e1, e2, e3, e4⟩ := run_eq cs [] hall
    refine ⟨ks, hput.trans e1, by omega, by omega, e3, ?_⟩
    rw [← e4]
    unfold PyKm256.answers
    rw [e]
    show PyFlat.told (PyFlat.played Km256Neutral.step Km256Neutral.start cs) = PyFlat.told (PyFlat.played Km256Neutral.step (some []) cs)
    cases cs with
    | nil => rfl
    | cons c cs =>
      rw [List.all_cons, Bool.and_eq_true] at hall
      obtain ⟨k, hk, hc, _⟩ := callOf_asked hall.1
      have hstep : Km256Neutral.step Km256Neutral.start c = Km256Neutral.step (some []) c := by
        rw [step_some hk]
        unfold Km256Neutral.may at hmay
        rw [Bool.and_eq_true] at hmay
        have h1 := hmay.1
        unfold Km256Neutral.step at h1 ⊢
        rw [hk] at h1 ⊢
        unfold Km256Neutral.start at h1 ⊢
        cases k with
        | start => rfl
        | _ => exact absurd (show (false : Bool) = true from h1) (by decide)
      show PyFlat.told ((Km256Neutral.step Km256Neutral.start c).2 :: PyFlat.played Km256Neutral.step (Km256Neutral.step Km256Neutral.start c).1 cs) = PyFlat.told ((Km256Neutral.step (some []) c).2 :: PyFlat.played Km256Neutral.step (Km256Neutral.step (some []) c).1 cs)
      rw [hstep]
end Hw
end
section
set_option Elab.async false
namespace Hw
open Km253
noncomputable def ent (t : List (List Nat)) (i j : Nat) : Nat := (t.getD i []).getD j 0
noncomputable def half (t : List (List Nat)) (p j : Nat) : Nat := if p = NONE then 0 else ent t p j
noncomputable def mean (t : List (List Nat)) (x : Animal) (j : Nat) : Nat := (half t x.sire j + half t x.dam j) / 2
noncomputable def self (t : List (List Nat)) (x : Animal) : Nat := (ONE + if x.sire = NONE ∨ x.dam = NONE then 0 else ent t x.sire x.dam) / 2
noncomputable def newRow (t : List (List Nat)) (x : Animal) (n : Nat) : List Nat := (List.range n).map (mean t x)
noncomputable def grow (t : List (List Nat)) (x : Animal) (n : Nat) : List (List Nat) :=
  (t.zipIdx.map fun y => y.1 ++ [(newRow t x n).getD y.2 0]) ++ [newRow t x n ++ [self t x]]
theorem table_succ (h : List Animal) (n : Nat) : table h (n + 1) = grow (table h n) (animal h n) n := rfl
theorem table_length (h : List Animal) : ∀ n, (table h n).length = n
  | 0 => rfl
  | n + 1 => by rw [table_succ]; unfold grow; simp [table_length h n]
theorem grow_row_old {t : List (List Nat)} {x : Animal} {n i : Nat} (hi : i < t.length) : (grow t x n).getD i [] = t.getD i [] ++ [(newRow t x n).getD i 0] := by
  unfold grow
  rw [List.getD_eq_getElem?_getD, List.getD_eq_getElem?_getD, List.getElem?_append_left (by simpa using hi), List.getElem?_map, List.getElem?_zipIdx, List.getElem?_eq_getElem hi]
  simp
theorem grow_row_new {t : List (List Nat)} {x : Animal} {n : Nat} (hn : t.length = n) : (grow t x n).getD n [] = newRow t x n ++ [self t x] := by
  unfold grow
  rw [List.getD_eq_getElem?_getD, List.getElem?_append_right (by simp [hn])]
  simp [hn]
theorem table_row_length (h : List Animal) : ∀ n i, i < n → ((table h n).getD i []).length = n
  | 0, i, hi => by omega
  | n + 1, i, hi => by
    rw [table_succ]
    by_cases e : i < n
    · rw [grow_row_old (by rw [table_length]; exact e), List.length_append, table_row_length h n i e]
      rfl
    · have e' : i = n := by omega
      subst e'
      rw [grow_row_new (table_length h i)]
      simp [newRow]
theorem newRow_get {t : List (List Nat)} {x : Animal} {n j : Nat} (hj : j < n) : (newRow t x n).getD j 0 = mean t x j := by
  unfold newRow
  rw [List.getD_eq_getElem?_getD, List.getElem?_map, List.getElem?_range hj]
  rfl
theorem ent_old (h : List Animal) {n i j : Nat} (hi : i < n) (hj : j < n) : ent (table h (n + 1)) i j = ent (table h n) i j := by
  unfold ent
  rw [table_succ, grow_row_old (by rw [table_length]; exact hi), List.getD_eq_getElem?_getD, List.getElem?_append_left (by rw [table_row_length h n i hi]; exact hj), ← List.getD_eq_getElem?_getD]
theorem ent_col (h : List Animal) {n i : Nat} (hi : i < n) : ent (table h (n + 1)) i n = mean (table h n) (animal h n) i := by
  unfold ent
  rw [table_succ, grow_row_old (by rw [table_length]; exact hi), List.getD_eq_getElem?_getD, List.getElem?_append_right (by rw [table_row_length h n i hi]; exact Nat.le_refl _), table_row_length h n i hi, newRow_get hi]
  simp
theorem ent_row (h : List Animal) {n j : Nat} (hj : j < n) : ent (table h (n + 1)) n j = mean (table h n) (animal h n) j := by
  unfold ent
  rw [table_succ, grow_row_new (table_length h n), List.getD_eq_getElem?_getD, List.getElem?_append_left (by simpa [newRow] using hj), ← List.getD_eq_getElem?_getD, newRow_get hj]
theorem ent_self (h : List Animal) (n : Nat) : ent (table h (n + 1)) n n = self (table h n) (animal h n) := by
  unfold ent
  rw [table_succ, grow_row_new (table_length h n), List.getD_eq_getElem?_getD, List.getElem?_append_right (by simp [newRow])]
  simp [newRow]
theorem ent_out (h : List Animal) {n i j : Nat} (hh : n ≤ i ∨ n ≤ j) : ent (table h n) i j = 0 := by
  unfold ent
  by_cases hi : i < n
  · have hj : n ≤ j := by omega
    rw [List.getD_eq_getElem?_getD, List.getElem?_eq_none (by rw [table_row_length h n i hi]; exact hj)]
    rfl
  · have e : (table h n).getD i [] = [] := by
      rw [List.getD_eq_getElem?_getD, List.getElem?_eq_none (by rw [table_length]; omega)]
      rfl
    rw [e]
    rfl
theorem ent_symm (h : List Animal) : ∀ n i j, ent (table h n) i j = ent (table h n) j i
  | 0, i, j => by rw [ent_out h (by omega), ent_out h (by omega)]
  | n + 1, i, j => by
    by_cases hi : i < n
    · by_cases hj : j < n
      · rw [ent_old h hi hj, ent_old h hj hi]
        exact ent_symm h n i j
      · by_cases e : j = n
        · subst e
          rw [ent_col h hi, ent_row h hi]
        · rw [ent_out h (by omega), ent_out h (by omega)]
    · by_cases e : i = n
      · subst e
        by_cases hj : j < i
        · rw [ent_col h hj, ent_row h hj]
        · by_cases e2 : j = i
          · subst e2; rfl
          · rw [ent_out h (by omega), ent_out h (by omega)]
      · rw [ent_out h (by omega), ent_out h (by omega)]
theorem table_congr {h h' : List Animal} : ∀ n, (∀ i, i < n → animal h i = animal h' i) → table h n = table h' n
  | 0, _ => rfl
  | n + 1, e => by
    rw [table_succ, table_succ, table_congr n (fun i hi => e i (by omega)), e n (by omega)]
open Km256
theorem kin_ent (a : Abs) (i j : Nat) : Km256.kin a i j = ent (table (book a) a.length) i j := by
  unfold Km256.kin Km253.kin
  have e : (book a).length = a.length := by unfold book; rw [List.length_map]
  rw [e]
  rfl
theorem kin_symm (a : Abs) (i j : Nat) : Km256.kin a i j = Km256.kin a j i := by
  rw [kin_ent, kin_ent]; exact ent_symm _ _ _ _
theorem animal_book_old (a : Abs) (x : One) {i : Nat} (hi : i < a.length) : animal (book (a ++ [x])) i = animal (book a) i := by
  unfold animal book
  rw [List.map_append, List.getD_eq_getElem?_getD, List.getD_eq_getElem?_getD, List.getElem?_append_left (by rw [List.length_map]; exact hi)]
theorem animal_book_new (a : Abs) (x : One) : animal (book (a ++ [x])) a.length = x.parents := by
  unfold animal book
  rw [List.map_append, List.getD_eq_getElem?_getD, List.getElem?_append_right (by rw [List.length_map]; exact Nat.le_refl _)]
  simp
theorem table_book_old (a : Abs) (x : One) : table (book (a ++ [x])) a.length = table (book a) a.length :=
  table_congr _ fun _ hi => animal_book_old a x hi
theorem kin_snoc_old (a : Abs) (x : One) {i j : Nat} (hi : i < a.length) (hj : j < a.length) : Km256.kin (a ++ [x]) i j = Km256.kin a i j := by
  rw [kin_ent, kin_ent, List.length_append]
  show ent (table (book (a ++ [x])) (a.length + 1)) i j = _
  rw [ent_old _ hi hj, table_book_old]
noncomputable def par (a : Abs) (p j : Nat) : Nat := if p = NONE then 0 else Km256.kin a p j
theorem kin_snoc_row (a : Abs) (x : One) {j : Nat} (hj : j < a.length) : Km256.kin (a ++ [x]) a.length j = (par a x.parents.sire j + par a x.parents.dam j) / 2 := by
  rw [kin_ent, List.length_append]
  show ent (table (book (a ++ [x])) (a.length + 1)) a.length j = _
  rw [ent_row _ hj, table_book_old, animal_book_new]
  unfold mean half par
  rw [kin_ent, kin_ent]
theorem kin_snoc_col (a : Abs) (x : One) {j : Nat} (hj : j < a.length) : Km256.kin (a ++ [x]) j a.length = (par a x.parents.sire j + par a x.parents.dam j) / 2 := by
  rw [kin_symm]; exact kin_snoc_row a x hj
theorem kin_snoc_self (a : Abs) (x : One) : Km256.kin (a ++ [x]) a.length a.length = (2 ^ 48 + if x.parents.sire = NONE ∨ x.parents.dam = NONE then 0 else Km256.kin a x.parents.sire x.parents.dam) / 2 := by
  rw [kin_ent, List.length_append]
  show ent (table (book (a ++ [x])) (a.length + 1)) a.length a.length = _
  rw [ent_self, table_book_old, animal_book_new]
  unfold self
  rw [kin_ent]
  rfl
theorem kin_book {a a' : Abs} (h : book a = book a') (i j : Nat) : Km256.kin a i j = Km256.kin a' i j := by
  unfold Km256.kin
  rw [h]
theorem one_get {a : Abs} {i : Nat} {x : One} (h : a[i]? = some x) : one a i = x := by
  unfold one
  rw [List.getD_eq_getElem?_getD, h]
  rfl
theorem book_gone (a : Abs) (i : Nat) : book (a.set i { one a i with lives := false }) = book a := by
  unfold book
  rw [List.map_set]
  by_cases h : i < a.length
  · have e : (one a i).parents = (a.map One.parents)[i]'(by rw [List.length_map]; exact h) := by
      rw [one_get (List.getElem?_eq_getElem h), List.getElem_map]
    show (a.map One.parents).set i (one a i).parents = a.map One.parents
    rw [e, List.set_getElem_self]
  · rw [List.set_eq_of_length_le (by rw [List.length_map]; omega)]
structure Wf (a : Abs) : Prop where
  len : a.length ≤ 24
  par : ∀ (i : Nat) (x : One), a[i]? = some x → (x.parents.sire = 255 ∧ x.parents.dam = 255) ∨ (x.parents.sire < i ∧ x.parents.dam < i)
theorem Wf.nil : Wf [] := ⟨by decide, fun i x h => by simp at h⟩
theorem Wf.snoc {a : Abs} {x : One} (w : Wf a) (hl : a.length < 24) (hx : (x.parents.sire = 255 ∧ x.parents.dam = 255) ∨ (x.parents.sire < a.length ∧ x.parents.dam < a.length)) : Wf (a ++ [x]) := by
  refine ⟨by rw [List.length_append]; show a.length + 1 ≤ 24; omega, fun i y h => ?_⟩
  by_cases hi : i < a.length
  · rw [List.getElem?_append_left hi] at h
    exact w.par i y h
  · rw [List.getElem?_append_right (by omega)] at h
    have hi2 : i - a.length = 0 := by
      by_cases e : i - a.length = 0
      · exact e
      · rw [List.getElem?_eq_none (by show 1 ≤ _; omega)] at h; cases h
    rw [hi2] at h
    have e : x = y := Option.some.inj h
    subst e
    have : i = a.length := by omega
    rw [this]; exact hx
theorem Wf.gone {a : Abs} (w : Wf a) {i : Nat} : Wf (a.set i { one a i with lives := false }) := by
  refine ⟨by rw [List.length_set]; exact w.len, fun j y h => ?_⟩
  by_cases e : i = j
  · subst e
    have hi : i < a.length := by
      have := (List.getElem?_eq_some_iff.mp h).1
      rwa [List.length_set] at this
    rw [List.getElem?_set_self hi] at h
    have e : ({ one a i with lives := false } : One) = y := Option.some.inj h
    subst e
    have q := w.par i (one a i) (by rw [one_get (List.getElem?_eq_getElem hi)]; exact List.getElem?_eq_getElem hi)
    exact q
  · rw [List.getElem?_set_ne e] at h
    exact w.par j y h
theorem Wf.act {a : Abs} (w : Wf a) (k : Km256.Call) : Wf (Km256.act a k).1 := by
  cases k with
  | start => exact Wf.nil
  | new_ f =>
    simp only [Km256.act]
    split
    · exact w
    · split
      · exact w
      · rename_i h
        have h' : a.length < 24 := by unfold MOST at h; omega
        exact w.snoc h' (.inl ⟨rfl, rfl⟩)
  | born s d f =>
    simp only [Km256.act]
    split
    · exact w
    · split
      · exact w
      · rename_i hsd
        split
        · exact w
        · split
          · exact w
          · rename_i h
            have h' : a.length < 24 := by unfold MOST at h; omega
            exact w.snoc h' (.inr ⟨by show s < _; omega, by show d < _; omega⟩)
  | gone i =>
    simp only [Km256.act]
    split
    · exact w
    · split
      · exact w
      · exact w.gone
  | kin i j =>
    simp only [Km256.act]
    split <;> exact w
  | herd => exact w
  | plan y =>
    simp only [Km256.act]
    split
    · exact w
    · split <;> exact w
end Hw
end
section
set_option Elab.async false
namespace Hw
noncomputable def pick {α : Type} (f : α → Nat) (o : Option α) (c : α) : Option α := match o with
  | none => some c
  | some d => if f c < f d then some c else some d
noncomputable def first {α : Type} (f : α → Nat) (l : List α) : Option α := l.foldl (pick f) none
theorem pick_lt {α : Type} {f : α → Nat} {c d : α} (h : f c < f d) : pick f (some d) c = some c := by
  show (if f c < f d then some c else some d) = some c
  rw [if_pos h]
theorem pick_ge {α : Type} {f : α → Nat} {c d : α} (h : ¬ f c < f d) : pick f (some d) c = some d := by
  show (if f c < f d then some c else some d) = some d
  rw [if_neg h]
theorem first_append {α : Type} (f : α → Nat) (l m : List α) : first f (l ++ m) = m.foldl (pick f) (first f l) := by
  unfold first
  rw [List.foldl_append]
theorem fold_pick {α : Type} (f : α → Nat) : ∀ (l : List α) (d : α), ∃ e, l.foldl (pick f) (some d) = some e ∧ (e = d ∨ e ∈ l) ∧ f e ≤ f d ∧ ∀ c ∈ l, f e ≤ f c
  | [], d => ⟨d, rfl, .inl rfl, Nat.le_refl _, fun c h => (nomatch h)⟩
  | c :: l, d => by
    by_cases h : f c < f d
    · obtain ⟨e, h1, h2, h3, h4⟩ := fold_pick f l c
      refine ⟨e, ?_, ?_, by omega, fun x hx => ?_⟩
      · rw [List.foldl_cons, pick_lt h]; exact h1
      · rcases h2 with rfl | h2
        · exact .inr (List.mem_cons_self ..)
        · exact .inr (List.mem_cons_of_mem _ h2)
      · rcases List.mem_cons.mp hx with rfl | hx
        · exact h3
        · exact h4 x hx
    · obtain ⟨e, h1, h2, h3, h4⟩ := fold_pick f l d
      refine ⟨e, ?_, ?_, h3, fun x hx => ?_⟩
      · rw [List.foldl_cons, pick_ge h]; exact h1
      · rcases h2 with rfl | h2
        · exact .inl rfl
        · exact .inr (List.mem_cons_of_mem _ h2)
      · rcases List.mem_cons.mp hx with rfl | hx
        · omega
        · exact h4 x hx
theorem first_spec {α : Type} (f : α → Nat) {l : List α} (h : l ≠ []) : ∃ e, first f l = some e ∧ e ∈ l ∧ ∀ c ∈ l, f e ≤ f c := by
  cases l with
  | nil => exact absurd rfl h
  | cons c l =>
    obtain ⟨e, h1, h2, h3, h4⟩ := fold_pick f l c
    refine ⟨e, h1, ?_, fun x hx => ?_⟩
    · rcases h2 with rfl | h2
      · exact List.mem_cons_self ..
      · exact List.mem_cons_of_mem _ h2
    · rcases List.mem_cons.mp hx with rfl | hx
      · exact h3
      · exact h4 x hx
theorem fold_pick_stay {α : Type} (f : α → Nat) {d : α} : ∀ (l : List α), (∀ c ∈ l, f d ≤ f c) → l.foldl (pick f) (some d) = some d
  | [], _ => rfl
  | c :: l, h => by
    have hc := h c (List.mem_cons_self ..)
    rw [List.foldl_cons, pick_ge (by omega)]
    exact fold_pick_stay f l fun x hx => h x (List.mem_cons_of_mem _ hx)
theorem first_at {α : Type} (f : α → Nat) {u v : List α} {d : α} (h1 : ∀ c ∈ u, f d < f c) (h2 : ∀ c ∈ v, f d ≤ f c) : first f (u ++ d :: v) = some d := by
  rw [first_append, List.foldl_cons]
  have e : pick f (first f u) d = some d := by
    cases u with
    | nil => rfl
    | cons c u =>
      obtain ⟨e, he, hm, _⟩ := first_spec f (l := c :: u) (by simp)
      rw [he]
      exact pick_lt (h1 e hm)
  rw [e]
  exact fold_pick_stay f v h2
noncomputable def rank {α : Type} (lt : α → α → Bool) (l : List α) (x : α) : Nat := (l.filter fun y => lt y x).length
structure Ord {α : Type} (lt : α → α → Bool) (l : List α) : Prop where
  irr : ∀ x, lt x x = false
  asym : ∀ x y, lt x y = true → lt y x = false
  tr : ∀ x y z, lt x y = true → lt y z = true → lt x z = true
  tot : ∀ x ∈ l, ∀ y ∈ l, x ≠ y → lt x y = true ∨ lt y x = true
theorem rank_perm {α : Type} (lt : α → α → Bool) {l m : List α} (h : l.Perm m) (x : α) : rank lt l x = rank lt m x := (h.filter _).length_eq
theorem filter_all {α : Type} {p : α → Bool} : ∀ {l : List α}, (∀ x ∈ l, p x = true) → l.filter p = l
  | [], _ => rfl
  | a :: l, h => by
    rw [List.filter_cons, if_pos (h a (List.mem_cons_self ..)), filter_all fun x hx => h x (List.mem_cons_of_mem _ hx)]
theorem filter_no {α : Type} {p : α → Bool} : ∀ {l : List α}, (∀ x ∈ l, p x = false) → l.filter p = []
  | [], _ => rfl
  | a :: l, h => by
    rw [List.filter_cons, if_neg (by rw [h a (List.mem_cons_self ..)]; simp), filter_no fun x hx => h x (List.mem_cons_of_mem _ hx)]
theorem rank_sorted {α : Type} {lt : α → α → Bool} (irr : ∀ x, lt x x = false) (asym : ∀ x y, lt x y = true → lt y x = false) {u v : List α} {x : α} (h : (u ++ x :: v).Pairwise fun a b => lt a b = true) : rank lt (u ++ x :: v) x = u.length := by
  obtain ⟨h1, h2, h3⟩ := List.pairwise_append.mp h
  obtain ⟨h4, h5⟩ := List.pairwise_cons.mp h2
  unfold rank
  rw [List.filter_append, filter_all (l := u) (fun y hy => h3 y hy x (List.mem_cons_self ..)), List.filter_cons, if_neg (by rw [irr]; simp), filter_no (l := v) (fun y hy => asym _ _ (h4 y hy)), List.append_nil]
theorem rank_lt {α : Type} [DecidableEq α] {lt : α → α → Bool} {l : List α} (o : Ord lt l) {x y : α} (hx : x ∈ l) (h : lt x y = true) : rank lt l x < rank lt l y := by
  unfold rank
  have key : ∀ m : List α, (m.filter fun z => lt z x).length ≤ (m.filter fun z => lt z y).length ∧ (x ∈ m → (m.filter fun z => lt z x).length < (m.filter fun z => lt z y).length) := by
    intro m
    induction m with
    | nil => exact ⟨Nat.le_refl _, fun q => (nomatch q)⟩
    | cons a m ih =>
      obtain ⟨i1, i2⟩ := ih
      by_cases hax : lt a x = true
      · have hay := o.tr a x y hax h
        have hne : x ≠ a := fun e => by rw [e, o.irr] at hax; cases hax
        rw [List.filter_cons, if_pos hax, List.filter_cons, if_pos hay, List.length_cons, List.length_cons]
        refine ⟨by omega, fun q => ?_⟩
        rcases List.mem_cons.mp q with e | q
        · exact absurd e hne
        · have := i2 q; omega
      · by_cases hay : lt a y = true
        · rw [List.filter_cons, if_neg hax, List.filter_cons, if_pos hay, List.length_cons]
          exact ⟨by omega, fun _ => by omega⟩
        · have hne : x ≠ a := fun e => by rw [← e] at hay; exact hay h
          rw [List.filter_cons, if_neg hax, List.filter_cons, if_neg hay]
          refine ⟨i1, fun q => ?_⟩
          rcases List.mem_cons.mp q with e | q
          · exact absurd e hne
          · exact i2 q
  exact (key l).2 hx
theorem rank_inj {α : Type} [DecidableEq α] {lt : α → α → Bool} {l : List α} (o : Ord lt l) {x y : α} (hx : x ∈ l) (hy : y ∈ l) (h : rank lt l x = rank lt l y) : x = y := by
  by_cases e : x = y
  · exact e
  · rcases o.tot x hx y hy e with q | q
    · have := rank_lt o hx q; omega
    · have := rank_lt o hy q; omega
theorem nodup_bound : ∀ (n : Nat) (l : List Nat), l.Nodup → (∀ x ∈ l, x < n) → l.length ≤ n
  | 0, l, _, h => by
    cases l with
    | nil => exact Nat.le_refl _
    | cons a l => exact absurd (h a (List.mem_cons_self ..)) (by omega)
  | n + 1, l, hn, h => by
    have h1 := nodup_bound n (l.filter fun x => decide (x < n)) (hn.filter _) fun x hx => of_decide_eq_true (List.mem_filter.mp hx).2
    have key : ∀ m : List Nat, m.Nodup → (∀ x ∈ m, x < n + 1) → m.length ≤ (m.filter fun x => decide (x < n)).length + 1 := by
      intro m
      induction m with
      | nil => intro _ _; exact Nat.zero_le _
      | cons a m ih =>
        intro hd hb
        obtain ⟨d1, d2⟩ := List.nodup_cons.mp hd
        by_cases ha : a < n
        · rw [List.filter_cons, if_pos (decide_eq_true ha), List.length_cons, List.length_cons]
          have := ih d2 fun x hx => hb x (List.mem_cons_of_mem _ hx)
          omega
        · have ea : a = n := by have := hb a (List.mem_cons_self ..); omega
          rw [List.filter_cons, if_neg (by simp [ha]), List.length_cons]
          rw [filter_all (l := m) fun x hx => ?_]
          · omega
          · have h2 := hb x (List.mem_cons_of_mem _ hx)
            have h3 : x ≠ n := fun e => d1 (by rw [ea, ← e]; exact hx)
            exact decide_eq_true (by omega)
    have := key l hn h
    omega
theorem nodup_map_on {α β : Type} {f : α → β} : ∀ {l : List α}, l.Nodup → (∀ x ∈ l, ∀ y ∈ l, f x = f y → x = y) → (l.map f).Nodup
  | [], _, _ => List.nodup_nil
  | a :: l, h, hi => by
    obtain ⟨h1, h2⟩ := List.nodup_cons.mp h
    rw [List.map_cons]
    refine List.nodup_cons.mpr ⟨fun m => ?_, nodup_map_on h2 fun x hx y hy => hi x (List.mem_cons_of_mem _ hx) y (List.mem_cons_of_mem _ hy)⟩
    obtain ⟨b, hb, e⟩ := List.mem_map.mp m
    exact h1 (by rw [← hi b (List.mem_cons_of_mem _ hb) a (List.mem_cons_self ..) e]; exact hb)
theorem rank_few {α : Type} [DecidableEq α] {lt : α → α → Bool} {l : List α} (o : Ord lt l) (hn : l.Nodup) (n : Nat) : (l.filter fun x => decide (rank lt l x < n)).length ≤ n := by
  have h1 : ((l.filter fun x => decide (rank lt l x < n)).map (rank lt l)).Nodup := nodup_map_on (hn.filter _) fun x hx y hy e => rank_inj o (List.mem_filter.mp hx).1 (List.mem_filter.mp hy).1 e
  have h2 := nodup_bound n _ h1 fun x hx => by
    obtain ⟨y, hy, e⟩ := List.mem_map.mp hx
    rw [← e]
    exact of_decide_eq_true (List.mem_filter.mp hy).2
  rw [List.length_map] at h2
  exact h2
end Hw
end
section
set_option Elab.async false
namespace Hw
open Km256
theorem less_ord (a : Abs) (l : List Nat) : Ord (less a) l := by
  refine ⟨fun x => ?_, fun x y h => ?_, fun x y z h1 h2 => ?_, fun x _ y _ h => ?_⟩
  · simp [less]
  · simp only [less, Bool.or_eq_true, Bool.and_eq_true, decide_eq_true_eq, beq_iff_eq, Bool.or_eq_false_iff, Bool.and_eq_false_iff, decide_eq_false_iff_not, beq_eq_false_iff_ne] at h ⊢
    omega
  · simp only [less, Bool.or_eq_true, Bool.and_eq_true, decide_eq_true_eq, beq_iff_eq] at h1 h2 ⊢
    omega
  · simp only [less, Bool.or_eq_true, Bool.and_eq_true, decide_eq_true_eq, beq_iff_eq]
    omega
theorem living_nodup (a : Abs) : (living a).Nodup := List.nodup_range.filter _
theorem living_lt {a : Abs} {i : Nat} (h : i ∈ living a) : i < a.length := List.mem_range.mp (List.mem_filter.mp h).1
noncomputable def kind (a : Abs) (f : Bool) : List Nat := (living a).filter fun i => (one a i).female == f
theorem kind_nodup (a : Abs) (f : Bool) : (kind a f).Nodup := (living_nodup a).filter _
theorem breeders_eq (a : Abs) (f : Bool) : breeders a f = (kind a f).filter fun i => decide (rank (less a) (kind a f) i < 4) := rfl
theorem breeders_len (a : Abs) (f : Bool) : (breeders a f).length ≤ 4 := by
  rw [breeders_eq]
  exact rank_few (less_ord a _) (kind_nodup a f) 4
theorem foldl_add : ∀ (l : List Nat) (n : Nat), l.foldl (· + ·) n = n + l.foldl (· + ·) 0
  | [], n => rfl
  | x :: l, n => by
    rw [List.foldl_cons, List.foldl_cons, foldl_add l (n + x), foldl_add l (0 + x)]
    omega
theorem sum_eq (l : List Nat) : l.foldl (· + ·) 0 = l.sum := by
  induction l with
  | nil => rfl
  | cons x l ih =>
    rw [List.foldl_cons, foldl_add, ih, List.sum_cons]
    omega
theorem sum54 (l : List Nat) : Km254.sum l = l.sum := sum_eq l
theorem sum55 (l : List Nat) : Km255.sum l = l.sum := sum_eq l
theorem sum56 (l : List Nat) : Km256.sum l = l.sum := sum_eq l
theorem rows_mem : ∀ (n s : Nat) (l : List Nat), l ∈ Km254.rows n s ↔ l.length = n ∧ l.sum = s
  | 0, 0, l => by
    simp only [Km254.rows, List.mem_singleton]
    constructor
    · rintro rfl; exact ⟨rfl, rfl⟩
    · rintro ⟨h, _⟩; exact List.length_eq_zero_iff.mp h
  | 0, s + 1, l => by
    simp only [Km254.rows]
    constructor
    · intro h; exact (nomatch h)
    · rintro ⟨h, h2⟩
      rw [List.length_eq_zero_iff.mp h] at h2
      exact absurd h2 (by simp)
  | n + 1, s, l => by
    simp only [Km254.rows, List.mem_flatMap, List.mem_reverse, List.mem_range, List.mem_map]
    constructor
    · rintro ⟨x, hx, r, hr, rfl⟩
      obtain ⟨h1, h2⟩ := (rows_mem n (s - x) r).mp hr
      refine ⟨by rw [List.length_cons, h1], ?_⟩
      rw [List.sum_cons, h2]
      omega
    · rintro ⟨h1, h2⟩
      cases l with
      | nil => simp at h1
      | cons x r =>
        rw [List.length_cons] at h1
        rw [List.sum_cons] at h2
        exact ⟨x, by omega, r, (rows_mem n (s - x) r).mpr ⟨by omega, by omega⟩, rfl⟩
theorem rows_ne (n s : Nat) : Km254.rows (n + 1) s ≠ [] := by
  intro h
  have : (s :: List.replicate n 0) ∈ Km254.rows (n + 1) s := (rows_mem _ _ _).mpr ⟨by simp, by simp⟩
  rw [h] at this
  exact (nomatch this)
theorem best_first (a : Km254.Ask) : a.best = (first a.akin a.all).getD [] := by
  unfold Km254.Ask.best first
  congr 2
  funext o c
  cases o <;> rfl
theorem all_mem (a : Km254.Ask) (c : List Nat) : c ∈ a.all ↔ ∃ m f, c = m ++ f ∧ m ∈ Km254.rows a.males a.young ∧ f ∈ Km254.rows a.females a.young := by
  unfold Km254.Ask.all
  simp only [List.mem_flatMap, List.mem_map]
  constructor
  · rintro ⟨m, hm, f, hf, rfl⟩; exact ⟨m, f, rfl, hm, hf⟩
  · rintro ⟨m, f, rfl, hm, hf⟩; exact ⟨m, hm, f, hf, rfl⟩
theorem all_ne {a : Km254.Ask} (h1 : 0 < a.males) (h2 : 0 < a.females) : a.all ≠ [] := by
  obtain ⟨m, em⟩ : ∃ m, a.males = m + 1 := ⟨a.males - 1, by omega⟩
  obtain ⟨f, ef⟩ : ∃ f, a.females = f + 1 := ⟨a.females - 1, by omega⟩
  obtain ⟨x, hx⟩ := List.exists_mem_of_ne_nil _ (rows_ne m a.young)
  obtain ⟨y, hy⟩ := List.exists_mem_of_ne_nil _ (rows_ne f a.young)
  intro h
  have : x ++ y ∈ a.all := (all_mem a _).mpr ⟨x, y, rfl, by rw [em]; exact hx, by rw [ef]; exact hy⟩
  rw [h] at this
  exact (nomatch this)
theorem best_mem {a : Km254.Ask} (h1 : 0 < a.males) (h2 : 0 < a.females) : first a.akin a.all = some a.best ∧ a.best ∈ a.all := by
  obtain ⟨e, he, hm, _⟩ := first_spec a.akin (all_ne h1 h2)
  rw [best_first, he]
  exact ⟨rfl, hm⟩
theorem best_parts {a : Km254.Ask} (h1 : 0 < a.males) (h2 : 0 < a.females) : (a.best.take a.males).length = a.males ∧ (a.best.drop a.males).length = a.females ∧ (a.best.take a.males).sum = a.young ∧ (a.best.drop a.males).sum = a.young := by
  obtain ⟨m, f, e, hm, hf⟩ := (all_mem a _).mp (best_mem h1 h2).2
  obtain ⟨m1, m2⟩ := (rows_mem _ _ _).mp hm
  obtain ⟨f1, f2⟩ := (rows_mem _ _ _).mp hf
  rw [e, ← m1, List.take_left, List.drop_left]
  exact ⟨rfl, f1, by rw [m2], f2⟩
theorem four_len {l : List Nat} (x : Nat) (h : l.length ≤ 4) : (four l x).length = 4 := by
  unfold four
  rw [List.length_append, List.length_replicate]
  omega
theorem flat_len (x : Km255.Mating) : (Km255.flat x).length = 16 := by
  unfold Km255.flat
  rw [List.length_flatMap]
  simp [List.length_map, List.length_range]
  decide
theorem told_len (a : Abs) (k : Km256.Call) : (Km256Neutral.told (Km256.act a k).2).length ≤ 35 := by
  cases k with
  | start => show 1 ≤ 35; decide
  | new_ n =>
    simp only [Km256.act]
    split
    · show 1 ≤ 35; decide
    · split <;> (show 1 ≤ 35; decide)
  | born i d n =>
    simp only [Km256.act]
    split
    · show 1 ≤ 35; decide
    · split
      · show 1 ≤ 35; decide
      · split
        · show 1 ≤ 35; decide
        · split <;> (show 1 ≤ 35; decide)
  | gone n =>
    simp only [Km256.act]
    split
    · show 1 ≤ 35; decide
    · split <;> (show 1 ≤ 35; decide)
  | kin i j =>
    simp only [Km256.act]
    split
    · show 1 ≤ 35; decide
    · show 2 ≤ 35; decide
  | herd => show 2 ≤ 35; decide
  | plan y =>
    simp only [Km256.act]
    split
    · show 1 ≤ 35; decide
    · split
      · show 1 ≤ 35; decide
      · rename_i h
        have hm : 0 < (shareAsk a y).males := by
          show 0 < (breeders a false).length
          exact List.length_pos_iff.mpr fun q => h (.inl q)
        have hf : 0 < (shareAsk a y).females := by
          show 0 < (breeders a true).length
          exact List.length_pos_iff.mpr fun q => h (.inr q)
        obtain ⟨p1, p2, _, _⟩ := best_parts hm hf
        have l1 := breeders_len a false
        have l2 := breeders_len a true
        have q1 : (matingAsk a y).ofMale.length ≤ 4 := by
          show ((shareAsk a y).best.take (breeders a false).length).length ≤ 4
          have : ((shareAsk a y).best.take (breeders a false).length).length = (breeders a false).length := p1
          omega
        have q2 : (matingAsk a y).ofFemale.length ≤ 4 := by
          show ((shareAsk a y).best.drop (breeders a false).length).length ≤ 4
          have : ((shareAsk a y).best.drop (breeders a false).length).length = (breeders a true).length := p2
          omega
        show ((Km256Neutral.nums _).length + 1) ≤ 35
        unfold Km256Neutral.nums
        simp only [List.length_map, List.length_append, four_len 255 l1, four_len 255 l2, four_len 0 q1, four_len 0 q2, flat_len, List.length_cons, List.length_nil]
        decide
end Hw
end
section
set_option Elab.async false
namespace Hw
theorem rows55_mem : ∀ (left : List Nat) (s : Nat) (r : List Nat), r ∈ Km255.rows left s ↔ r.length = left.length ∧ r.sum = s ∧ ∀ j, r.getD j 0 ≤ left.getD j 0
  | [], 0, r => by
    simp only [Km255.rows, List.mem_singleton]
    constructor
    · rintro rfl; exact ⟨rfl, rfl, fun j => Nat.le_refl _⟩
    · rintro ⟨h, _⟩; exact List.length_eq_zero_iff.mp h
  | [], s + 1, r => by
    simp only [Km255.rows]
    constructor
    · intro h; exact (nomatch h)
    · rintro ⟨h, h2, _⟩
      rw [List.length_eq_zero_iff.mp h] at h2
      exact absurd h2 (by simp)
  | y :: left, s, r => by
    simp only [Km255.rows, List.mem_flatMap, List.mem_reverse, List.mem_range, List.mem_map]
    constructor
    · rintro ⟨x, hx, q, hq, rfl⟩
      obtain ⟨h1, h2, h3⟩ := (rows55_mem left (s - x) q).mp hq
      refine ⟨by rw [List.length_cons, List.length_cons, h1], ?_, fun j => ?_⟩
      · rw [List.sum_cons, h2]; omega
      · cases j with
        | zero => show x ≤ y; omega
        | succ j => exact h3 j
    · rintro ⟨h1, h2, h3⟩
      cases r with
      | nil => simp at h1
      | cons x q =>
        rw [List.length_cons, List.length_cons] at h1
        rw [List.sum_cons] at h2
        have h0 : x ≤ y := h3 0
        exact ⟨x, by omega, q, (rows55_mem left (s - x) q).mpr ⟨by omega, by omega, fun j => h3 (j + 1)⟩, rfl⟩
theorem rows55_ne : ∀ (left : List Nat) (s : Nat), s ≤ left.sum → Km255.rows left s ≠ []
  | [], 0, _ => by simp [Km255.rows]
  | [], s + 1, h => by simp at h
  | y :: left, s, h => by
    rw [List.sum_cons] at h
    have hr := rows55_ne left (s - min y s) (by omega)
    obtain ⟨q, hq⟩ := List.exists_mem_of_ne_nil _ hr
    intro e
    have : (min y s :: q) ∈ Km255.rows (y :: left) s := by
      simp only [Km255.rows, List.mem_flatMap, List.mem_reverse, List.mem_range, List.mem_map]
      exact ⟨min y s, by omega, q, hq, rfl⟩
    rw [e] at this
    exact (nomatch this)
noncomputable def less55 (left r : List Nat) : List Nat := (List.range left.length).map fun j => left.getD j 0 - r.getD j 0
theorem less55_len (left r : List Nat) : (less55 left r).length = left.length := by
  unfold less55; rw [List.length_map, List.length_range]
theorem less55_cons (y x : Nat) (left r : List Nat) : less55 (y :: left) (x :: r) = (y - x) :: less55 left r := by
  unfold less55
  rw [List.length_cons, List.range_succ_eq_map, List.map_cons, List.map_map]
  rfl
theorem less55_get (left r : List Nat) (j : Nat) : (less55 left r).getD j 0 = left.getD j 0 - r.getD j 0 := by
  by_cases h : j < left.length
  · unfold less55
    rw [List.getD_eq_getElem?_getD, List.getElem?_map, List.getElem?_range h]
    rfl
  · have h1 : (less55 left r).getD j 0 = 0 := by
      rw [List.getD_eq_getElem?_getD, List.getElem?_eq_none (by rw [less55_len]; omega)]
      rfl
    have h2 : left.getD j 0 = 0 := by
      rw [List.getD_eq_getElem?_getD, List.getElem?_eq_none (by omega)]
      rfl
    rw [h1, h2]
    omega
theorem less55_sum : ∀ (left r : List Nat), r.length = left.length → (∀ j, r.getD j 0 ≤ left.getD j 0) → (less55 left r).sum + r.sum = left.sum
  | [], [], _, _ => rfl
  | y :: left, x :: r, h, hle => by
    have ih := less55_sum left r (by simpa using h) fun j => hle (j + 1)
    have h0 : x ≤ y := hle 0
    rw [less55_cons, List.sum_cons, List.sum_cons, List.sum_cons]
    omega
  | [], x :: r, h, _ => by simp at h
  | y :: left, [], h, _ => by simp at h
theorem all55_cons (a : Km255.Ask) (s : Nat) (more left : List Nat) : a.all (s :: more) left = (Km255.rows left s).flatMap fun r => (a.all more (less55 left r)).map fun x => r :: x := rfl
theorem all55_nil (a : Km255.Ask) (left : List Nat) : a.all [] left = [[]] := rfl
theorem all55_shape (a : Km255.Ask) : ∀ (sums left : List Nat) (x : Km255.Mating), x ∈ a.all sums left → x.length = sums.length ∧ ∀ r ∈ x, r.length = left.length
  | [], left, x, h => by
    rw [all55_nil, List.mem_singleton] at h
    subst h
    exact ⟨rfl, fun r hr => (nomatch hr)⟩
  | s :: more, left, x, h => by
    rw [all55_cons, List.mem_flatMap] at h
    obtain ⟨r, hr, h⟩ := h
    obtain ⟨y, hy, rfl⟩ := List.mem_map.mp h
    obtain ⟨h1, h2⟩ := all55_shape a more _ y hy
    refine ⟨by rw [List.length_cons, List.length_cons, h1], fun q hq => ?_⟩
    rcases List.mem_cons.mp hq with rfl | hq
    · exact ((rows55_mem left s q).mp hr).1
    · rw [h2 q hq, less55_len]
theorem best55_first (a : Km255.Ask) : a.best = (first a.cost (a.all ((List.range a.males).map a.m) ((List.range a.females).map a.f))).getD [] := by
  unfold Km255.Ask.best first
  congr 2
  funext o c
  cases o <;> rfl
end Hw
end
section
set_option Elab.async false
namespace Hw
theorem flatMap_congr' {α β : Type} {f g : α → List β} : ∀ {l : List α}, (∀ x ∈ l, f x = g x) → l.flatMap f = l.flatMap g
  | [], _ => rfl
  | a :: l, h => by rw [List.flatMap_cons, List.flatMap_cons, h a (List.mem_cons_self ..), flatMap_congr' fun x hx => h x (List.mem_cons_of_mem _ hx)]
theorem rows55_few : ∀ (l : List Nat) (s : Nat), (∀ y ∈ l, y ≤ 8) → (Km255.rows l s).length ≤ 9 ^ l.length
  | [], 0, _ => by simp [Km255.rows]
  | [], s + 1, _ => by simp [Km255.rows]
  | y :: l, s, h => by
    have ih := fun s => rows55_few l s fun z hz => h z (List.mem_cons_of_mem _ hz)
    have hy := h y (List.mem_cons_self ..)
    simp only [Km255.rows]
    rw [List.length_flatMap, List.length_cons, Nat.pow_succ]
    have key : ∀ (m : List Nat), (m.map fun x => ((Km255.rows l (s - x)).map fun r => x :: r).length).sum ≤ m.length * 9 ^ l.length := by
      intro m
      induction m with
      | nil => simp
      | cons x m ihm =>
        rw [List.map_cons, List.sum_cons, List.length_cons, List.length_map, Nat.succ_mul]
        have := ih (s - x)
        omega
    have k := key (List.range (min y s + 1)).reverse
    rw [List.length_reverse, List.length_range] at k
    have : (min y s + 1) * 9 ^ l.length ≤ 9 * 9 ^ l.length := Nat.mul_le_mul_right _ (by omega)
    rw [Nat.mul_comm (9 ^ l.length) 9]
    exact Nat.le_trans k this
theorem rows55_one (y s : Nat) : Km255.rows [y] s = if s ≤ y then [[s]] else [] := by
  have e0 : ∀ k, Km255.rows [] (k + 1) = [] := fun k => rfl
  have e1 : Km255.rows [] 0 = [[]] := rfl
  by_cases h : s ≤ y
  · rw [if_pos h]
    simp only [Km255.rows]
    rw [Nat.min_eq_right h, List.range_succ, List.reverse_append, List.flatMap_append]
    have z : ((List.range s).reverse.flatMap fun x => (Km255.rows [] (s - x)).map fun r => x :: r) = [] := by
      rw [List.flatMap_eq_nil_iff]
      intro x hx
      have hx' : x < s := List.mem_range.mp (List.mem_reverse.mp hx)
      obtain ⟨k, hk⟩ : ∃ k, s - x = k + 1 := ⟨s - x - 1, by omega⟩
      rw [hk, e0]
      rfl
    have z2 : (([s] : List Nat).reverse.flatMap fun x => (Km255.rows [] (s - x)).map fun r => x :: r) = [[s]] := by
      show (Km255.rows [] (s - s)).map (fun r => s :: r) ++ [] = [[s]]
      rw [Nat.sub_self, e1]
      rfl
    rw [z, z2]
    rfl
  · rw [if_neg h]
    simp only [Km255.rows]
    rw [List.flatMap_eq_nil_iff]
    intro x hx
    have hx' : x < min y s + 1 := List.mem_range.mp (List.mem_reverse.mp hx)
    obtain ⟨k, hk⟩ : ∃ k, s - x = k + 1 := ⟨s - x - 1, by omega⟩
    rw [hk, e0]
    rfl
theorem rows54_eq : ∀ (n s t : Nat), s ≤ t → Km254.rows n s = Km255.rows (List.replicate n t) s
  | 0, 0, t, _ => rfl
  | 0, s + 1, t, _ => rfl
  | n + 1, s, t, h => by
    rw [List.replicate_succ]
    simp only [Km254.rows, Km255.rows]
    rw [Nat.min_eq_right h]
    exact flatMap_congr' fun x hx => by rw [rows54_eq n (s - x) t (by omega)]
end Hw
end
section
set_option Elab.async false
namespace Hw
noncomputable def FL {α : Type} (f : α → Int) (l : List α) (x : α) : Prop := ∃ u v, l = u ++ x :: v ∧ (∀ c ∈ u, f x < f c) ∧ ∀ c ∈ v, f x ≤ f c
theorem FL.mem {α : Type} {f : α → Int} {l : List α} {x : α} (h : FL f l x) : x ∈ l := by
  obtain ⟨u, v, rfl, _⟩ := h
  exact List.mem_append_right _ (List.mem_cons_self ..)
theorem FL.le {α : Type} {f : α → Int} {l : List α} {x : α} (h : FL f l x) : ∀ c ∈ l, f x ≤ f c := by
  obtain ⟨u, v, rfl, h1, h2⟩ := h
  intro c hc
  rcases List.mem_append.mp hc with q | q
  · exact Int.le_of_lt (h1 c q)
  · rcases List.mem_cons.mp q with q | q
    · rw [q]; exact Int.le_refl _
    · exact h2 c q
theorem FL.one {α : Type} (f : α → Int) (x : α) : FL f [x] x := ⟨[], [], rfl, fun _ h => (nomatch h), fun _ h => (nomatch h)⟩
theorem FL.congr {α : Type} {f g : α → Int} {l : List α} {x : α} (h : FL f l x) (e : ∀ c ∈ l, f c = g c) : FL g l x := by
  obtain ⟨u, v, rfl, h1, h2⟩ := h
  have ex := e x (List.mem_append_right _ (List.mem_cons_self ..))
  refine ⟨u, v, rfl, fun c hc => ?_, fun c hc => ?_⟩
  · rw [← ex, ← e c (List.mem_append_left _ hc)]; exact h1 c hc
  · rw [← ex, ← e c (List.mem_append_right _ (List.mem_cons_of_mem _ hc))]; exact h2 c hc
theorem FL.map {α β : Type} {f : β → Int} {g : α → β} {l : List α} {x : α} (h : FL (fun a => f (g a)) l x) : FL f (l.map g) (g x) := by
  obtain ⟨u, v, rfl, h1, h2⟩ := h
  refine ⟨u.map g, v.map g, by rw [List.map_append, List.map_cons], fun c hc => ?_, fun c hc => ?_⟩
  · obtain ⟨a, ha, rfl⟩ := List.mem_map.mp hc
    exact h1 a ha
  · obtain ⟨a, ha, rfl⟩ := List.mem_map.mp hc
    exact h2 a ha
theorem FL.flat {α β : Type} {f : β → Int} {g : α → List β} {best : α → β} {L : List α} {b : α} (h : FL (fun a => f (best a)) L b) (hb : ∀ a ∈ L, FL f (g a) (best a)) : FL f (L.flatMap g) (best b) := by
  obtain ⟨U, V, rfl, h1, h2⟩ := h
  obtain ⟨u, v, e, k1, k2⟩ := hb b (List.mem_append_right _ (List.mem_cons_self ..))
  refine ⟨U.flatMap g ++ u, v ++ V.flatMap g, ?_, fun c hc => ?_, fun c hc => ?_⟩
  · rw [List.flatMap_append, List.flatMap_cons, e]
    simp only [List.append_assoc, List.cons_append]
  · rcases List.mem_append.mp hc with q | q
    · obtain ⟨a, ha, hca⟩ := List.mem_flatMap.mp q
      have e1 := (hb a (List.mem_append_left _ ha)).le c hca
      have e2 := h1 a ha
      exact Int.lt_of_lt_of_le e2 e1
    · exact k1 c q
  · rcases List.mem_append.mp hc with q | q
    · exact k2 c q
    · obtain ⟨a, ha, hca⟩ := List.mem_flatMap.mp q
      have e1 := (hb a (List.mem_append_right _ (List.mem_cons_of_mem _ ha))).le c hca
      have e2 := h2 a ha
      exact Int.le_trans e2 e1
theorem FL.at_ {α : Type} {f : α → Int} {l : List α} {i : Nat} {x : α} (hx : l[i]? = some x) (h : ∀ (j : Nat) y, l[j]? = some y → f x ≤ f y ∧ (j < i → f x < f y)) : FL f l x := by
  have hi : i < l.length := (List.getElem?_eq_some_iff.mp hx).1
  have ex : l[i] = x := (List.getElem?_eq_some_iff.mp hx).2
  refine ⟨l.take i, l.drop (i + 1), ?_, fun c hc => ?_, fun c hc => ?_⟩
  · rw [← ex, ← List.drop_eq_getElem_cons hi, List.take_append_drop]
  · obtain ⟨j, hj⟩ := List.mem_iff_getElem?.mp hc
    have hji : j < i := by
      have := (List.getElem?_eq_some_iff.mp hj).1
      rw [List.length_take] at this
      omega
    rw [List.getElem?_take_of_lt hji] at hj
    exact (h j c hj).2 hji
  · obtain ⟨j, hj⟩ := List.mem_iff_getElem?.mp hc
    rw [List.getElem?_drop] at hj
    exact (h _ c hj).1
theorem FL.first {α : Type} {f : α → Nat} {l : List α} {x : α} (h : FL (fun a => ((f a : Nat) : Int)) l x) : first f l = some x := by
  obtain ⟨u, v, rfl, h1, h2⟩ := h
  exact first_at f (fun c hc => by have q : ((f x : Nat) : Int) < ((f c : Nat) : Int) := h1 c hc; omega) (fun c hc => by have q : ((f x : Nat) : Int) ≤ ((f c : Nat) : Int) := h2 c hc; omega)
noncomputable def pairs (k left W : Nat) : List (List Nat × Nat) := (Km254.rows k left).flatMap fun r => (List.range W).map fun v => (r, v)
theorem pairs_one (left W : Nat) : pairs 1 left W = (List.range W).map fun v => ([left], v) := by
  unfold pairs
  rw [rows54_eq 1 left left (Nat.le_refl _)]
  show (Km255.rows [left] left).flatMap _ = _
  rw [rows55_one, if_pos (Nat.le_refl _)]
  show (_ : List (List Nat × Nat)) ++ [] = _
  rw [List.append_nil]
theorem pairs_succ (k left W : Nat) : pairs (k + 1) left W = (List.range (left + 1)).reverse.flatMap fun x => (pairs k (left - x) W).map fun p => (x :: p.1, p.2) := by
  unfold pairs
  simp only [Km254.rows]
  rw [List.flatMap_assoc]
  refine flatMap_congr' fun x _ => ?_
  rw [List.map_flatMap, List.flatMap_map]
  refine flatMap_congr' fun r _ => ?_
  rw [List.map_map]
  rfl
end Hw
end
section
set_option Elab.async false
namespace Hw
theorem FL.shift {α : Type} {f : α → Int} {l : List α} {x : α} (c : Int) (h : FL f l x) : FL (fun a => c + f a) l x := by
  obtain ⟨u, v, rfl, h1, h2⟩ := h
  exact ⟨u, v, rfl, fun a ha => Int.add_lt_add_left (h1 a ha) c, fun a ha => Int.add_le_add_left (h2 a ha) c⟩
noncomputable def allM (sums left : List Nat) : List Km255.Mating := Km255.Ask.all ⟨[], 0, 0, [], [], 0⟩ sums left
theorem allM_cons (s : Nat) (more left : List Nat) : allM (s :: more) left = (Km255.rows left s).flatMap fun r => (allM more (less55 left r)).map fun x => r :: x := rfl
theorem allM_nil (left : List Nat) : allM [] left = [[]] := rfl
theorem all_allM (a : Km255.Ask) : ∀ (sums left : List Nat), a.all sums left = allM sums left
  | [], left => rfl
  | s :: more, left => by
    rw [allM_cons, all55_cons]
    exact flatMap_congr' fun r _ => by rw [all_allM a more]
theorem range_getD {α : Type} (d : α) : ∀ (l : List α), (List.range l.length).map (fun i => l.getD i d) = l := fun l => by
  refine List.ext_getElem? fun i => ?_
  rw [List.getElem?_map]
  by_cases hi : i < l.length
  · rw [List.getElem?_range hi, List.getElem?_eq_getElem hi]
    show some (l.getD i d) = _
    rw [List.getD_eq_getElem?_getD, List.getElem?_eq_getElem hi]
    rfl
  · rw [List.getElem?_eq_none (by rw [List.length_range]; omega), List.getElem?_eq_none (by omega)]
    rfl
theorem flatMap_range {β : Type} (l : List (List Nat)) (g : List Nat → List β) : l.flatMap g = (List.range l.length).flatMap fun i => g (l.getD i []) := by
  have e := List.flatMap_map (f := fun i => l.getD i []) (g := g) (l := List.range l.length)
  rw [range_getD] at e
  exact e
noncomputable def code (m : Nat) (l : List Nat) : Nat := l.foldl (fun a x => a * 9 + x) m
theorem code_lt : ∀ (l : List Nat) (m M : Nat), m < M → (∀ x ∈ l, x ≤ 8) → code m l < M * 9 ^ l.length
  | [], m, M, h, _ => by
    show m < M * 9 ^ 0
    omega
  | x :: l, m, M, h, h8 => by
    have hx := h8 x (List.mem_cons_self ..)
    have ih := code_lt l (m * 9 + x) (M * 9) (by omega) fun y hy => h8 y (List.mem_cons_of_mem _ hy)
    show code (m * 9 + x) l < M * 9 ^ (l.length + 1)
    rw [Nat.pow_succ, Nat.mul_comm (9 ^ l.length) 9, ← Nat.mul_assoc]
    exact ih
theorem code_inj : ∀ (l l' : List Nat) (m m' : Nat), l.length = l'.length → (∀ x ∈ l, x ≤ 8) → (∀ x ∈ l', x ≤ 8) → code m l = code m' l' → m = m' ∧ l = l'
  | [], [], m, m', _, _, _, e => ⟨e, rfl⟩
  | x :: l, x' :: l', m, m', hl, h8, h8', e => by
    have hx := h8 x (List.mem_cons_self ..)
    have hx' := h8' x' (List.mem_cons_self ..)
    obtain ⟨e1, e2⟩ := code_inj l l' (m * 9 + x) (m' * 9 + x') (by simpa using hl) (fun y hy => h8 y (List.mem_cons_of_mem _ hy)) (fun y hy => h8' y (List.mem_cons_of_mem _ hy)) e
    exact ⟨by omega, by rw [e2]; congr 1; omega⟩
  | [], _ :: _, _, _, h, _, _, _ => by simp at h
  | _ :: _, [], _, _, h, _, _, _ => by simp at h
end Hw
end
section
set_option Elab.async false
namespace Hw
noncomputable def isum {α : Type} (l : List α) (f : α → Int) : Int := (l.map f).sum
theorem isum_nil {α : Type} (f : α → Int) : isum [] f = 0 := rfl
theorem isum_cons {α : Type} (x : α) (l : List α) (f : α → Int) : isum (x :: l) f = f x + isum l f := by
  unfold isum
  rw [List.map_cons, List.sum_cons]
theorem isum_append {α : Type} (l m : List α) (f : α → Int) : isum (l ++ m) f = isum l f + isum m f := by
  induction l with
  | nil => rw [List.nil_append, isum_nil]; omega
  | cons x l ih => rw [List.cons_append, isum_cons, isum_cons, ih]; omega
theorem isum_add {α : Type} (l : List α) (f g : α → Int) : isum l (fun x => f x + g x) = isum l f + isum l g := by
  induction l with
  | nil => rfl
  | cons x l ih => rw [isum_cons, isum_cons, isum_cons, ih]; omega
theorem isum_mul {α : Type} (l : List α) (c : Int) (f : α → Int) : isum l (fun x => c * f x) = c * isum l f := by
  induction l with
  | nil => rw [isum_nil, isum_nil, Int.mul_zero]
  | cons x l ih => rw [isum_cons, isum_cons, ih, Int.mul_add]
theorem isum_congr {α : Type} {l : List α} {f g : α → Int} (h : ∀ x ∈ l, f x = g x) : isum l f = isum l g := by
  unfold isum
  rw [List.map_congr_left h]
theorem isum_zero {α : Type} (l : List α) : isum l (fun _ => (0 : Int)) = 0 := by
  induction l with
  | nil => rfl
  | cons x l ih => rw [isum_cons, ih]; omega
theorem isum_comm {α β : Type} (l : List α) (m : List β) (f : α → β → Int) : isum l (fun x => isum m fun y => f x y) = isum m (fun y => isum l fun x => f x y) := by
  induction l with
  | nil => rw [isum_nil]; exact (isum_zero m).symm
  | cons x l ih =>
    rw [isum_cons, ih, ← isum_add]
    exact isum_congr fun y _ => by rw [isum_cons]
theorem range_zip {γ : Type} (F : Nat → Nat → γ) : ∀ (b c : List Nat), b.length = c.length → (List.range b.length).map (fun i => F (b.getD i 0) (c.getD i 0)) = (b.zip c).map fun p => F p.1 p.2
  | [], [], _ => rfl
  | x :: b, y :: c, h => by
    have ih := range_zip F b c (by simpa using h)
    rw [List.length_cons, List.range_succ_eq_map, List.map_cons, List.map_map, List.zip_cons_cons, List.map_cons]
    congr 1
  | [], _ :: _, h => by simp at h
  | _ :: _, [], h => by simp at h
theorem pad_range {α : Type} (d : α) {l : List α} {n : Nat} (h : l.length ≤ n) : l ++ List.replicate (n - l.length) d = (List.range n).map fun i => l.getD i d := by
  refine List.ext_getElem? fun i => ?_
  by_cases hi : i < n
  · rw [List.getElem?_map, List.getElem?_range hi]
    show _ = some (l.getD i d)
    rw [List.getD_eq_getElem?_getD]
    by_cases hl : i < l.length
    · rw [List.getElem?_append_left hl, List.getElem?_eq_getElem hl]
      rfl
    · rw [List.getElem?_append_right (by omega), List.getElem?_replicate, if_pos (by omega), List.getElem?_eq_none (by omega)]
      rfl
  · rw [List.getElem?_eq_none (by rw [List.length_append, List.length_replicate]; omega), List.getElem?_eq_none (by rw [List.length_map, List.length_range]; omega)]
theorem sorted_ext : ∀ (l m : List Nat), l.Pairwise (· < ·) → m.Pairwise (· < ·) → (∀ x, x ∈ l ↔ x ∈ m) → l = m
  | [], [], _, _, _ => rfl
  | [], y :: m, _, _, h => (nomatch (h y).mpr (List.mem_cons_self ..))
  | x :: l, [], _, _, h => (nomatch (h x).mp (List.mem_cons_self ..))
  | x :: l, y :: m, hl, hm, h => by
    obtain ⟨l1, l2⟩ := List.pairwise_cons.mp hl
    obtain ⟨m1, m2⟩ := List.pairwise_cons.mp hm
    have exy : x = y := by
      rcases List.mem_cons.mp ((h x).mp (List.mem_cons_self ..)) with q | q
      · exact q
      · rcases List.mem_cons.mp ((h y).mpr (List.mem_cons_self ..)) with q2 | q2
        · exact q2.symm
        · have := m1 x q
          have := l1 y q2
          omega
    subst exy
    rw [sorted_ext l m l2 m2 fun z => ⟨fun hz => ?_, fun hz => ?_⟩]
    · rcases List.mem_cons.mp ((h z).mp (List.mem_cons_of_mem _ hz)) with q | q
      · have := l1 z hz
        omega
      · exact q
    · rcases List.mem_cons.mp ((h z).mpr (List.mem_cons_of_mem _ hz)) with q | q
      · have := m1 z hz
        omega
      · exact q
open Km256
theorem nodup_pair_lt {l : List Nat} (h : l.Pairwise (· ≤ ·)) (hn : l.Nodup) : l.Pairwise (· < ·) := by
  induction l with
  | nil => exact List.Pairwise.nil
  | cons a l ih =>
    obtain ⟨h1, h2⟩ := List.pairwise_cons.mp h
    obtain ⟨n1, n2⟩ := List.nodup_cons.mp hn
    refine List.pairwise_cons.mpr ⟨fun b hb => ?_, ih h2 n2⟩
    have := h1 b hb
    have : a ≠ b := fun e => n1 (by rw [e]; exact hb)
    omega
theorem kind_sorted (a : Abs) (f : Bool) : (kind a f).Pairwise (· < ·) := (List.pairwise_lt_range.filter _).filter _
theorem kinds_perm (a : Abs) : (kind a false ++ kind a true).Perm (living a) := by
  unfold kind
  have gen : ∀ l : List Nat, ((l.filter fun i => (one a i).female == false) ++ (l.filter fun i => (one a i).female == true)).Perm l := by
    intro l
    induction l with
    | nil => exact List.Perm.refl _
    | cons x l ih =>
      rw [List.filter_cons, List.filter_cons]
      by_cases h : (one a x).female = true
      · rw [if_neg (by rw [h]; decide), if_pos (by rw [h]; rfl)]
        exact List.perm_middle.trans (ih.cons x)
      · have h' : (one a x).female = false := by simpa using h
        rw [if_pos (by rw [h']; rfl), if_neg (by rw [h']; decide)]
        exact ih.cons x
  exact gen _
theorem breeders_of (a : Abs) (f : Bool) {ks br : List Nat} (h1 : ks.Perm (kind a f)) (h2 : ks.Pairwise (fun x y => toHerd a x < toHerd a y ∨ (toHerd a x = toHerd a y ∧ x ≤ y))) (h3 : br.Perm (ks.take 4)) (h4 : br.Pairwise (· ≤ ·)) : br = breeders a f := by
  have kn : ks.Nodup := h1.nodup_iff.mpr (kind_nodup a f)
  have hs : ks.Pairwise fun x y => less a x y = true := by
    clear h1 h3
    induction ks with
    | nil => exact List.Pairwise.nil
    | cons x ks ih =>
      obtain ⟨p1, p2⟩ := List.pairwise_cons.mp h2
      obtain ⟨n1, n2⟩ := List.nodup_cons.mp kn
      refine List.pairwise_cons.mpr ⟨fun y hy => ?_, ih p2 n2⟩
      have hne : x ≠ y := fun e => n1 (by rw [e]; exact hy)
      have := p1 y hy
      unfold less
      simp only [Bool.or_eq_true, Bool.and_eq_true, decide_eq_true_eq, beq_iff_eq]
      omega
  have bn : br.Nodup := h3.nodup_iff.mpr (kn.sublist (List.take_sublist _ _))
  refine sorted_ext br (breeders a f) (nodup_pair_lt h4 bn) ?_ fun x => ?_
  · rw [breeders_eq]
    exact (kind_sorted a f).filter _
  · rw [breeders_eq, List.mem_filter, h3.mem_iff, decide_eq_true_eq, ← rank_perm (less a) h1 x, ← h1.mem_iff]
    have o := less_ord a ks
    constructor
    · intro hx
      obtain ⟨j, hj⟩ := List.mem_iff_getElem?.mp hx
      have hj4 : j < 4 := by
        have := (List.getElem?_eq_some_iff.mp hj).1
        rw [List.length_take] at this
        omega
      rw [List.getElem?_take_of_lt hj4] at hj
      have hlt := (List.getElem?_eq_some_iff.mp hj).1
      have e : ks = ks.take j ++ x :: ks.drop (j + 1) := by
        have ex : ks[j] = x := (List.getElem?_eq_some_iff.mp hj).2
        rw [← ex, ← List.drop_eq_getElem_cons hlt, List.take_append_drop]
      refine ⟨List.mem_of_getElem? hj, ?_⟩
      have r := rank_sorted (lt := less a) o.irr o.asym (u := ks.take j) (v := ks.drop (j + 1)) (x := x) (by rw [← e]; exact hs)
      rw [← e, List.length_take] at r
      rw [r]
      omega
    · rintro ⟨hx, hr⟩
      obtain ⟨j, hj⟩ := List.mem_iff_getElem?.mp hx
      have hlt := (List.getElem?_eq_some_iff.mp hj).1
      have e : ks = ks.take j ++ x :: ks.drop (j + 1) := by
        have ex : ks[j] = x := (List.getElem?_eq_some_iff.mp hj).2
        rw [← ex, ← List.drop_eq_getElem_cons hlt, List.take_append_drop]
      have r := rank_sorted (lt := less a) o.irr o.asym (u := ks.take j) (v := ks.drop (j + 1)) (x := x) (by rw [← e]; exact hs)
      rw [← e, List.length_take] at r
      have hj4 : j < 4 := by omega
      exact List.mem_of_getElem? (by rw [List.getElem?_take_of_lt hj4]; exact hj)
end Hw
end
section
set_option Elab.async false
set_option linter.all false
set_option maxRecDepth 100000
namespace L2
open PySem PySem.Spec PyProof.Rows
theorem spec_call {P : Program} {w : World} {K : PySem.W.Frag} {mg mb : Str → Option Value} {CX : CXT} {k : Nat} {fa a : Addr} {fd : FuncData} {x : Str} {sp : Sp} {s₁ : Shared} {vs : List Value} {ns out : List Int}
    (KX : K.In s₁.heap) (hns : s₁.heap.Ns mainGlobals mg) (hb : s₁.heap.Ns builtinsNs mb) (hbb : ∀ x : Str, x ≠ "__name__" → mb x = bootBuiltins x) (hlim : s₁.heap.NoLimit) (hg : s₁.gens = #[])
    (ha : s₁.heap.get? a = some { cls := .type "list", data := .seq vs.toArray }) (hi : IntsAre vs ns) (hl : ns.length ≤ sizeLine) (hr : Room k callerA)
    (F : ∀ base : Heap, K.In base → base.Ns mainGlobals mg → FnOk P w K mg base CX k fa fd [x] sp) (hbind : ∀ (s : Shared) (u : Value), BindsTo s fd ⟨[u], []⟩ [(x, u)])
    (hsp : ∀ H : Hp, Only H → SqL K H a (ns.map V.int) → sp [.ref a] H (fun v H' => ∃ b, v = .ref b ∧ H' b = some (.lst (out.map V.int))) fun _ _ _ => False)
    (hCX : ∀ H e s', CX [] H s₁ (fun _ _ _ => False) e s' → False) :
    codeAny (model P w) callerA (.call (.ref fa) ⟨[.ref a], []⟩) (fun r s' => (∃ (b : Addr) (us : List Value) (n : Nat), r = .ok (.ret (.ref b)) ∧ s'.heap.get? b = some { cls := .type "list", data := .seq us.toArray n } ∧ IntsAre us out) ∧
      OldK s₁.heap s'.heap ∧ s'.os = s₁.os ∧ AllBare s'.gens) s₁ := by
  have rv := vals_ints hi
  have lenV := hi.length
  have core : ∀ H : Hp, Only H → SqL K H a (ns.map V.int) → HOk P w H s₁.heap → (∀ b, H b ≠ none → b = a) → (H a ≠ none → K.lookup a = none) →
      codeAny (model P w) callerA (.call (.ref fa) ⟨[.ref a], []⟩) (fun r s' => (∃ (b : Addr) (us : List Value) (n : Nat), r = .ok (.ret (.ref b)) ∧ s'.heap.get? b = some { cls := .type "list", data := .seq us.toArray n } ∧ IntsAre us out) ∧
      OldK s₁.heap s'.heap ∧ s'.os = s₁.os ∧ AllBare s'.gens) s₁ := by
    intro H hO hS hok hA hK
    have base_of : ∀ {b : Addr} {o : Obj}, s₁.heap.get? b = some o → H b = none → (hidT s₁.heap H).get? b = some o := fun e n => hidT_get e n
    have noA : ∀ {b : Addr} {o : Obj} {es : Array DictEntry} {ep : Nat}, s₁.heap.get? b = some o → o.data = .dict es ep → H b = none := fun {b o es ep} e d => by
      cases q : H b with
      | none => rfl
      | some u =>
        have e' : b = a := hA b (by rw [q]; simp)
        subst e'
        rw [ha] at e; cases e
        have d' : Data.seq vs.toArray _ = Data.dict es ep := d
        cases d'
    have nsK : ∀ {b : Addr} {m : Str → Option Value}, s₁.heap.Ns b m → (hidT s₁.heap H).Ns b m := fun {b m} ⟨o, es, ep, e, d, r⟩ => ⟨o, es, ep, base_of e (noA e d), d, r⟩
    have hKb : K.In (hidT s₁.heap H) := fun b o e => base_of (KX b o e) (by
      cases q : H b with
      | none => rfl
      | some u =>
        have e' : b = a := hA b (by rw [q]; simp)
        subst e'
        rw [hK (by rw [q]; simp)] at e; cases e)
    have hM : Mod K mg (hidT s₁.heap H) := ⟨hKb, nsK hns, ⟨mb, nsK hb, hbb⟩, let ⟨mc, h1, h2⟩ := hlim; ⟨mc, nsK h1, h2⟩⟩
    have e0 : Env0 P w K mg (hidT s₁.heap H) callerA [] s₁ H := ⟨rfl, hM, fun b o e => of_hidT e, Nat.le_of_eq (hidT_size _ _), trivial, fun b hb => absurd (show b ∈ ([] : List Addr) from hb) (by simp), hok, .of_eq hg⟩
    refine codeAny_mono ((F _ hKb (nsK hns)).run callerA [] s₁ H ⟨[.ref a], []⟩ [.ref a] [.ref a] _ _ hr e0 (hbind s₁ (.ref a)) (.cons rfl .nil) (hsp H hO hS)) fun r s' h => ?_
    cases r with
    | error e => exact (hCX H e s' h).elim
    | ok fl =>
      cases fl with
      | next => exact False.elim h
      | brk => exact False.elim h
      | cont => exact False.elim h
      | ret u =>
        obtain ⟨v, H', os, bare, un, hok', r', q⟩ := h
        obtain ⟨b, rfl, hb'⟩ := q
        obtain rfl : u = Value.ref b := r'
        obtain ⟨_, its, n, hv, hget⟩ := hok' b _ hb'
        refine ⟨⟨b, its, n, rfl, hget, Vals.ints hv⟩, OldK.of_keep fun b o e => ?_, os, bare⟩
        cases q : H b with
        | none => exact un.keep b o e q (by intro z; exact absurd (show b ∈ ([] : List Addr) from z) (by simp)) (by simp)
        | some u =>
          rcases hO b with z | ⟨ob, xs, z⟩
          · rw [q] at z; cases z
          · have z2 := un.frzs b ob _ z
            obtain ⟨e1, _⟩ := hok b _ z
            obtain ⟨e2, _⟩ := hok' b _ z2
            rw [e] at e1; cases e1
            exact e2
  cases hk : K.lookup a with
  | some o =>
    have e := KX a o hk
    rw [ha] at e
    cases e
    refine core (fun _ => none) (fun _ => .inl rfl) (.inr ⟨_, vs.toArray, _, hk, rfl, rfl, rfl, by rw [List.size_toArray, lenV]; exact hl, by simpa using rv⟩) (fun b u z => by have z' : (none : Option HO) = some u := z; cases z') (fun b z => absurd rfl z) fun z => absurd rfl z
  | none =>
    refine core (fun b => if b = a then some (.frz { cls := .type "list", data := .seq vs.toArray } (.lst (ns.map V.int))) else none) (fun b => ?_) (.inl (.inr ⟨{ cls := .type "list", data := .seq vs.toArray }, if_pos rfl⟩)) (fun b u z => ?_) (fun b z => ?_) fun _ => hk
    · by_cases hb : b = a
      · exact .inr ⟨_, _, if_pos hb⟩
      · exact .inl (if_neg hb)
    · by_cases hb : b = a
      · have z' := (if_pos hb).symm.trans z
        cases z'
        subst hb
        exact ⟨ha, by rw [List.length_map]; exact hl, vs, _, rv, ha⟩
      · have z' := (if_neg hb).symm.trans z
        cases z'
    · by_cases hb : b = a
      · exact hb
      · exact absurd (if_neg hb) z
theorem spec_arg {prog : Program} {name : Str} {least most : Nat} {lo hi : Int} {ret : PySem.W.Codec} {asked : List Int → Bool} {f : List Int → ret.denote} {P : Params} {h : Heap} {args : List PySem.W.WData} {vals : List Value}
    (hpre : (PySem.W.OpenSpec.mk prog name [.list least most (.int lo hi)] ret asked f).pre args = true) (hwl : PySem.W.WellAll P h vals args) :
    ∃ (a : Addr) (vs : List Value) (ns : List Int), vals = [Value.ref a] ∧ args = [PySem.W.WData.list (ns.map PySem.W.WData.int)] ∧ h.get? a = some { cls := .type "list", data := .seq vs.toArray } ∧ IntsAre vs ns ∧
      ns.length ≤ most ∧ (∀ z ∈ ns, lo ≤ z ∧ z ≤ hi) ∧ asked ns = true ∧ PySem.W.Codec.decAll [.list least most (.int lo hi)] args = some (ns, ()) := by
  obtain ⟨⟨ns, u⟩, hd, hask⟩ := PySem.W.os_pre_some hpre
  obtain ⟨e, hw⟩ := PySem.W.Codec.encAll_of_decAll [.list least most (.int lo hi)] args (ns, u) hd
  have e' : args = [PySem.W.WData.list (ns.map PySem.W.WData.int)] := e
  subst e'
  have hw' : (PySem.W.Codec.inLen least most ns && ns.all (PySem.W.Codec.inInt lo hi) && true) = true := hw
  simp only [Bool.and_eq_true] at hw'
  obtain ⟨⟨h1, h2⟩, _⟩ := hw'
  have h1' : (decide (least ≤ ns.length) && decide (ns.length ≤ most)) = true := h1
  simp only [Bool.and_eq_true, decide_eq_true_eq] at h1'
  cases hwl with
  | cons w1 w2 =>
    cases w2
    cases w1 with
    | list ho hall =>
      refine ⟨_, _, ns, rfl, rfl, ho, Att.ints_of_wellAll ns _ hall, h1'.2, fun z hz => ?_, hask, hd⟩
      have q : (decide (lo ≤ z) && decide (z ≤ hi)) = true := List.all_eq_true.mp h2 z hz
      simp only [Bool.and_eq_true, decide_eq_true_eq] at q
      exact q
theorem walkS_of {prog : Program} {name : Str} {least most l2 m2 : Nat} {lo hi lo2 hi2 : Int} {asked : List Int → Bool} {f : List Int → List Int} {k : Nat} {q : Program} {loose : List Str} {XP : (Str → Option Value) → Heap → Prop}
    {YP : World → Heap → Prop} {d : DefRec} {K : Params → PySem.W.Frag} {sp : PySem.W.Frag → Sp} {x : Str}
    (hn2 : most ≤ sizeLine) (hr : Room k callerA)
    (hY : ∀ (w : World) (h : Heap), YP w h → (K w.params).In h)
    (F : ∀ (w : World) (mg : Str → Option Value) (fa : Addr) (h : Heap), (K w.params).In h → h.Ns mainGlobals mg → mg d.name = some (.ref fa) →
      ∃ fd : FuncData, (∀ (s : Shared) (u : Value), BindsTo s fd ⟨[u], []⟩ [(x, u)]) ∧
        ∀ base : Heap, (K w.params).In base → base.Ns mainGlobals mg → FnOk prog w (K w.params) mg base CX0 k fa fd [x] (sp (K w.params)))
    (hsp : ∀ (K : PySem.W.Frag) (H : Hp) (a : Addr) (ns : List Int), ns.length ≤ most → (∀ z ∈ ns, lo ≤ z ∧ z ≤ hi) → asked ns = true → SqL K H a (ns.map V.int) →
      sp K [.ref a] H (fun v H' => ∃ b, v = .ref b ∧ H' b = some (.lst ((f ns).map V.int))) fun _ _ _ => False) :
    PySem.W.WalkOS q loose XP YP (PySem.W.OpenSpec.mk prog name [.list least most (.int lo hi)] (.list l2 m2 (.int lo2 hi2)) asked f) d [] (fun f vs => PySem.call f vs) := by
  intro w s₀ s₁ mg mb G Y fa o pm cd doc dV kV ho hd hcd hD hmg hg args vals as hpre hlay hrd hwl hlo
  obtain ⟨a, vs, ns, rfl, rfl, hobj, hints, hlen, hbd, hask, hdec⟩ := spec_arg hpre hwl
  have KX := hY w _ Y
  obtain ⟨fd, hb, hF⟩ := F w mg fa _ KX G.T.g hmg
  refine PySem.W.enter_call (codeAny_mono (spec_call (out := f ns) KX G.T.g G.T.b G.T.builtins G.T.nolimit hg hobj hints (Nat.le_trans hlen hn2) hr hF hb (fun H hO hS => hsp _ H a ns hlen hbd hask hS) fun H e s' z => z) fun r s' hq => ?_)
  obtain ⟨⟨b, us, n, rfl, hget, hus⟩, h2, h3, h4⟩ := hq
  refine ⟨.inl ⟨.ref b, _, _, rfl, fun _ => rfl, PySem.W.readsW_ints hget (by simpa using hus), ?_, fun q => by cases q⟩, h2, h3, h4⟩
  exact PySem.W.os_post hdec (PySem.W.os_same_ints rfl)
end L2
end
section
set_option Elab.async false
set_option linter.all false
set_option maxRecDepth 100000
namespace L2
open PySem PySem.Spec PyProof.Rows
noncomputable def HSq (q : Bool) (h : Heap) (a : Addr) (its : Array Value) : Prop := if q = true then h.IsTuple a its else h.IsList a its
noncomputable def HIt (q : Bool) (h : Heap) (it a : Addr) (i : Nat) : Prop := if q = true then h.IsTupleIter it a i else h.IsListIter it a i
noncomputable def itCls (q : Bool) : String := if q = true then "tuple_iterator" else "list_iterator"
noncomputable def itObj (q : Bool) (a : Addr) : Obj := { cls := .type (itCls q), data := .fields #[.ref a, .int 0 0] }
theorem HSq.to {q : Bool} {h h' : Heap} {a : Addr} {its : Array Value} (x : HSq q h a its) (k : ∀ o, h.get? a = some o → h'.get? a = some o) : HSq q h' a its := by
  cases q
  · obtain ⟨o, e, r⟩ := x
    exact ⟨o, k o e, r⟩
  · obtain ⟨o, e, r⟩ := x
    exact ⟨o, k o e, r⟩
theorem HIt.to {q : Bool} {h h' : Heap} {it a : Addr} {i : Nat} (x : HIt q h it a i) (k : ∀ o, h.get? it = some o → h'.get? it = some o) : HIt q h' it a i := by
  cases q
  · obtain ⟨o, e, r⟩ := x
    exact ⟨o, k o e, r⟩
  · obtain ⟨o, e, r⟩ := x
    exact ⟨o, k o e, r⟩
theorem HSq.there {q : Bool} {h : Heap} {a : Addr} {its : Array Value} (x : HSq q h a its) : ∃ o, h.get? a = some o := by
  cases q
  · obtain ⟨o, e, _⟩ := x; exact ⟨o, e⟩
  · obtain ⟨o, e, _⟩ := x; exact ⟨o, e⟩
theorem HIt.there {q : Bool} {h : Heap} {it a : Addr} {i : Nat} (x : HIt q h it a i) : ∃ o, h.get? it = some o ∧ o.data = .fields #[.ref a, .int i 0] := by
  cases q
  · obtain ⟨o, e, _, d⟩ := x; exact ⟨o, e, d⟩
  · obtain ⟨o, e, _, d⟩ := x; exact ⟨o, e, d⟩
section
variable {prog : Program} {w : World} {A : Around} {E : Value → Shared → Prop} {s : Shared}
theorem HSq.iter {q : Bool} {a : Addr} {its : Array Value} {Q : Value → Shared → Prop} (x : HSq q s.heap a its) (h : Q (.ref s.heap.objs.size) { s with heap := s.heap.push (itObj q a) }) : wpAny (model prog w) A (pyIter (.ref a)) Q E s := by
  cases q
  · exact wpAny_pyIter_list (show s.heap.IsList a its from x) h
  · exact wpAny_pyIter_tuple (show s.heap.IsTuple a its from x) h
theorem nextOf_tup {it a : Addr} {i : Nat} {its : Array Value} {x : Value} {Q : Value → Shared → Prop} (st : s.heap.IsTupleIter it a i) (ht : s.heap.IsTuple a its) (hx : its[i]? = some x)
    (h : ∀ h', h'.IsTupleIter it a (i + 1) → Heap.SameBut it s.heap h' → Q x { s with heap := h' }) : wpAny (model prog w) A (Builtin.SmallTypes.nextOf (.ref it)) Q E s := by
  have hT := st.typeIs
  obtain ⟨o, e, c, d⟩ := st
  obtain ⟨ot, et, _, n, dt⟩ := ht
  unfold Builtin.SmallTypes.nextOf
  refine wpAny_bind (wpAny_callSpecial?_slot (name := Str.ofString "__next__") hT F.slot_tuple_iterator_next (wpAny_call_entry F.slot_tuple_iterator_next hT F.entry_tuple_iterator_next (?_ : wpAny (model prog w) _ (field (.ref it) 0 >>= _) _ _ s) (F.args_tuple_iterator_next_1 _)))
  refine wpAny_bind (wpAny_field e d (x := .ref a) rfl (?_ : wpAny (model prog w) _ (if (Value.ref a == Value.none) = true then _ else _) _ _ s))
  rw [if_neg (show ¬ ((Value.ref a == Value.none) = true) from Bool.false_ne_true)]
  refine wpAny_bind (m := field (.ref it) 1) (wpAny_field e d (x := .int i 0) rfl (wpAny_bind (m := seqItems? (.ref a)) (wpAny_seqItems et dt ?_)))
  simp only [Int.toNat_natCast, hx]
  refine wpAny_bind (wpAny_setField e d (by simp) (wpAny_pure ⟨x, rfl, wpAny_pure (h _ ⟨_, Heap.get?_update_self _ e (Obj.isFreed_of_fields (Obj.data_mapFields d _)), (Obj.cls_mapFields ..).trans c, ?_⟩ (Heap.SameBut.update ..))⟩))
  rw [Obj.data_mapFields d]
  simp [rawInt]
theorem nextOf_tupEnd {it a : Addr} {i : Nat} {its : Array Value} {Q : Value → Shared → Prop} (hh : A.handled = none) (st : s.heap.IsTupleIter it a i) (ht : s.heap.IsTuple a its) (hx : its[i]? = none)
    (h : ∀ h' e, Heap.ExtBut it s.heap h' → (∃ o, h'.get? e = some o ∧ o.cls = .type "StopIteration") → E (.ref e) { s with heap := h' }) : wpAny (model prog w) A (Builtin.SmallTypes.nextOf (.ref it)) Q E s := by
  have hT := st.typeIs
  obtain ⟨o, e, c, d⟩ := st
  obtain ⟨ot, et, _, n, dt⟩ := ht
  unfold Builtin.SmallTypes.nextOf
  refine wpAny_bind (wpAny_callSpecial?_slot (name := Str.ofString "__next__") hT F.slot_tuple_iterator_next (wpAny_call_entry F.slot_tuple_iterator_next hT F.entry_tuple_iterator_next (?_ : wpAny (model prog w) _ (field (.ref it) 0 >>= _) _ _ s) (F.args_tuple_iterator_next_1 _)))
  refine wpAny_bind (wpAny_field e d (x := .ref a) rfl (?_ : wpAny (model prog w) _ (if (Value.ref a == Value.none) = true then _ else _) _ _ s))
  rw [if_neg (show ¬ ((Value.ref a == Value.none) = true) from Bool.false_ne_true)]
  refine wpAny_bind (m := field (.ref it) 1) (wpAny_field e d (x := .int i 0) rfl (wpAny_bind (m := seqItems? (.ref a)) (wpAny_seqItems et dt ?_)))
  simp only [Int.toNat_natCast, hx]
  refine wpAny_bind (wpAny_rule (wpAny_bind (wpAny_setField e d (by simp) (wpAny_bind (m := newExc (.type "StopIteration") []) ?_))))
  simp only [newExc, newTuple]
  refine wpAny_bind (wpAny_newObj_type (wpAny_bind (m := firstArgMember _ _) (wpAny_of_eq (a := Value.none) (by first | rfl | (simp only [firstArgMember]; rfl)) (wpAny_newObj_type ?_ (by size_fits)))) (by size_fits))
  simp only [raiseNew]
  refine wpAny_bind (wpAny_handled ?_)
  first | rw [show A.in1.handled = none from hh] | rw [hh]
  exact wpAny_bind (wpAny_pure (wpAny_throw (h _ _ (((Heap.SameBut.update ..).extBut.push _).push _) ⟨_, Heap.get?_push_size _ rfl, rfl⟩)))
theorem HIt.next {q : Bool} {it a : Addr} {i : Nat} {its : Array Value} {x : Value} {Q : Value → Shared → Prop} (st : HIt q s.heap it a i) (ht : HSq q s.heap a its) (hx : its[i]? = some x)
    (h : ∀ h', HIt q h' it a (i + 1) → Heap.SameBut it s.heap h' → Q x { s with heap := h' }) : wpAny (model prog w) A (Builtin.SmallTypes.nextOf (.ref it)) Q E s := by
  cases q
  · exact wpAny_nextOf_list_item (show s.heap.IsListIter it a i from st) (show s.heap.IsList a its from ht) hx h
  · exact nextOf_tup (show s.heap.IsTupleIter it a i from st) (show s.heap.IsTuple a its from ht) hx h
theorem HIt.stop {q : Bool} {it a : Addr} {i : Nat} {its : Array Value} {Q : Value → Shared → Prop} (hh : A.handled = none) (st : HIt q s.heap it a i) (ht : HSq q s.heap a its) (hx : its[i]? = none)
    (h : ∀ h' e, Heap.ExtBut it s.heap h' → (∃ o, h'.get? e = some o ∧ o.cls = .type "StopIteration") → E (.ref e) { s with heap := h' }) : wpAny (model prog w) A (Builtin.SmallTypes.nextOf (.ref it)) Q E s := by
  cases q
  · exact wpAny_nextOf_list_end hh (show s.heap.IsListIter it a i from st) (show s.heap.IsList a its from ht) hx h
  · exact nextOf_tupEnd hh (show s.heap.IsTupleIter it a i from st) (show s.heap.IsTuple a its from ht) hx h
end
structure Zp (h : Heap) (z TI TO i1 i2 : Addr) (f0 : Value) : Prop where
  z : IsZip h z TI TO f0
  ti : IsPair h TI (.ref i1) (.ref i2)
  to : ∃ u v, IsPair h TO u v
theorem zip_nx {prog : Program} {w : World} {A : Around} {E : Value → Shared → Prop} {s : Shared} {q1 q2 : Bool} {z TI TO i1 i2 a b : Addr} {i : Nat} {xs ys : Array Value} {x y : Value} {Q : Option Value → Shared → Prop} (D : ZipApart z TI TO i1 i2 a b)
    (Z : Zp s.heap z TI TO i1 i2 .none) (t1 : HIt q1 s.heap i1 a i) (t2 : HIt q2 s.heap i2 b i) (l1 : HSq q1 s.heap a xs) (l2 : HSq q2 s.heap b ys) (hx : xs[i]? = some x) (hy : ys[i]? = some y)
    (k : ∀ h', Zp h' z TI TO i1 i2 (rawInt s.heap.objs.size) → HIt q1 h' i1 a (i + 1) → HIt q2 h' i2 b (i + 1) → IsPair h' s.heap.objs.size x y →
      (∀ c o, c ≠ z → c ≠ TO → c ≠ i1 → c ≠ i2 → s.heap.get? c = some o → h'.get? c = some o) → Q (some (.ref s.heap.objs.size)) { s with heap := h' }) : wpAny (model prog w) A (pyNext (.ref z)) Q E s := by
  obtain ⟨hz, hTI, u, v, hTO⟩ := Z
  have hT : s.TypeIs (.ref z) "zip" := ⟨_, hz, rfl⟩
  unfold pyNext
  refine wpAny_bind (wpAny_attempt (wpAny_callSpecial?_slot (name := Str.ofString "__next__") hT F.slot_zip_next (wpAny_call_entry F.slot_zip_next hT F.entry_zip_next (?_ : wpAny (model prog w) _ (field (.ref z) 2 >>= _) _ _ s) (F.args_zip_next_1 _))))
  refine wpAny_bind (wpAny_field hz rfl (x := .bool false) rfl (wpAny_bind (m := field (.ref z) 3) (wpAny_field hz rfl (x := .ref TI) rfl (wpAny_bind (wpAny_seqItems hTI rfl (wpAny_bind (m := Builtin.SmallTypes.ownedTupleIsFree (.ref z)) ?_))))))
  unfold Builtin.SmallTypes.ownedTupleIsFree
  refine wpAny_bind (wpAny_field hz rfl (x := .none) rfl (wpAny_pure ?_))
  simp only [if_true]
  refine wpAny_bind (wpAny_rule (wpAny_bind (wpAny_field hz rfl (x := .ref TO) rfl (wpAny_bind (wpAny_setField_rec hz (by simp) fun g1 z1 s1 => wpAny_bind ?_)))))
  have z1 : IsZip g1 z TI TO .ellipsis := z1
  simp only [List.zipIdx_cons, List.zipIdx_nil, List.forIn_cons, List.forIn_nil]
  refine wpAny_bind (wpAny_bind (wpAny_onRaise (wpAny_bind (m := Builtin.SmallTypes.nextOf (.ref i1)) (HIt.next (t1.to fun o e => s1.extBut _ o D.i1z e) (l1.to fun o e => s1.extBut _ o D.l1z e) hx fun g2 t12 s2 => wpAny_pure ?_))))
  have o2 : IsPair g2 TO u v := s2.extBut _ _ D.TOi1 (s1.extBut _ _ D.TOz hTO)
  refine wpAny_bind (wpAny_seqItems o2 rfl (wpAny_bind (wpAny_updateSeq_pair o2 fun g3 o3 s3 => wpAny_bind (wpAny_letGo (wpAny_pure ?_)))))
  have o3 : IsPair g3 TO x v := o3
  refine wpAny_bind (wpAny_bind (wpAny_onRaise (wpAny_bind (m := Builtin.SmallTypes.nextOf (.ref i2)) (HIt.next (t2.to fun o e => s3.extBut _ o D.TOi2.symm (s2.extBut _ o D.i12.symm (s1.extBut _ o D.i2z e)))
    (l2.to fun o e => s3.extBut _ o D.l2TO (s2.extBut _ o D.l2i1 (s1.extBut _ o D.l2z e))) hy fun g4 t24 s4 => wpAny_pure ?_))))
  have o4 : IsPair g4 TO x v := s4.extBut _ _ D.TOi2 o3
  refine wpAny_bind (wpAny_seqItems o4 rfl (wpAny_bind (wpAny_updateSeq_pair o4 fun g5 o5 s5 => wpAny_bind (wpAny_letGo (wpAny_pure (wpAny_pure ?_))))))
  have o5 : IsPair g5 TO x y := o5
  refine wpAny_bind (wpAny_seqItems o5 rfl (wpAny_bind (wpAny_newTuple (wpAny_bind (m := Builtin.SmallTypes.ownedTupleHandOut (.ref z) (.ref g5.objs.size)) ?_))))
  have sz : g5.objs.size = s.heap.objs.size := by rw [s5.1, s4.1, s3.1, s2.1, s1.1]
  have z5 : IsZip g5 z TI TO .ellipsis := s5.extBut _ _ D.TOz.symm (s4.extBut _ _ D.i2z.symm (s3.extBut _ _ D.TOz.symm (s2.extBut _ _ D.i1z.symm z1)))
  have k5 : ∀ c o, c ≠ z → c ≠ TO → c ≠ i1 → c ≠ i2 → s.heap.get? c = some o → g5.get? c = some o := fun c o n1 n2 n3 n4 e => s5.extBut _ _ n2 (s4.extBut _ _ n4 (s3.extBut _ _ n2 (s2.extBut _ _ n3 (s1.extBut _ _ n1 e))))
  have t15 : HIt q1 g5 i1 a (i + 1) := t12.to fun o e => s5.extBut _ o D.TOi1.symm (s4.extBut _ o D.i12 (s3.extBut _ o D.TOi1.symm e))
  have t25 : HIt q2 g5 i2 b (i + 1) := t24.to fun o e => s5.extBut _ o D.TOi2.symm e
  have lz : z < g5.objs.size := Heap.lt_size z5
  unfold Builtin.SmallTypes.ownedTupleHandOut
  have z6 : IsZip (g5.push { cls := .type "tuple", data := .seq #[x, y] }) z TI TO .ellipsis := Heap.get?_push_of_some _ z5
  refine wpAny_bind (wpAny_setField_rec z6 (by simp) fun g7 z7 s7 => ?_)
  have z7 : IsZip g7 z TI TO (rawInt g5.objs.size) := z7
  refine wpAny_setField_rec z7 (by simp) fun g8 z8 s8 => wpAny_pure ⟨_, rfl, wpAny_pure ?_⟩
  have z8 : IsZip g8 z TI TO (rawInt g5.objs.size) := z8
  have up : ∀ c o, c ≠ z → g5.get? c = some o → g8.get? c = some o := fun c o n e => s8.extBut _ _ n (s7.extBut _ _ n (Heap.get?_push_of_some _ e))
  have p8 : IsPair g8 g5.objs.size x y := s8.extBut _ _ (Nat.ne_of_gt lz) (s7.extBut _ _ (Nat.ne_of_gt lz) (Heap.get?_push_size _ rfl))
  rw [sz] at z8 p8
  show Q (some (.ref g5.objs.size)) _
  rw [sz]
  exact k g8 ⟨z8, up _ _ D.TIz (k5 _ _ D.TIz D.TITO D.TIi1 D.TIi2 hTI), x, y, up _ _ D.TOz o5⟩ (t15.to fun o e => up _ o D.i1z e) (t25.to fun o e => up _ o D.i2z e) p8 fun c o n1 n2 n3 n4 e => up c o n1 (k5 c o n1 n2 n3 n4 e)
theorem zip_dn {prog : Program} {w : World} {A : Around} {E : Value → Shared → Prop} {s : Shared} {q1 q2 : Bool} {z TI TO i1 i2 a b : Addr} {i : Nat} {xs ys : Array Value} {Q : Option Value → Shared → Prop} (hh : A.handled = none) (D : ZipApart z TI TO i1 i2 a b)
    (Z : Zp s.heap z TI TO i1 i2 .none) (t1 : HIt q1 s.heap i1 a i) (t2 : HIt q2 s.heap i2 b i) (l1 : HSq q1 s.heap a xs) (l2 : HSq q2 s.heap b ys) (hend : xs[i]? = none ∨ ys[i]? = none)
    (k : ∀ h', (∀ c o, c ≠ z → c ≠ TO → c ≠ i1 → c ≠ i2 → s.heap.get? c = some o → h'.get? c = some o) → Q none { s with heap := h' }) : wpAny (model prog w) A (pyNext (.ref z)) Q E s := by
  obtain ⟨hz, hTI, u, v, hTO⟩ := Z
  have hT : s.TypeIs (.ref z) "zip" := ⟨_, hz, rfl⟩
  unfold pyNext
  refine wpAny_bind (wpAny_attempt (wpAny_callSpecial?_slot (name := Str.ofString "__next__") hT F.slot_zip_next (wpAny_call_entry F.slot_zip_next hT F.entry_zip_next (?_ : wpAny (model prog w) _ (field (.ref z) 2 >>= _) _ _ s) (F.args_zip_next_1 _))))
  refine wpAny_bind (wpAny_field hz rfl (x := .bool false) rfl (wpAny_bind (m := field (.ref z) 3) (wpAny_field hz rfl (x := .ref TI) rfl (wpAny_bind (wpAny_seqItems hTI rfl (wpAny_bind (m := Builtin.SmallTypes.ownedTupleIsFree (.ref z)) ?_))))))
  unfold Builtin.SmallTypes.ownedTupleIsFree
  refine wpAny_bind (wpAny_field hz rfl (x := .none) rfl (wpAny_pure ?_))
  simp only [if_true]
  refine wpAny_bind (wpAny_rule (wpAny_bind (wpAny_field hz rfl (x := .ref TO) rfl (wpAny_bind (wpAny_setField_rec hz (by simp) fun g1 z1 s1 => wpAny_bind ?_)))))
  have z1 : IsZip g1 z TI TO .ellipsis := z1
  simp only [List.zipIdx_cons, List.zipIdx_nil, List.forIn_cons, List.forIn_nil]
  refine wpAny_bind (wpAny_bind (wpAny_onRaise (wpAny_bind (m := Builtin.SmallTypes.nextOf (.ref i1)) ?_)))
  cases hx : xs[i]? with
  | none =>
    refine HIt.stop hh (t1.to fun o e => s1.extBut _ o D.i1z e) (l1.to fun o e => s1.extBut _ o D.l1z e) hx fun g2 e s2 he => ?_
    obtain ⟨oe, e1, e2⟩ := he
    have z2 : IsZip g2 z TI TO .ellipsis := s2 _ _ D.i1z.symm z1
    have nez : e ≠ z := fun q => by subst q; rw [z2] at e1; cases e1; simp at e2
    refine wpAny_setField_rec z2 (by simp) fun g3 _ s3 => wpAny_bind (wpAny_isInstance (T := "StopIteration") (b := true) ⟨oe, s3.extBut _ _ nez e1, e2⟩ isSubtype_stop (wpAny_pure (k _ fun c o n1 _ n3 _ q => ?_)))
    exact s3.extBut _ _ n1 (s2 _ _ n3 (s1.extBut _ _ n1 q))
  | some x =>
    have hy : ys[i]? = none := by
      rcases hend with q | q
      · rw [hx] at q; cases q
      · exact q
    refine HIt.next (t1.to fun o e => s1.extBut _ o D.i1z e) (l1.to fun o e => s1.extBut _ o D.l1z e) hx fun g2 t12 s2 => wpAny_pure ?_
    have o2 : IsPair g2 TO u v := s2.extBut _ _ D.TOi1 (s1.extBut _ _ D.TOz hTO)
    refine wpAny_bind (wpAny_seqItems o2 rfl (wpAny_bind (wpAny_updateSeq_pair o2 fun g3 o3 s3 => wpAny_bind (wpAny_letGo (wpAny_pure ?_)))))
    refine wpAny_bind (wpAny_bind (wpAny_onRaise (wpAny_bind (m := Builtin.SmallTypes.nextOf (.ref i2)) (HIt.stop hh (t2.to fun o e => s3.extBut _ o D.TOi2.symm (s2.extBut _ o D.i12.symm (s1.extBut _ o D.i2z e)))
      (l2.to fun o e => s3.extBut _ o D.l2TO (s2.extBut _ o D.l2i1 (s1.extBut _ o D.l2z e))) hy fun g4 e s4 he => ?_))))
    obtain ⟨oe, e1, e2⟩ := he
    have z4 : IsZip g4 z TI TO .ellipsis := s4 _ _ D.i2z.symm (s3.extBut _ _ D.TOz.symm (s2.extBut _ _ D.i1z.symm z1))
    have nez : e ≠ z := fun q => by subst q; rw [z4] at e1; cases e1; simp at e2
    refine wpAny_setField_rec z4 (by simp) fun g5 _ s5 => wpAny_bind (wpAny_isInstance (T := "StopIteration") (b := true) ⟨oe, s5.extBut _ _ nez e1, e2⟩ isSubtype_stop (wpAny_pure (k _ fun c o n1 n2 n3 n4 q => ?_)))
    exact s5.extBut _ _ n1 (s4 _ _ n4 (s3.extBut _ _ n2 (s2.extBut _ _ n3 (s1.extBut _ _ n1 q))))
noncomputable abbrev zg1 (h : Heap) (q1 : Bool) (a : Addr) : Heap := h.push (itObj q1 a)
noncomputable abbrev zg2 (h : Heap) (q1 q2 : Bool) (a b : Addr) : Heap := (zg1 h q1 a).push (itObj q2 b)
noncomputable abbrev zg3 (h : Heap) (q1 q2 : Bool) (a b : Addr) : Heap := (zg2 h q1 q2 a b).push { cls := .type "tuple", data := .seq #[.ref h.objs.size, .ref (zg1 h q1 a).objs.size] }
noncomputable abbrev zg4 (h : Heap) (q1 q2 : Bool) (a b : Addr) : Heap := (zg3 h q1 q2 a b).push { cls := .type "tuple", data := .seq #[.none, .none] }
noncomputable abbrev zg5 (h : Heap) (q1 q2 : Bool) (a b : Addr) : Heap := (zg4 h q1 q2 a b).push { cls := .type "zip", data := .fields #[.none, .bool false, .bool false, .ref (zg2 h q1 q2 a b).objs.size, .ref (zg3 h q1 q2 a b).objs.size] }
theorem zip_meets (q1 q2 : Bool) (a b : Addr) (xs ys : Array Value) : Meets (Builtin.«zip.__new__» ⟨[.type "zip", .ref a, .ref b], []⟩) (fun _ R s => HSq q1 s.heap a xs ∧ HSq q2 s.heap b ys ∧
    R (.ok (.ret (.ref (zg4 s.heap q1 q2 a b).objs.size))) { s with heap := zg5 s.heap q1 q2 a b }) :=
  .of_wp fun prog w A R s h => by
    obtain ⟨hp, g, d, tk, os⟩ := s
    obtain ⟨l1, l2, h⟩ := h
    have hsub := sub_zip
    have m1 : HSq q1 (Shared.heap ⟨hp, g, d, tk, os⟩) a xs := l1
    have m2 : HSq q2 (Shared.heap ⟨hp.push (itObj q1 a), g, d, tk, os⟩) b ys := HSq.to l2 fun o e => Heap.get?_push_of_some _ e
    wp_walk using HSq.iter m1, HSq.iter m2
    exact ⟨_, rfl, h⟩
theorem zip_made {prog : Program} {w : World} {A : Around} {E : Value → Shared → Prop} {s : Shared} {q1 q2 : Bool} {a b : Addr} {xs ys : Array Value} {Q : Value → Shared → Prop} (l1 : HSq q1 s.heap a xs) (l2 : HSq q2 s.heap b ys)
    (h : ∀ h', Zp h' (s.heap.objs.size + 4) (s.heap.objs.size + 2) (s.heap.objs.size + 3) s.heap.objs.size (s.heap.objs.size + 1) .none → HIt q1 h' s.heap.objs.size a 0 → HIt q2 h' (s.heap.objs.size + 1) b 0 →
      (∀ c o, s.heap.get? c = some o → h'.get? c = some o) → Q (.ref (s.heap.objs.size + 4)) { s with heap := h' }) : wpAny (model prog w) A (call (.type "zip") [.ref a, .ref b]) Q E s := by
  refine callType_new F.called_zip (by decide) (F.typeCall_zip_2 _ _) (F.newCall_zip_2 _ _) (fun obj => F.args_object_init_3 obj _ _) F.entry_zip_new (zip_meets q1 q2 a b xs ys) ⟨l1, l2, (?_ : _ ∧ _)⟩
  have n1 : (zg1 s.heap q1 a).objs.size = s.heap.objs.size + 1 := Heap.size_push ..
  have n2 : (zg2 s.heap q1 q2 a b).objs.size = s.heap.objs.size + 2 := by rw [Heap.size_push, n1]
  have n3 : (zg3 s.heap q1 q2 a b).objs.size = s.heap.objs.size + 3 := by rw [Heap.size_push, n2]
  have n4 : (zg4 s.heap q1 q2 a b).objs.size = s.heap.objs.size + 4 := by rw [Heap.size_push, n3]
  have e5 : (zg5 s.heap q1 q2 a b).get? (zg4 s.heap q1 q2 a b).objs.size = some _ := Heap.get?_push_size _ rfl
  have e4 : (zg5 s.heap q1 q2 a b).get? (zg3 s.heap q1 q2 a b).objs.size = some _ := Heap.get?_push_of_some _ (Heap.get?_push_size _ rfl)
  have e3 : (zg5 s.heap q1 q2 a b).get? (zg2 s.heap q1 q2 a b).objs.size = some _ := Heap.get?_push_of_some _ (Heap.get?_push_of_some _ (Heap.get?_push_size _ rfl))
  have e2 : (zg5 s.heap q1 q2 a b).get? (zg1 s.heap q1 a).objs.size = some (itObj q2 b) := Heap.get?_push_of_some _ (Heap.get?_push_of_some _ (Heap.get?_push_of_some _ (Heap.get?_push_size _ rfl)))
  have e1 : (zg5 s.heap q1 q2 a b).get? s.heap.objs.size = some (itObj q1 a) := Heap.get?_push_of_some _ (Heap.get?_push_of_some _ (Heap.get?_push_of_some _ (Heap.get?_push_of_some _ (Heap.get?_push_size _ rfl))))
  rw [n2, n3, n4] at e5
  rw [n1, n2] at e3
  rw [n3] at e4
  rw [n1] at e2
  rw [n4]
  refine ⟨⟨_, e5, rfl⟩, h _ ⟨e5, e3, .none, .none, e4⟩ ?_ ?_ fun c o x => Heap.get?_push_of_some _ (Heap.get?_push_of_some _ (Heap.get?_push_of_some _ (Heap.get?_push_of_some _ (Heap.get?_push_of_some _ x))))⟩
  · cases q1 <;> exact ⟨_, e1, rfl, rfl⟩
  · cases q2 <;> exact ⟨_, e2, rfl, rfl⟩
noncomputable def SqX (K : PySem.W.Frag) (q : Bool) (H : Hp) (a : Addr) (xs : List V) : Prop := if q = true then SqT K H a xs else SqL K H a xs
theorem SqX.l {K : PySem.W.Frag} {H : Hp} {a : Addr} {xs : List V} (h : H a = some (.lst xs)) : SqX K false H a xs := SqL.of h
theorem SqX.t {K : PySem.W.Frag} {H : Hp} {a : Addr} {xs : List V} (h : H a = some (.tup xs)) : SqX K true H a xs := SqT.of h
theorem Inv.sqx {X : Cx} {pins : List (Addr × Obj)} {σ : St} {H : Hp} {s : Shared} {q : Bool} {a : Addr} {xs : List V} (I : Inv X pins σ H s) (h : SqX X.K q H a xs) : ∃ its : List Value, Vals xs its ∧ HSq q s.heap a its.toArray := by
  cases q
  · obtain ⟨its, r, p, _⟩ := I.list (show SqL X.K H a xs from h)
    exact ⟨its, r, p.isList⟩
  · obtain ⟨its, r, p, _⟩ := I.tuple (show SqT X.K H a xs from h)
    exact ⟨its, r, p⟩
theorem Inv.sqx_inj {X : Cx} {pins : List (Addr × Obj)} {σ : St} {H : Hp} {s : Shared} {q : Bool} {a : Addr} {xs ys : List V} (I : Inv X pins σ H s) (h : SqX X.K q H a xs) (h' : SqX X.K q H a ys) : xs = ys := by
  cases q
  · exact I.list_inj (show SqL X.K H a xs from h) h'
  · exact I.tuple_inj (show SqT X.K H a xs from h) h'
noncomputable def Itq (K : PySem.W.Frag) (q1 q2 : Bool) (a b : Addr) : It :=
  ⟨fun i H => ∃ (xs ys : List V) (x y : V), SqX K q1 H a xs ∧ SqX K q2 H b ys ∧ xs[i]? = some x ∧ ys[i]? = some y,
    fun i H v H' => ∃ T x y, v = .ref T ∧ H T = none ∧ H' = upd H T (.tup [x, y]) ∧ (∀ xs, SqX K q1 H a xs → xs[i]? = some x) ∧ ∀ ys, SqX K q2 H b ys → ys[i]? = some y,
    fun i H => ∃ xs ys : List V, SqX K q1 H a xs ∧ SqX K q2 H b ys ∧ (xs.length ≤ i ∨ ys.length ≤ i)⟩
theorem mem5 {c z TI TO i1 i2 : Addr} (h : c ∈ [z, TI, TO, i1, i2]) : c = z ∨ c = TI ∨ c = TO ∨ c = i1 ∨ c = i2 := by simpa using h
theorem turn_zipq {P : Program} {w : World} {K : PySem.W.Frag} {elts : List Expr} {kk : Nat} {tpos : Pos} {q1 q2 : Bool} {a b z TI TO i1 i2 : Addr} (D : ZipApart z TI TO i1 i2 a b) :
    Turn P w K (.Tuple elts kk tpos) (Itq K q1 q2 a b) [z, TI, TO, i1, i2] z (fun i h => Zp h z TI TO i1 i2 .none ∧ HIt q1 h i1 a i ∧ HIt q2 h i2 b i) where
  mem := by simp
  obj := fun i h st c hc => by
    obtain ⟨⟨hz, hTI, x, y, hTO⟩, t1, t2⟩ := st
    obtain ⟨o1, e1, d1⟩ := t1.there
    obtain ⟨o2, e2, d2⟩ := t2.there
    rcases mem5 hc with rfl | rfl | rfl | rfl | rfl
    · exact ⟨_, hz, fun v q => nomatch q⟩
    · exact ⟨_, hTI, fun v q => nomatch q⟩
    · exact ⟨_, hTO, fun v q => nomatch q⟩
    · exact ⟨o1, e1, fun v q => by rw [d1] at q; cases q⟩
    · exact ⟨o2, e2, fun v q => by rw [d2] at q; cases q⟩
  keep := fun i h h' st k => by
    obtain ⟨⟨hz, hTI, x, y, hTO⟩, t1, t2⟩ := st
    exact ⟨⟨k z (by simp) _ hz, k TI (by simp) _ hTI, x, y, k TO (by simp) _ hTO⟩, t1.to fun o e => k i1 (by simp) o e, t2.to fun o e => k i2 (by simp) o e⟩
  item := by
    intro X hP hw hK hc i pins s σ H E I hf st hg
    subst hP hw hK
    obtain ⟨Z, t1, t2⟩ := st
    obtain ⟨xs, ys, x, y, hqx, hqy, hx, hy⟩ := hg
    obtain ⟨its, rv, p⟩ := I.sqx hqx
    obtain ⟨its2, rv2, p2⟩ := I.sqx hqy
    obtain ⟨u, hu, ru⟩ := rv.get hx
    obtain ⟨u2, hu2, ru2⟩ := rv2.get hy
    have hzl : z < s.heap.objs.size := Heap.lt_size Z.z
    refine zip_nx D Z t1 t2 p p2 (x := u) (y := u2) (by simpa using hu) (by simpa using hu2) fun h' Z' t1' t2' hT hk => ⟨_, rfl, wpAny_letOwnedTupleGo_zip (s := { s with heap := h' }) Z'.z fun h'' z'' sb => ?_⟩
    have hT2 : h''.get? s.heap.objs.size = some { cls := .type "tuple", data := .seq #[u, u2] } := (sb.2 _ (Nat.ne_of_gt hzl)).trans hT
    have I1 : Inv X pins σ (upd H s.heap.objs.size (.tup [x, y])) { s with heap := h'' } :=
      I.turnedNew (t' := s.toks) (ch := [z, TI, TO, i1, i2]) (fun c o hb q => (sb.2 c (fun q' => hb (by simp [q']))).trans (hk c o (fun q' => hb (by simp [q'])) (fun q' => hb (by simp [q'])) (fun q' => hb (by simp [q'])) (fun q' => hb (by simp [q'])) q)) hf (Nat.le_refl _)
        (show ObjOk X.prog X.w _ h'' _ (.tup [x, y]) from ⟨by show 2 ≤ sizeLine; decide, [u, u2], .cons ru (.cons ru2 .nil), ⟨_, hT2, rfl, _, rfl⟩⟩)
    obtain ⟨x', y', o'⟩ := Z'.to
    refine ⟨.ref s.heap.objs.size, _, I1, rfl, ⟨_, x, y, rfl, I.hok.fresh (Nat.le_refl _), rfl, fun l hl => by rw [I.sqx_inj hl hqx]; exact hx, fun l hl => by rw [I.sqx_inj hl hqy]; exact hy⟩,
      ⟨⟨z'', (sb.2 _ D.TIz).trans Z'.ti, x', y', (sb.2 _ D.TOz).trans o'⟩, t1'.to fun o q => (sb.2 _ D.i1z).trans q, t2'.to fun o q => (sb.2 _ D.i2z).trans q⟩, fun c hcm => ?_⟩
    have hlt : c < s.heap.objs.size := by
      obtain ⟨o1, e1, _⟩ := t1.there
      obtain ⟨o2, e2, _⟩ := t2.there
      obtain ⟨u0, v0, e0⟩ := Z.to
      rcases mem5 hcm with q | q | q | q | q
      · rw [q]; exact hzl
      · rw [q]; exact Heap.lt_size Z.ti
      · rw [q]; exact Heap.lt_size e0
      · rw [q]; exact Heap.lt_size e1
      · rw [q]; exact Heap.lt_size e2
    rw [upd_ne (Nat.ne_of_lt hlt)]
    exact (hf c hcm).1
  done := by
    intro X hP hw hK hc i pins s σ H E I hf st hg
    subst hP hw hK
    obtain ⟨Z, t1, t2⟩ := st
    obtain ⟨xs, ys, hqx, hqy, hend⟩ := hg
    obtain ⟨its, rv, p⟩ := I.sqx hqx
    obtain ⟨its2, rv2, p2⟩ := I.sqx hqy
    have l1 := rv.length
    have l2 := rv2.length
    have he : its.toArray[i]? = none ∨ its2.toArray[i]? = none := by
      rcases hend with q | q
      · exact .inl (by simp; omega)
      · exact .inr (by simp; omega)
    exact zip_dn (I.ok.hd hc) D Z t1 t2 p p2 he fun h' hk => ⟨rfl, I.turnedL (t' := s.toks) (ch := [z, TI, TO, i1, i2]) (fun c o hb q =>
      hk c o (fun q' => hb (by simp [q'])) (fun q' => hb (by simp [q'])) (fun q' => hb (by simp [q'])) (fun q' => hb (by simp [q'])) q) hf⟩
  self := fun A i s Q E st h => wpAny_pyIter_zip st.1.z h
noncomputable def iZq (K : PySem.W.Frag) (ta : TA) : TI := fun σ H R => ta σ H fun vs H1 => ∃ q1 q2 a b xs ys, vs = [.ref a, .ref b] ∧ SqX K q1 H1 a xs ∧ SqX K q2 H1 b ys ∧ R (Itq K q1 q2 a b) H1
theorem pi_zq {X : Cx} {e e2 : Expr} {ta : TA} {p pos tpos : Pos} {elts : List Expr} {kk : Nat} (hg : Gl X "zip") (hm : X.mg "zip" = none) (ha : PA X [e, e2] ta)
    (hs : starEach [e, e2] X.env = (false, eval e X.env) :: starEach [e2] X.env := by rfl) (hpl : (backTo pos (starEach [e2] X.env)).any (·.1) = false := by rfl) :
    PI X (.Tuple elts kk tpos) (.Call (.Name "zip" p) [e, e2] [] pos) (iZq X.K ta) := by
  intro pins s σ H R I h
  refine Call_ (ld_blt I hg hm boot_zip5 (PyProof.Rows.callWith_type1 (thn (ha pos pins s σ H _ I h) fun us s1 ⟨vs, H1, I1, r1, q1⟩ => ?_) hs hpl))
  obtain ⟨k1, k2, a, b, xs, ys, ex, hqx, hqy, q⟩ := q1
  subst ex
  cases r1 with
  | cons r rr =>
    cases rr with
    | cons r' rr =>
      cases rr
      cases r
      cases r'
      obtain ⟨its, rv, p1⟩ := I1.sqx hqx
      obtain ⟨its2, rv2, p2⟩ := I1.sqx hqy
      obtain ⟨oa, ea⟩ := p1.there
      obtain ⟨ob, eb⟩ := p2.there
      refine zip_made p1 p2 fun h' Z t1 t2 hk => wpAny_pyIter_zip Z.z ?_
      have I2 : Inv X pins σ H1 { s1 with heap := h' } := I1.kept (t' := s1.toks) hk
      refine ⟨s1.heap.objs.size + 4, [s1.heap.objs.size + 4, s1.heap.objs.size + 2, s1.heap.objs.size + 3, s1.heap.objs.size, s1.heap.objs.size + 1], _, _, H1, rfl, I2, turn_zipq (PySem.W.ktu_apart s1.heap.objs.size a b (Heap.lt_size ea) (Heap.lt_size eb)), ⟨Z, t1, t2⟩, fun c hcm => ?_, q⟩
      have hle : s1.heap.objs.size ≤ c := by
        rcases mem5 hcm with z | z | z | z | z <;> (rw [z]; first | exact Nat.le_refl _ | exact Nat.le_add_right _ _)
      exact I1.fpOk hle (I1.hok.fresh hle)
end L2
end
section
set_option Elab.async false
set_option linter.all false
set_option maxRecDepth 100000
namespace L2
open PySem PySem.Spec PyProof.Rows
noncomputable abbrev NK := Int × List Int
section
variable (P : Program) (w : World)
noncomputable def NKey (h : Heap) (k : NK) (a : Addr) : Prop := ∃ (o : Obj) (n : Nat) (t : Tok) (b : Addr), h.get? a = some o ∧ o.cls = .type "tuple" ∧ o.data = .seq #[.int k.1 t, .ref b] n ∧ IsTupleKey (intKind P w) h k.2 b
noncomputable def nkHash (k : NK) : Int := reduceHash (Builtin.Tuple.tupleHashOf [(intKind P w).hash k.1, tupleKeyHash (intKind P w) k.2])
end
section
variable {P : Program} {w : World} {A : Around} {E : Value → Shared → Prop} {s : Shared}
theorem NKey.ty {k : NK} {a : Addr} (x : NKey P w s.heap k a) : s.TypeIs (.ref a) "tuple" := by
  obtain ⟨o, n, t, b, e, c, _⟩ := x
  exact ⟨o, e, c⟩
theorem NKey.inj {h : Heap} {a : Addr} {x y : NK} (hx : NKey P w h x a) (hy : NKey P w h y a) : x = y := by
  obtain ⟨o, n, t, b, e, _, d, r⟩ := hx
  obtain ⟨o', n', t', b', e', _, d', r'⟩ := hy
  rw [e] at e'
  cases e'
  rw [d] at d'
  injection d' with d1 _
  have d2 := congrArg Array.toList d1
  simp only [List.cons.injEq, Value.int.injEq, Value.ref.injEq, and_true] at d2
  obtain ⟨⟨d3, _⟩, d4⟩ := d2
  subst d4
  exact Prod.ext d3 (r.inj r')
theorem NKey.keeps {h h' : Heap} {k : NK} {a d : Addr} {o : Obj} {es ep} (x : NKey P w h k a) (ho : h.get? d = some o) (hd : o.data = .dict es ep) (sb : Heap.SameBut d h h') : NKey P w h' k a := by
  obtain ⟨oa, n, t, b, e, c, q, r⟩ := x
  have ne : a ≠ d := fun z => by
    rw [z, ho] at e
    cases e
    rw [hd] at q
    cases q
  exact ⟨oa, n, t, b, (sb.2 a ne).trans e, c, q, r.keeps ho hd sb⟩
theorem nk_hash {k : NK} {a : Addr} {Q : Int → Shared → Prop} (hu : A.units + 1 < cLine) (x : NKey P w s.heap k a) (h : Q (nkHash P w k) { s with toks := s.toks + (k.2.length + 3) }) : wpAny (model P w) A (pyHash (.ref a)) Q E s := by
  have hT := x.ty
  obtain ⟨o, n, t, b, e, _, d, r⟩ := x
  unfold pyHash
  first | unfold pyHashByItsType | skip
  first | refine wpAny_bind (wpAny_cRoomFor_or (.inr (Nat.lt_of_succ_lt hu)) ?_) | skip
  refine wpAny_bind (wpAny_specialOf hT F.slot_tuple_hash.lookup ?_)
  show wpAny _ _ (if (some (Value.builtin "tuple.__hash__") == some Value.none) = true then _ else _) Q E s
  rw [if_neg (by rw [beq_builtin_none]; exact Bool.false_ne_true)]
  refine wpAny_bind (wpAny_specialOf hT F.slot_tuple_hash.lookup (?_ : wpAny _ _ (callSpecialIfBoundUnlessNone? (.ref a) "__hash__" _ >>= _) Q E s))
  refine wpAny_bind (wpAny_callSpecialIfBoundUnlessNone?_slot hT F.slot_tuple_hash (wpAny_call_entry F.slot_tuple_hash hT F.entry_tuple_hash (?_ : wpAny _ _ (Builtin.Tuple.tupleItemsOf (.ref a) >>= _) _ _ s) (F.args_tuple_hash_1 _)))
  refine wpAny_bind (wpAny_tupleItemsOf e d (wpAny_bind ?_))
  rw [← Array.forIn_toList]
  simp only [List.forIn_cons, List.forIn_nil]
  refine wpAny_bind (wpAny_bind (wpAny_pyHash_int (wpAny_pure ?_)))
  refine wpAny_bind (wpAny_bind (wpAny_pyHash_tuple (knd := intKind P w) (show A.units + 1 < cLine from hu) r (wpAny_pure (wpAny_pure ?_))))
  refine wpAny_ret_mkInt ?_
  have e0 : nkHash P w k = reduceHash (Builtin.Tuple.tupleHashOf [hashInt k.1, tupleKeyHash (intKind P w) k.2]) := rfl
  rw [e0] at h
  unfold reduceHash at h
  have tk : s.toks + 1 + (k.2.length + 1) + 1 = s.toks + (k.2.length + 3) := by omega
  rw [← tk] at h
  show wpAny _ _ (if (decide (-(2 : Int) ^ 63 ≤ Builtin.Tuple.tupleHashOf [hashInt k.1, tupleKeyHash (intKind P w) k.2]) && decide (Builtin.Tuple.tupleHashOf [hashInt k.1, tupleKeyHash (intKind P w) k.2] < 2 ^ 63)) = true then _ else _) Q E _
  by_cases hr : (decide (-(2 : Int) ^ 63 ≤ Builtin.Tuple.tupleHashOf [hashInt k.1, tupleKeyHash (intKind P w) k.2]) && decide (Builtin.Tuple.tupleHashOf [hashInt k.1, tupleKeyHash (intKind P w) k.2] < 2 ^ 63)) = true
  · rw [if_pos hr] at h
    rw [if_pos hr]
    exact wpAny_pure (by simpa [Nat.add_assoc] using h)
  · rw [if_neg hr] at h
    rw [if_neg hr]
    exact wpAny_bind (wpAny_rule (wpAny_pure (by simpa [Nat.add_assoc] using h)))
theorem nk_eqTree {x y : NK} {a b : Addr} {R : Fin → Shared → Prop} (hu : A.units < cLine) (hx : NKey P w s.heap x a) (hy : NKey P w s.heap y b) (h : R (.done (.ret (.bool (decide (x = y))))) s) :
    wpAny (model P w) A (Builtin.«tuple.__eq__» ⟨[.ref a, .ref b], []⟩) R E s := by
  have hTb := hy.ty
  obtain ⟨o, n, t, c, e, _, d, r⟩ := hx
  obtain ⟨o', n', t', c', e', _, d', r'⟩ := hy
  refine wpAny_bind (m := isInstance (.ref b) (.type "tuple")) (wpAny_isInstance hTb isSubtype_tuple_tuple ?_)
  simp only [Bool.not_true, Bool.false_eq_true, if_false]
  refine wpAny_bind (wpAny_tupleItemsOf e d (wpAny_bind (wpAny_tupleItemsOf e' d' (wpAny_bind ?_))))
  simp only [List.zip_cons_cons, List.zip_nil_right, List.forIn_cons, List.forIn_nil]
  refine wpAny_bind (wpAny_bind (wpAny_eqBool_int ?_))
  by_cases h1 : x.1 = y.1
  · have b1 : (x.1 == y.1) = true := beq_iff_eq.mpr h1
    rw [b1]
    simp only [Bool.not_true, Bool.false_eq_true, if_false]
    refine wpAny_pure (wpAny_bind (wpAny_bind (wpAny_eqBool_tuple (knd := intKind P w) hu r r' ?_)))
    by_cases h2 : x.2 = y.2
    · rw [decide_eq_true (Prod.ext h1 h2)] at h
      rw [decide_eq_true h2]
      simp only [Bool.not_true, Bool.false_eq_true, if_false]
      exact wpAny_pure (wpAny_pure (wpAny_pure (show R (.done (.ret (.bool true))) s from h)))
    · rw [decide_eq_false fun q => h2 (congrArg Prod.snd q)] at h
      rw [decide_eq_false h2]
      simp only [Bool.not_false, if_true]
      exact wpAny_bind (wpAny_pure (wpAny_pure (wpAny_pure (wpAny_pure h))))
  · have b1 : (x.1 == y.1) = false := beq_eq_false_iff_ne.mpr h1
    rw [decide_eq_false fun q => h1 (congrArg Prod.fst q)] at h
    rw [b1]
    simp only [Bool.not_false, if_true]
    exact wpAny_bind (wpAny_pure (wpAny_pure (wpAny_pure (wpAny_pure h))))
theorem nk_eq {x y : NK} {a b : Addr} {Q : Bool → Shared → Prop} (hu : A.units + 1 < cLine) (hx : NKey P w s.heap x a) (hy : NKey P w s.heap y b) (h : Q (decide (x = y)) s) : wpAny (model P w) A (eqBool (.ref a) (.ref b)) Q E s := by
  unfold eqBool
  try with_reducible refine wpAny_holding ?_
  show wpAny _ _ (if (Value.ref a == Value.ref b) = true then _ else _) Q E s
  by_cases hab : (Value.ref a == Value.ref b) = true
  · have e : a = b := by
      have q := eq_of_beq hab
      injection q
    subst e
    have exy := hx.inj hy
    subst exy
    rw [if_pos hab]
    exact wpAny_bind (wpAny_rule (wpAny_pure (by simpa using h)))
  · rw [if_neg hab]
    refine wpAny_bind (wpAny_richCompare_same_room (op := .Eq) hx.ty hy.ty F.slot_tuple_eq (wpAny_call_entry F.slot_tuple_eq hx.ty F.entry_tuple_eq ?_ (F.args_tuple_eq_2 _ _)) (Nat.lt_of_succ_lt hu))
    exact nk_eqTree (show A.units + 1 < cLine from hu) hx hy ⟨_, rfl, (fun q => nomatch q), wpAny_truthy_bool h⟩
theorem quiet_tup {m : Nat} {ks : List Int} {a : Addr} {Q : Bool → Shared → Prop} (hk : IsTupleKey (intKind P w) s.heap ks a) (h : Q true s) : wpAny (model P w) A (eqIsQuiet (m + 1) (.ref a)) Q E s := by
  have hT := hk.typeIs
  obtain ⟨o, items, n, e, _, d, hi⟩ := hk
  unfold eqIsQuiet
  refine wpAny_bind (wpAny_specialOf hT F.slot_tuple_eq.lookup (wpAny_bind (m := isInstance (.ref a) (.type "tuple")) (wpAny_isInstance hT isSubtype_tuple_tuple ?_)))
  simp only [Bool.not_true, Bool.false_eq_true, if_false]
  refine wpAny_bind (wpAny_seqItems e d (wpAny_bind (?_ : wpAny _ _ (forIn items _ _) _ _ s)))
  rw [← Array.forIn_toList]
  refine wpAny_forIn_list _ (fun rest r s' => r.1 = none ∧ s' = s ∧ ∀ v ∈ rest, carriedByValue v = true) _ (fun v rest r s' ⟨hr, hs, hall⟩ => ?_) (fun r s' ⟨hr, hs, _⟩ => ?_) _ _ ⟨rfl, rfl, hi.byValue⟩
  · subst hs
    rw [eqIsQuiet_byValue _ (hall v List.mem_cons_self)]
    refine wpAny_bind (wpAny_pure ?_)
    simp only [Bool.not_true, Bool.false_eq_true, if_false]
    exact wpAny_pure ⟨rfl, rfl, fun u hu' => hall u (List.mem_cons_of_mem _ hu')⟩
  · obtain ⟨r1, r2⟩ := r
    simp only at hr
    subst hr hs
    exact wpAny_pure h
theorem nk_quiet {k : NK} {a : Addr} {Q : Bool → Shared → Prop} (hk : NKey P w s.heap k a) (h : Q true s) : wpAny (model P w) A (eqIsQuiet 8 (.ref a)) Q E s := by
  have hT := hk.ty
  obtain ⟨o, n, t, b, e, _, d, r⟩ := hk
  unfold eqIsQuiet
  refine wpAny_bind (wpAny_specialOf hT F.slot_tuple_eq.lookup (wpAny_bind (m := isInstance (.ref a) (.type "tuple")) (wpAny_isInstance hT isSubtype_tuple_tuple ?_)))
  simp only [Bool.not_true, Bool.false_eq_true, if_false]
  refine wpAny_bind (wpAny_seqItems e d (wpAny_bind (?_ : wpAny _ _ (forIn (#[Value.int k.1 t, Value.ref b] : Array Value) _ _) _ _ s)))
  rw [← Array.forIn_toList]
  simp only [List.forIn_cons, List.forIn_nil]
  have e1 : eqIsQuiet 7 (Value.int k.1 t) = pure true := eqIsQuiet_byValue _ rfl
  rw [e1]
  refine wpAny_bind (wpAny_bind (wpAny_pure ?_))
  simp only [Bool.not_true, Bool.false_eq_true, if_false]
  refine wpAny_pure (wpAny_bind (wpAny_bind (quiet_tup (m := 6) r ?_)))
  simp only [Bool.not_true, Bool.false_eq_true, if_false]
  exact wpAny_pure (wpAny_pure (wpAny_pure h))
end
noncomputable def nestKind (P : Program) (w : World) : HeapKind P w NK where
  is := NKey P w
  hash := nkHash P w
  draws := fun k => k.2.length + 3
  room := fun A => A.units + 1 < cLine
  inj := fun hx hy => hx.inj hy
  keeps := fun x ho hd sb => x.keeps ho hd sb
  pyHash := fun hu hk h => nk_hash hu hk h
  eqBool := fun hu hx hy h => nk_eq hu hx hy h
  quiet := fun hk h => nk_quiet hk h
noncomputable abbrev NEnt := NK × Addr × V
noncomputable def NDf (P : Program) (w : World) (a : Addr) (kvs : List NEnt) : Heap → Prop := fun h => (a == sysModules) = false ∧ ∃ xs : List (NK × Addr × Value), Paired (fun (p : NEnt) (q : NK × Addr × Value) => p.1 = q.1 ∧ p.2.1 = q.2.1 ∧ RelV p.2.2 q.2.2) kvs xs ∧
  ∃ o es ep, h.get? a = some o ∧ o.ExactDict ∧ o.data = .dict es ep ∧ es.toList = xs.map (entryOfKey (nestKind P w)) ∧ (xs.map (·.1)).Nodup
noncomputable def TK (H : Hp) (k : NK) (b : Addr) : Prop := ∃ c, H b = some (.tup [.int k.1, .ref c]) ∧ H c = some (.tup (k.2.map V.int))
structure ND (P : Program) (w : World) (H : Hp) (a : Addr) (kvs : List NEnt) : Prop where
  at_ : H a = some (.ext (NDf P w a kvs))
  nd : (kvs.map (·.1)).Nodup
  key : ∀ p ∈ kvs, TK H p.1 p.2.1
noncomputable def getN (kvs : List NEnt) (k : NK) : Option V := (kvs.find? fun p => decide (p.1 = k)).map (·.2.2)
noncomputable def putN (kvs : List NEnt) (k : NK) (b : Addr) (v : V) : List NEnt := if (getN kvs k).isSome = true then kvs.map (fun p => if p.1 = k then (p.1, p.2.1, v) else p) else kvs ++ [(k, b, v)]
theorem getN_cons (p : NEnt) (r : List NEnt) (k : NK) : getN (p :: r) k = if p.1 = k then some p.2.2 else getN r k := by
  unfold getN
  by_cases e : p.1 = k
  · rw [if_pos e, List.find?_cons, decide_eq_true e]
    rfl
  · rw [if_neg e, List.find?_cons, decide_eq_false e]
theorem getN_mem {kvs : List NEnt} {k : NK} {v : V} (h : getN kvs k = some v) : ∃ b, (k, b, v) ∈ kvs := by
  induction kvs with
  | nil => cases h
  | cons p r ih =>
    rw [getN_cons] at h
    by_cases e : p.1 = k
    · rw [if_pos e] at h
      have e2 : p.2.2 = v := Option.some.inj h
      exact ⟨p.2.1, by rw [← e, ← e2]; exact List.mem_cons_self ..⟩
    · rw [if_neg e] at h
      obtain ⟨b, hb⟩ := ih h
      exact ⟨b, List.mem_cons_of_mem _ hb⟩
theorem getN_none {kvs : List NEnt} {k : NK} (h : getN kvs k = none) : ¬ k ∈ kvs.map (·.1) := by
  induction kvs with
  | nil => simp
  | cons p r ih =>
    rw [getN_cons] at h
    by_cases e : p.1 = k
    · rw [if_pos e] at h; cases h
    · rw [if_neg e] at h
      rw [List.map_cons]
      intro m
      rcases List.mem_cons.mp m with q | q
      · exact e q.symm
      · exact ih h q
theorem putN_mem {kvs : List NEnt} {k : NK} {b : Addr} {v : V} {p : NEnt} (h : p ∈ putN kvs k b v) : p ∈ kvs ∨ (p.1 = k ∧ p.2.2 = v ∧ (p.2.1 = b ∨ ∃ u, (k, p.2.1, u) ∈ kvs)) := by
  unfold putN at h
  split at h
  · obtain ⟨q, hq, e⟩ := List.mem_map.mp h
    by_cases z : q.1 = k
    · rw [if_pos z] at e
      subst e
      exact .inr ⟨z, rfl, .inr ⟨q.2.2, by rw [← z]; exact hq⟩⟩
    · rw [if_neg z] at e
      subst e
      exact .inl hq
  · rcases List.mem_append.mp h with q | q
    · exact .inl q
    · rw [List.mem_singleton.mp q]
      exact .inr ⟨rfl, rfl, .inl rfl⟩
theorem putN_keys {kvs : List NEnt} {k : NK} {b : Addr} {v : V} (h : (kvs.map (·.1)).Nodup) : ((putN kvs k b v).map (·.1)).Nodup := by
  unfold putN
  split
  · have e : (kvs.map fun p => if p.1 = k then (p.1, p.2.1, v) else p).map (·.1) = kvs.map (·.1) := by
      rw [List.map_map]
      refine List.map_congr_left fun p _ => ?_
      show (if p.1 = k then (p.1, p.2.1, v) else p).1 = p.1
      split <;> rfl
    rw [e]
    exact h
  · rename_i q
    have q' : getN kvs k = none := by
      cases z : getN kvs k with
      | none => rfl
      | some u => rw [z] at q; exact absurd rfl q
    rw [List.map_append]
    exact nd_snoc h (getN_none q')
theorem putN_get {kvs : List NEnt} {k : NK} {b : Addr} {v : V} : getN (putN kvs k b v) k = some v := by
  unfold putN
  split
  · rename_i q
    induction kvs with
    | nil => cases q
    | cons p r ih =>
      rw [List.map_cons, getN_cons]
      by_cases e : p.1 = k
      · rw [if_pos e, if_pos e]
      · rw [if_neg e, if_neg e]
        rw [getN_cons, if_neg e] at q
        exact ih q
  · rename_i q
    induction kvs with
    | nil => rw [List.nil_append, getN_cons, if_pos rfl]
    | cons p r ih =>
      rw [getN_cons] at q
      by_cases e : p.1 = k
      · rw [if_pos e] at q; exact absurd rfl q
      · rw [if_neg e] at q
        rw [List.cons_append, getN_cons, if_neg e]
        exact ih q
noncomputable abbrev NV : List NEnt → List (NK × Addr × Value) → Prop := Paired (fun (p : NEnt) (q : NK × Addr × Value) => p.1 = q.1 ∧ p.2.1 = q.2.1 ∧ RelV p.2.2 q.2.2)
theorem NV.val {kvs : List NEnt} {xs : List (NK × Addr × Value)} (r : NV kvs xs) (k : NK) : RelO (getN kvs k) ((atKey xs k).map (·.2)) := by
  induction r with
  | nil => exact True.intro
  | @cons p q ps qs h t ih =>
    obtain ⟨h1, h2, h3⟩ := h
    rw [getN_cons]
    by_cases e : p.1 = k
    · have b : atKey (q :: qs) k = some q.2 := by simp [atKey, List.find?_cons, h1.symm.trans e]
      rw [if_pos e, b]
      exact h3
    · have e' : ¬ q.1 = k := fun z => e (h1.trans z)
      have b : atKey (q :: qs) k = atKey qs k := by simp [atKey, List.find?_cons, e']
      rw [if_neg e, b]
      exact ih
theorem NV.put {kvs : List NEnt} {xs : List (NK × Addr × Value)} (r : NV kvs xs) (k : NK) {b : Addr} {y : V} {u : Value} (ry : RelV y u) : NV (putN kvs k b y) (storedH xs k b u) := by
  have e : (getN kvs k).isSome = (atKey xs k).isSome := by
    have q := (r.val k).isSome_eq
    rw [Option.isSome_map] at q
    exact q
  have rep : NV (kvs.map fun p => if p.1 = k then (p.1, p.2.1, y) else p) (xs.map (putAt k u)) := by
    clear e
    induction r with
    | nil => exact .nil
    | @cons p q ps qs h t ih =>
      obtain ⟨h1, h2, h3⟩ := h
      rw [List.map_cons, List.map_cons]
      refine .cons ?_ ih
      unfold putAt
      by_cases z : p.1 = k
      · rw [if_pos z, if_pos (h1.symm.trans z)]; exact ⟨h1, h2, ry⟩
      · rw [if_neg z, if_neg (fun z' => z (h1.trans z'))]; exact ⟨h1, h2, h3⟩
  unfold putN storedH
  rw [e]
  by_cases q : (atKey xs k).isSome = true
  · rw [if_pos q, if_pos q]; exact rep
  · rw [if_neg q, if_neg q]; exact Paired.snoc r ⟨rfl, rfl, ry⟩
theorem ints_are {P : Program} {w : World} : ∀ {ks : List Int} {us : List Value}, Vals (ks.map V.int) us → ItemsAre (intKind P w) ks us
  | [], _, r => by rw [List.map_nil] at r; cases r; exact .nil
  | k :: ks, _, r => by
    rw [List.map_cons] at r
    cases r with
    | cons h t =>
      obtain ⟨tk, rfl⟩ := h
      exact .cons (by show Value.isInt k (.int k tk) = true; simp [Value.isInt]) (ints_are t)
theorem TK.is {P : Program} {w : World} {H : Hp} {h : Heap} {k : NK} {b : Addr} (ok : HOk P w H h) (x : TK H k b) : (nestKind P w).is h k b := by
  obtain ⟨c, e1, e2⟩ := x
  obtain ⟨_, its, r, o, h1, h2, n, h3⟩ := (show ObjOk P w H h b (.tup [.int k.1, .ref c]) from ok b _ e1)
  obtain ⟨_, its2, r2, o2, g1, g2, n2, g3⟩ := (show ObjOk P w H h c (.tup (k.2.map V.int)) from ok c _ e2)
  cases r with
  | cons ra rt =>
    cases rt with
    | cons rb rn =>
      cases rn
      obtain ⟨t, rfl⟩ := ra
      cases rb
      exact ⟨o, n, t, c, h1, h2, h3, o2, its2.toArray, n2, g1, g2, g3, by simpa using ints_are r2⟩
theorem TK.same {H H' : Hp} {k : NK} {b : Addr} (x : TK H k b) (s : ∀ c xs, H c = some (.tup xs) → H' c = some (.tup xs)) : TK H' k b := by
  obtain ⟨c, e1, e2⟩ := x
  exact ⟨c, s _ _ e1, s _ _ e2⟩
theorem ND.dict {P : Program} {w : World} {H : Hp} {h : Heap} {a : Addr} {kvs : List NEnt} (D : ND P w H a kvs) (ok : HOk P w H h) : (a == sysModules) = false ∧ ∃ xs, NV kvs xs ∧ h.DictOfH (nestKind P w) a xs := by
  obtain ⟨⟨y, xs, r, o, es, ep, h1, h2, h3, h4, h5⟩, _⟩ := (show ObjOk P w H h a (.ext (NDf P w a kvs)) from ok a _ D.at_)
  refine ⟨y, xs, r, o, es, ep, h1, h2, h3, h4, fun x hx => ?_, h5⟩
  have all : ∀ {l : List NEnt} {m : List (NK × Addr × Value)}, NV l m → (∀ p ∈ l, TK H p.1 p.2.1) → ∀ x ∈ m, (nestKind P w).is h x.1 x.2.1 := by
    intro l m q
    induction q with
    | nil => intro _ x hx; exact nomatch hx
    | @cons p q ps qs hq t ih =>
      intro hk x hx
      rcases List.mem_cons.mp hx with e | hx
      · subst e
        have z := (hk p (List.mem_cons_self ..)).is ok
        rw [hq.1, hq.2.1] at z
        exact z
      · exact ih (fun p hp => hk p (List.mem_cons_of_mem _ hp)) x hx
  exact all r D.key x hx
theorem ext_ok {P : Program} {w : World} {H : Hp} {h : Heap} {a : Addr} {kvs : List NEnt} (x : NDf P w a kvs h) : ObjOk P w H h a (.ext (NDf P w a kvs)) := by
  refine ⟨x, ?_, fun h1 h2 y k => ?_⟩
  · obtain ⟨_, _, _, o, _, _, e, _⟩ := x
    exact ⟨o, e⟩
  · obtain ⟨z, xs, r, o, es, ep, e, c⟩ := y
    exact ⟨z, xs, r, o, es, ep, k o e, c⟩
section
variable {X : Cx} {o i e value : Expr} {pos pos' : Pos} {td ty tv : TE}
noncomputable def tDNewN (P : Program) (w : World) : TE := fun _ H Q => ∀ p, H p = none → Q (.ref p) (upd H p (.ext (NDf P w p [])))
theorem pe_dnewN : PE X (.Dict [] [] pos) (tDNewN X.prog X.w) := fun pins s σ H Q I h =>
  wpAny_Dict_empty ⟨.ref s.heap.objs.size, _, I.laid (a := s.heap.objs.size) (o := .ext (NDf X.prog X.w s.heap.objs.size [])) (t' := s.toks) (fun _ _ q => Heap.get?_push_of_some _ q) (Nat.le_refl _)
    (ext_ok ⟨beq_eq_false_iff_ne.mpr (Ne.symm (Nat.ne_of_lt I.big)), [], .nil, _, #[], 0, Heap.get?_push_size _ rfl, ⟨rfl, rfl, rfl⟩, rfl, rfl, List.nodup_nil⟩), rfl, h _ (I.hok.fresh (Nat.le_refl _))⟩
noncomputable def tNGet (P : Program) (w : World) (td ty : TE) : TE := fun σ H Q => td σ H fun x H1 => ty σ H1 fun y H2 => ∃ a b kvs k v, x = .ref a ∧ y = .ref b ∧ ND P w H2 a kvs ∧ TK H2 k b ∧ getN kvs k = some v ∧ Q v H2
theorem pe_nget (hu : X.A.units + 2 < cLine) (ho : PE X o td) (hi : PE X i ty) (hs : NoSl i) : PE X (.Subscript o i pos) (tNGet X.prog X.w td ty) := by
  intro pins s σ H Q I h
  refine subD_of PySem.F.slot_dict_getitem.lookup hs (thn (ho pins s σ H _ I h) fun u s1 ⟨x, H1, I1, rx, q1⟩ => thn (hi pins s1 σ H1 _ I1 q1) fun iv s2 ⟨y, H2, I2, ry, a, b, kvs, k, v, ex, ey, D, tk, g, q2⟩ => ?_)
  subst ex ey
  obtain rfl : u = Value.ref a := rx
  obtain rfl : iv = Value.ref b := ry
  obtain ⟨hd, xs, rel, dd⟩ := D.dict I2.hok
  obtain ⟨w', hw, rw'⟩ := RelO.some_of (v := v) (o := (atKey xs k).map (·.2)) (by rw [← g]; exact rel.val k)
  obtain ⟨p, hp, hp2⟩ := Option.map_eq_some_iff.mp hw
  refine ⟨dd.typeIs, wpAny_getItem_heap (knd := nestKind X.prog X.w) hu (tk.is I2.hok) dd hp ?_⟩
  rw [hp2]
  exact ⟨v, H2, I2.tok _, rw', q2⟩
noncomputable def tNNotIn (P : Program) (w : World) (ty td : TE) : TE := fun σ H Q => ty σ H fun y H1 => td σ H1 fun x H2 => ∃ a b kvs k, x = .ref a ∧ y = .ref b ∧ ND P w H2 a kvs ∧ TK H2 k b ∧ Q (.bl (!(getN kvs k).isSome)) H2
theorem pc_nnotin (hu : X.A.units + 2 < cLine) (hi : PE X i ty) (ho : PE X o td) : PC X .NotIn i o (tNNotIn X.prog X.w ty td) := by
  intro pins s σ H Q I h
  refine thn (hi pins s σ H _ I h) fun iv s1 ⟨y, H1, I1, ry, q1⟩ => thn (ho pins s1 σ H1 _ I1 q1) fun u s2 ⟨x, H2, I2, rx, a, b, kvs, k, ex, ey, D, tk, q2⟩ => ?_
  subst ex ey
  obtain rfl : u = Value.ref a := rx
  obtain rfl : iv = Value.ref b := ry
  obtain ⟨hd, xs, rel, dd⟩ := D.dict I2.hok
  refine wpAny_notIn_heap (knd := nestKind X.prog X.w) hu (tk.is I2.hok) hd dd ?_
  have q := (rel.val k).isSome_eq
  rw [Option.isSome_map] at q
  rw [← q]
  exact ⟨.bl _, H2, I2.tok _, rfl, q2⟩
noncomputable def sNPut (P : Program) (w : World) (td ty tv : TE) : TS := fun D σ H => tv σ H fun v H1 => td σ H1 fun x H2 => ty σ H2 fun y H3 => ∃ a b kvs k, x = .ref a ∧ y = .ref b ∧ ND P w H3 a kvs ∧ TK H3 k b ∧ kvs.length ≤ sizeLine ∧ D.nx σ (upd H3 a (.ext (NDf P w a (putN kvs k b v))))
theorem ps_nput (hu : X.A.units + 2 < cLine) (ho : PE X o td) (hi : PE X i ty) (hv : PE X value tv) (hs : swapsWith value (some (.Subscript o i pos')) pos.line X.env = pure false) :
    PS X (.Assign [.Subscript o i pos'] value pos) (sNPut X.prog X.w td ty tv) := by
  intro pins s σ H D I h
  refine wpAny_Assign_Subscript (thn (hv pins s σ H _ I h) fun r s1 ⟨v, H1, I1, rv, q1⟩ => thn (ho pins s1 σ H1 _ I1 q1) fun u s2 ⟨x, H2, I2, rx, q2⟩ => thn (hi pins s2 σ H2 _ I2 q2) fun iv s3 ⟨y, H3, I3, ry, a, b, kvs, k, ex, ey, N, tk, hl, q3⟩ => ?_) hs
  subst ex ey
  obtain rfl : u = Value.ref a := rx
  obtain rfl : iv = Value.ref b := ry
  obtain ⟨hd, xs, rel, dd⟩ := N.dict I3.hok
  have hz : xs.length ≤ sizeLine := by rw [← Paired.length rel]; exact hl
  refine wpAny_setItem_heap (hsz := hz) (knd := nestKind X.prog X.w) hu (tk.is I3.hok) dd fun h' dd' sb => ?_
  obtain ⟨q, es, ep, hq, h2, h3, h4, _, h5⟩ := dd'
  exact ⟨σ, _, d_write I3 (by rw [N.at_]; exact True.intro) sb ⟨q, hq⟩ (ext_ok ⟨hd, _, rel.put k rv, q, es, ep, hq, h2, h3, h4, h5⟩), q3⟩
end
theorem ND.put {P : Program} {w : World} {H : Hp} {a b : Addr} {kvs : List NEnt} {k : NK} {v : V} (D : ND P w H a kvs) (tk : TK H k b) : ND P w (upd H a (.ext (NDf P w a (putN kvs k b v)))) a (putN kvs k b v) := by
  have st : ∀ c xs, H c = some (.tup xs) → (upd H a (.ext (NDf P w a (putN kvs k b v)))) c = some (.tup xs) := fun c xs e => by
    rw [upd_ne (ne_of e D.at_ (by intro z; cases z))]
    exact e
  refine ⟨upd_same, putN_keys D.nd, fun p hp => ?_⟩
  rcases putN_mem hp with q | ⟨e1, _, e3 | ⟨u, hu⟩⟩
  · exact (D.key p q).same st
  · rw [e1, e3]; exact tk.same st
  · rw [e1]; exact (D.key _ hu).same st
theorem ND.new {P : Program} {w : World} {H : Hp} {a : Addr} : ND P w (upd H a (.ext (NDf P w a []))) a [] := ⟨upd_same, List.nodup_nil, fun p hp => (nomatch hp)⟩
theorem ND.same {P : Program} {w : World} {H H' : Hp} {a : Addr} {kvs : List NEnt} (D : ND P w H a kvs) (s : Same H H') : ND P w H' a kvs := ⟨s _ _ D.at_, D.nd, fun p hp => (D.key p hp).same fun c xs e => s _ _ e⟩
end L2
end
section
set_option Elab.async false
set_option linter.all false
set_option maxRecDepth 100000
namespace L2
open PySem PySem.Spec PyProof.Rows
section
variable {X : Cx} {k : Nat} {f : Addr} {fd : FuncData} {ps : List Str} {sp : Sp}
theorem run_in {pins : List (Addr × Obj)} {σ : St} {H : Hp} {s : Shared} {Q : VK} {v : Value} {x : V} (F : FnOk X.prog X.w X.K X.mg X.base CX0 k f fd ps sp) (hr : Room (k + 1) X.A) (hb : Binds X.K fd ps []) (I : Inv X pins σ H s) (r : RelV x v) (h : sp [x] H Q E0)
    {E : Value → Shared → Prop} : wpAny (model X.prog X.w) X.A.in1 (call (.ref f) [v]) (EP X pins σ Q) E s := by
  have r2 : Vals [x] [v] := .cons r .nil
  have hl : ([v] ++ ([] : List Value)).length = ps.length := by rw [← F.len _ _ _ _ h]; rfl
  refine wpAny_call (codeAny_mono (F.run X.A.in1 X.stack s H ⟨[v], []⟩ [v] [x] Q E0 hr.in1 I.env0.in1 (hb s [v] I.kIn hl) r2 h) fun r s' hq => ?_)
  cases r with
  | error e => exact False.elim hq
  | ok fl =>
    cases fl with
    | ret u => exact I.after hq
    | next => exact False.elim hq
    | brk => exact False.elim hq
    | cont => exact False.elim hq
structure MinAt (X : Cx) (pins : List (Addr × Obj)) (σ : St) (H : Hp) (xs : List V) (kf : Nat → Int) (l it S : Addr) (j i : Nat) (s : Shared) : Prop where
  inv : Inv X pins σ H s
  st : s.heap.IsListIter it l (j + 1)
  best : ∃ (x : V) (v : Value) (t : Tok) (c : Nat), xs[i]? = some x ∧ RelV x v ∧ s.heap.get? S = some (seqObj "list" #[v, .int (kf i) t] c)
  least : ∀ j', j' ≤ j → kf i ≤ kf j' ∧ (j' < i → kf i < kf j')
  ij : i ≤ j
theorem min_loop {pins : List (Addr × Obj)} {σ : St} {H : Hp} {xs : List V} {kf : Nat → Int} {l it S : Addr} {R : Result → Shared → Prop} (F : FnOk X.prog X.w X.K X.mg X.base CX0 k f fd ps sp) (hr : Room (k + 1) X.A) (hb : Binds X.K fd ps []) (hc : X.calm = true)
    (hl : SqL X.K H l xs) (hf : FpOk X pins H it) (hS : FpOk X pins H S) (hne : S ≠ it) (key : ∀ i x, xs[i]? = some x → ∀ Q : VK, Q (.int (kf i)) H → sp [x] H Q E0)
    (hR : ∀ i x v s', xs[i]? = some x → RelV x v → (∀ j, j < xs.length → kf i ≤ kf j ∧ (j < i → kf i < kf j)) → Inv X pins σ H s' → R (.ok (.ret v)) s') :
    ∀ (r j i : Nat) (s : Shared), xs.length - (j + 1) = r → j + 1 ≤ xs.length → MinAt X pins σ H xs kf l it S j i s → codeAny (model X.prog X.w) X.A (.builtin "min.loop" ⟨[.ref it, .ref f, .ref S], []⟩) R s := by
  have hname : (toString "min" ++ toString ".loop" : String) = "min.loop" := by decide
  intro r
  induction r with
  | zero =>
    intro j i s hr0 hj M
    obtain ⟨I, st, ⟨x, v, t, c, hx, rx, hs⟩, hle, hij⟩ := M
    obtain ⟨its, rv, p, hz⟩ := I.list hl
    have hlen := rv.length
    refine codeAny_builtin PySem.F.entry_min_loop ?_
    rw [Around.under_plainId PySem.F.plain_min_loop _]
    refine wpAny_bind (m := seqItems? (.ref S)) (wpAny_seqItems hs rfl (wpAny_bind (m := tryCatch (pyNext (.ref it)) _) (wpAny_tryCatch (wpAny_pyNext_list_end (A := X.A.in1) (show X.A.in1.handled = none from I.ok.hd hc) st p.isList (by simp; omega) fun h' eb => ?_))))
    have I1 : Inv X pins σ H { s with heap := h' } := I.turned (t' := s.toks) (fun b o hb e => eb b o hb e) hf.1 hf.2.1 hf.2.2.2.1 hf.2.2.2.2.1 hf.2.2.2.2.2
    have hs1 : h'.get? S = some (seqObj "list" #[v, .int (kf i) t] c) := eb _ _ hne hs
    refine wpAny_bind (m := updateSeq S (fun _ => #[])) (wpAny_updateSeq hs1 rfl (wpAny_bind (wpAny_letGo (wpAny_pure ?_))))
    exact hR i x v _ hx rx (fun j' hj' => hle j' (by omega)) (I1.turned (t' := s.toks) (fun b o hb e => ((Heap.SameBut.update h' S _).2 b hb).trans e) hS.1 hS.2.1 hS.2.2.2.1 hS.2.2.2.2.1 hS.2.2.2.2.2)
  | succ r ih =>
    intro j i s hr0 hj M
    obtain ⟨I, st, ⟨x, v, t, c, hx, rx, hs⟩, hle, hij⟩ := M
    obtain ⟨its, rv, p, hz⟩ := I.list hl
    have hlt : j + 1 < xs.length := by omega
    have hy : xs[j + 1]? = some xs[j + 1] := List.getElem?_eq_getElem hlt
    obtain ⟨u, hu, ru⟩ := rv.get hy
    refine codeAny_builtin PySem.F.entry_min_loop ?_
    rw [Around.under_plainId PySem.F.plain_min_loop _]
    refine wpAny_bind (m := seqItems? (.ref S)) (wpAny_seqItems hs rfl (wpAny_bind (m := tryCatch (pyNext (.ref it)) _) (wpAny_tryCatch (wpAny_pyNext_list_item st p.isList (x := u) (by simpa using hu) fun h' st' sb => ?_))))
    have I1 : Inv X pins σ H { s with heap := h' } := I.turned (t' := s.toks) (fun b o hb e => (sb.2 b hb).trans e) hf.1 hf.2.1 hf.2.2.2.1 hf.2.2.2.2.1 hf.2.2.2.2.2
    have hs1 : h'.get? S = some (seqObj "list" #[v, .int (kf i) t] c) := (sb.2 _ hne).trans hs
    obtain ⟨oi, ei, ci, di⟩ := id st'
    have fpo : ∀ b ∈ [it, S], FpOk X pins H b := fun b hb => by
      rcases List.mem_cons.mp hb with q | q
      · rw [q]; exact hf
      · rw [List.mem_singleton.mp q]; exact hS
    have I2 := I1.pinned (fp := [it, S]) fpo (fun b hb => by
      rcases List.mem_cons.mp hb with q | q
      · rw [q]; exact ⟨oi, ei, fun v z => by rw [di] at z; cases z⟩
      · rw [List.mem_singleton.mp q]; exact ⟨_, hs1, fun v z => nomatch z⟩)
    refine wpAny_bind (m := tryCatch (holding [u] (call (.ref f) [u])) _) (wpAny_tryCatch (wpAny_holding (thn (run_in F hr hb I2 ru (key (j + 1) _ hy (fun z H' => z = .int (kf (j + 1)) ∧ H' = H) ⟨rfl, rfl⟩)) fun w' s2 hw => ?_)))
    obtain ⟨z, H2, I3, rz, ez, eH⟩ := hw
    subst eH ez
    obtain ⟨t2, rfl⟩ := rz
    have eit : s2.heap.get? it = some oi := (I3.pin (it, oi) (List.mem_append_right _ (List.mem_append_right _ (mem_pinsAt (by simp) ei)))).1
    have eS : s2.heap.get? S = some (seqObj "list" #[v, .int (kf i) t] c) := (I3.pin (S, seqObj "list" #[v, .int (kf i) t] c) (List.mem_append_right _ (List.mem_append_right _ (mem_pinsAt (by simp) hs1)))).1
    have I4 := I3.unpinned
    refine wpAny_bind (m := tryCatch (holding [u, .int (kf (j + 1)) t2] (richCompare .Lt (.int (kf (j + 1)) t2) (.int (kf i) t) >>= _)) _) (wpAny_tryCatch (wpAny_holding (wpAny_bind (HT.rcLt_int _ _ _ _ _ _ _ _ _ _ (wpAny_bind (wpAny_holding (wpAny_truthy_bool (wpAny_bind (wpAny_letGo (wpAny_pure ?_))))))))))
    by_cases hlt2 : kf (j + 1) < kf i
    · simp only [hlt2, decide_true, if_true]
      have s1 := Heap.SameBut.update s2.heap S (Obj.mapSeq fun _ => #[u, .int (kf (j + 1)) t2])
      have e2 : (s2.heap.update S (Obj.mapSeq fun _ => #[u, .int (kf (j + 1)) t2])).get? S = some (seqObj "list" #[u, .int (kf (j + 1)) t2] _) := get?_update_seq eS fun _ => #[u, .int (kf (j + 1)) t2]
      refine wpAny_bind (wpAny_updateSeq eS rfl (wpAny_bind (wpAny_letGo ?_)))
      rw [hname]
      refine wpAny_pure ⟨plainId_quiet PySem.F.plain_min_loop _, ih (j + 1) (j + 1) _ (by omega) hlt ⟨?_, ⟨oi, (s1.2 it hne.symm).trans eit, ci, di⟩, ⟨_, u, t2, _, hy, ru, e2⟩, fun j' hj' => ?_, Nat.le_refl _⟩⟩
      · exact I4.turned (t' := s2.toks) (fun b o hb e => (s1.2 b hb).trans e) hS.1 hS.2.1 hS.2.2.2.1 hS.2.2.2.2.1 hS.2.2.2.2.2
      · by_cases e : j' = j + 1
        · subst e
          exact ⟨Int.le_refl _, fun q => absurd q (Nat.lt_irrefl _)⟩
        · have h1 := (hle j' (by omega)).1
          exact ⟨by omega, fun _ => by omega⟩
    · simp only [hlt2, decide_false, Bool.false_eq_true, if_false]
      refine wpAny_bind (wpAny_letGo ?_)
      rw [hname]
      refine wpAny_pure ⟨plainId_quiet PySem.F.plain_min_loop _, ih (j + 1) i _ (by omega) hlt ⟨I4, ⟨oi, eit, ci, di⟩, ⟨x, v, t, c, hx, rx, eS⟩, fun j' hj' => ?_, by omega⟩⟩
      by_cases e : j' = j + 1
      · subst e
        exact ⟨by omega, fun q => by omega⟩
      · exact hle j' (by omega)
theorem min_keyed {pins : List (Addr × Obj)} {σ : St} {H : Hp} {s : Shared} {xs : List V} {kf : Nat → Int} {l : Addr} {Q : VK} (F : FnOk X.prog X.w X.K X.mg X.base CX0 k f fd ps sp) (hr : Room (k + 1) X.A) (hb : Binds X.K fd ps []) (hc : X.calm = true)
    (I : Inv X pins σ H s) (hl : SqL X.K H l xs) (hpos : 0 < xs.length) (key : ∀ i x, xs[i]? = some x → ∀ Q : VK, Q (.int (kf i)) H → sp [x] H Q E0)
    (hQ : ∀ i x, xs[i]? = some x → (∀ j, j < xs.length → kf i ≤ kf j ∧ (j < i → kf i < kf j)) → Q x H) : wpAny (model X.prog X.w) X.A (call (.builtin "min") [.ref l] [(Str.ofString "key", .ref f)]) (EP X pins σ Q) X.xe s := by
  have hname : (toString "min" ++ toString ".loop" : String) = "min.loop" := by decide
  obtain ⟨its, rv, p, hz⟩ := I.list hl
  have hx0 : xs[0]? = some xs[0] := List.getElem?_eq_getElem hpos
  obtain ⟨u, hu, ru⟩ := rv.get hx0
  refine kmk_tree PySem.F.kind_min PySem.F.plain_min PySem.F.entry_min (kmk_min_key _ _) (?_ : wpAny _ X.A.in1 (Builtin.Builtins.bindParams "min" ["key", "default"] 0 ⟨[], [(Str.ofString "key", .ref f)]⟩ >>= _) _ _ s)
  refine wpAny_bind (wpAny_of_eq (show Builtin.Builtins.bindParams "min" ["key", "default"] 0 ⟨[], [(Str.ofString "key", .ref f)]⟩ = pure [some (.ref f), none] from rfl) (wpAny_bind (wpAny_pure (wpAny_bind (wpAny_pyIter_list p.isList (wpAny_bind (wpAny_newList ?_ (Nat.zero_le _))))))))
  rw [hname]
  generalize hit : s.heap.objs.size = it
  have nit : H it = none := I.hok.fresh (Nat.le_of_eq hit)
  have I1 : Inv X pins σ H { s with heap := s.heap.push { cls := .type "list_iterator", data := .fields #[.ref l, .int 0 0] } } := I.kept (t' := s.toks) fun b o e => Heap.get?_push_of_some _ e
  have ei0 : (s.heap.push { cls := .type "list_iterator", data := .fields #[.ref l, .int 0 0] }).get? it = some { cls := .type "list_iterator", data := .fields #[.ref l, .int 0 0] } := by rw [← hit]; exact Heap.get?_push_size _ rfl
  have fit : FpOk X pins H it := I.fpOk (Nat.le_of_eq hit) nit
  have hsz : (s.heap.push { cls := .type "list_iterator", data := .fields #[.ref l, .int 0 0] }).objs.size = it + 1 := by rw [← hit]; exact Heap.size_push ..
  generalize s.heap.push { cls := .type "list_iterator", data := .fields #[.ref l, .int 0 0] } = h1 at I1 ei0 hsz ⊢
  have nS : H h1.objs.size = none := I1.hok.fresh (Nat.le_refl _)
  have fS : FpOk X pins H h1.objs.size := I1.fpOk (Nat.le_refl _) nS
  have hne : h1.objs.size ≠ it := by rw [hsz]; exact Nat.ne_of_gt (Nat.lt_succ_self _)
  have I2 : Inv X pins σ H { s with heap := h1.push { cls := .type "list", data := .seq ([] : List Value).toArray } } := I1.kept (t' := s.toks) fun b o e => Heap.get?_push_of_some _ e
  have eS0 : (h1.push { cls := .type "list", data := .seq ([] : List Value).toArray }).get? h1.objs.size = some (seqObj "list" #[] 0) := Heap.get?_push_size _ rfl
  have ei1 : (h1.push { cls := .type "list", data := .seq ([] : List Value).toArray }).get? it = some { cls := .type "list_iterator", data := .fields #[.ref l, .int 0 0] } := Heap.get?_push_of_some _ ei0
  have p2 := (I2.list hl)
  obtain ⟨its2, rv2, p2, _⟩ := p2
  obtain ⟨u2, hu2, ru2⟩ := rv2.get hx0
  generalize hS : h1.objs.size = S at fS hne eS0 nS
  refine wpAny_pure ⟨plainId_quiet PySem.F.plain_min_loop _, codeAny_builtin PySem.F.entry_min_loop ?_⟩
  rw [Around.under_plainId PySem.F.plain_min_loop _]
  refine wpAny_bind (m := seqItems? (.ref S)) (wpAny_seqItems eS0 rfl (wpAny_bind (m := tryCatch (pyNext (.ref it)) _) (wpAny_tryCatch (wpAny_pyNext_list_item (i := 0) ⟨_, ei1, rfl, rfl⟩ p2.isList (x := u2) (by simpa using hu2) fun h' st' sb => ?_))))
  have I3 : Inv X pins σ H { s with heap := h' } := I2.turned (t' := s.toks) (fun b o hb e => (sb.2 b hb).trans e) fit.1 fit.2.1 fit.2.2.2.1 fit.2.2.2.2.1 fit.2.2.2.2.2
  have eS1 : h'.get? S = some (seqObj "list" #[] 0) := (sb.2 _ hne).trans eS0
  obtain ⟨oi, ei, ci, di⟩ := id st'
  have fpo : ∀ b ∈ [it, S], FpOk X pins H b := fun b hb => by
    rcases List.mem_cons.mp hb with q | q
    · rw [q]; exact fit
    · rw [List.mem_singleton.mp q]; exact fS
  have I4 := I3.pinned (fp := [it, S]) fpo (fun b hb => by
    rcases List.mem_cons.mp hb with q | q
    · rw [q]; exact ⟨oi, ei, fun v z => by rw [di] at z; cases z⟩
    · rw [List.mem_singleton.mp q]; exact ⟨_, eS1, fun v z => nomatch z⟩)
  refine wpAny_bind (m := tryCatch (holding [u2] (call (.ref f) [u2])) _) (wpAny_tryCatch (wpAny_holding (thn (run_in F hr hb I4 ru2 (key 0 _ hx0 (fun z H' => z = .int (kf 0) ∧ H' = H) ⟨rfl, rfl⟩)) fun w' s2 hw => ?_)))
  obtain ⟨z, H2, I5, rz, ez, eH⟩ := hw
  subst eH ez
  obtain ⟨t2, rfl⟩ := rz
  have eit : s2.heap.get? it = some oi := (I5.pin (it, oi) (List.mem_append_right _ (List.mem_append_right _ (mem_pinsAt (by simp) ei)))).1
  have eS : s2.heap.get? S = some (seqObj "list" #[] 0) := (I5.pin (S, seqObj "list" #[] 0) (List.mem_append_right _ (List.mem_append_right _ (mem_pinsAt (by simp) eS1)))).1
  have I6 := I5.unpinned
  have s1 := Heap.SameBut.update s2.heap S (Obj.mapSeq fun _ => #[u2, .int (kf 0) t2])
  have e2 : (s2.heap.update S (Obj.mapSeq fun _ => #[u2, .int (kf 0) t2])).get? S = some (seqObj "list" #[u2, .int (kf 0) t2] _) := get?_update_seq eS fun _ => #[u2, .int (kf 0) t2]
  refine wpAny_bind (m := updateSeq S (fun _ => #[u2, .int (kf 0) t2])) (wpAny_updateSeq eS rfl ?_)
  rw [hname]
  refine wpAny_pure ⟨plainId_quiet PySem.F.plain_min_loop _, min_loop F hr hb hc hl fit fS hne key (fun i x v s' hx rx hm J => ⟨x, _, J, rx, hQ i x hx hm⟩) _ 0 0 _ rfl hpos ⟨?_, ⟨oi, (s1.2 it hne.symm).trans eit, ci, di⟩, ⟨_, u2, t2, _, hx0, ru2, e2⟩, fun j' hj' => ?_, Nat.le_refl _⟩⟩
  · exact I6.turned (t' := s2.toks) (fun b o hb e => (s1.2 b hb).trans e) fS.1 fS.2.1 fS.2.2.2.1 fS.2.2.2.2.1 fS.2.2.2.2.2
  · have e : j' = 0 := by omega
    subst e
    exact ⟨Int.le_refl _, fun q => absurd q (Nat.lt_irrefl _)⟩
noncomputable def tMinKey (K : PySem.W.Frag) (sp : Sp) (te : TE) : TE := fun σ H Q => te σ H fun x H1 => ∃ (l : Addr) (xs : List V) (kf : Nat → Int), x = .ref l ∧ SqL K H1 l xs ∧ 0 < xs.length ∧ (∀ i y, xs[i]? = some y → ∀ R : VK, R (.int (kf i)) H1 → sp [y] H1 R E0) ∧
  ∀ i y, xs[i]? = some y → (∀ j, j < xs.length → kf i ≤ kf j ∧ (j < i → kf i < kf j)) → Q y H1
theorem boot_min6 : bootBuiltins "min" = some (.builtin "min") := by decide +kernel
theorem pe_minKey {e : Expr} {te : TE} {g : Str} {p pos gp kp : Pos} (F : FnOk X.prog X.w X.K X.mg X.base CX0 k f fd ps sp) (hr : Room (k + 1) X.A) (hb : Binds X.K fd ps []) (hc : X.calm = true) (hgm : Gl X "min") (hm : X.mg "min" = none) (hg : Gl X g) (hmg : X.mg g = some (.ref f))
    (he : PE X e te) (hs : starEach [e] X.env = [(false, eval e X.env)] := by rfl) (hdb : (g == ("__debug__" : Str)) = false := by decide)
    (hks : (backToKw pos (keywordEach [⟨some "key", .Name g gp, kp⟩] X.env)).filterMap (·.1) = [Str.ofString "key"] := by rfl)
    (hk2 : (backToKw pos (keywordEach [⟨some "key", .Name g gp, kp⟩] X.env)).map (·.2) = [do let v ← eval (.Name g gp) X.env; standAt pos; pure v] := by rfl)
    (h1 : backTo pos (starEach [e] X.env) = (false, eval e X.env) :: backTo pos (starEach [] X.env) := by rfl)
    (h2 : (backTo pos (starEach [e] X.env)).any (·.1) = false := by rfl) (h3 : (backToKw pos (keywordEach [⟨some "key", .Name g gp, kp⟩] X.env)).all (·.1.isSome) = true := by rfl)
    (h4 : (backToKw pos (keywordEach [⟨some "key", .Name g gp, kp⟩] X.env)).any (·.1.isNone) = false := by rfl) :
    PE X (.Call (.Name "min" p) [e] [⟨some "key", .Name g gp, kp⟩] pos) (tMinKey X.K sp te) := by
  intro pins s σ H Q I h
  refine wpAny_Call_Name_kw (ld_blt I hgm hm boot_min6 (callWith_kw ?_ h1 h2 h3 h4))
  have hA : PA X [e] (tCons te tNil) := pa_cons he pa_nil hs
  refine thn (hA pos pins s σ H (fun vs H1 => match vs with
    | [x] => ∃ (l : Addr) (xs : List V) (kf : Nat → Int), x = .ref l ∧ SqL X.K H1 l xs ∧ 0 < xs.length ∧ (∀ i y, xs[i]? = some y → ∀ R : VK, R (.int (kf i)) H1 → sp [y] H1 R E0) ∧ ∀ i y, xs[i]? = some y → (∀ j, j < xs.length → kf i ≤ kf j ∧ (j < i → kf i < kf j)) → Q y H1
    | _ => False) I h) fun us s1 ⟨vs, H1, I1, r1, q⟩ => ?_
  match vs, q with
  | [_], ⟨l, xs, kf, ex2, hl, hpos, hkey, hq⟩ =>
    subst ex2
    rw [Vals.ref1 r1, hks, hk2]
    refine wpAny_evalAll_cons (wpAny_bind (ld_glob I1 hg hmg (wpAny_bind (wpAny_standAt (wpAny_pure (wpAny_evalAll_nil ?_)))) hdb))
    exact min_keyed F hr hb hc I1 hl hpos hkey hq
end
end L2
end
section
set_option Elab.async false
set_option linter.all false
set_option maxRecDepth 100000
namespace L2
open PySem PySem.Spec PyProof.Rows
noncomputable def rCat0 (K : PySem.W.Frag) : R2 := fun x y H Q => ∃ a b ys, x = .ref a ∧ y = .ref b ∧ SqT K H a [] ∧ SqT K H b ys ∧ Q (.ref b) H
theorem op_cat0 {X : Cx} : OpR X (binaryOp .Add) (rCat0 X.K) := by
  intro pins s σ H x y v u Q I rx ry h
  obtain ⟨a, b, ys, rfl, rfl, ha, hb, q⟩ := h
  cases rx
  cases ry
  obtain ⟨its, r1, p1, _⟩ := I.tuple ha
  obtain ⟨its2, r2, p2, _⟩ := I.tuple hb
  cases r1
  obtain ⟨⟨cls, dd, data, sl⟩, ho, hc, n, hd⟩ := p1
  obtain ⟨⟨cls2, dd2, data2, sl2⟩, ho2, hc2, n2, hd2⟩ := p2
  simp only at hc hd hc2 hd2
  subst hc hd hc2 hd2
  exact concat_meets ⟨_, ho, rfl⟩ ⟨_, ho2, rfl⟩ noFill_tuple_add seq_tuple_add PySem.F.slot_tuple_add PySem.F.entry_tuple_add (PySem.F.args_tuple_add_2 _ _)
    (tuple_addW0 a b _ its2.toArray n n2 dd dd2 sl sl2 (by simp)) ⟨ho, ho2, ⟨.ref b, H, I, rfl, q⟩⟩
noncomputable def vAddr : Value → Addr
  | .ref a => a
  | _ => 0
noncomputable def pairLe (p q : Int × Int) : Prop := p.1 < q.1 ∨ (p.1 = q.1 ∧ p.2 ≤ q.2)
noncomputable def rSortedP (K : PySem.W.Frag) : List V → Hp → VK → Prop := fun vs H Q => ∃ (l : Addr) (qs : List Addr) (kf : Addr → Int × Int), vs = [V.ref l] ∧ SqL K H l (qs.map V.ref) ∧ (∀ q ∈ qs, H q = some (.tup [.int (kf q).1, .int (kf q).2])) ∧
  ∀ (qs' : List Addr) (p : Addr), qs'.Perm qs → qs'.Pairwise (fun x y => pairLe (kf x) (kf y)) → H p = none → Q (.ref p) (upd H p (.lst (qs'.map V.ref)))
theorem Vals.refs : ∀ {qs : List Addr} {us : List Value}, Vals (qs.map V.ref) us → us = qs.map Value.ref
  | [], us, h => by
    rw [List.map_nil] at h
    cases h
    rfl
  | q :: qs, us, h => by
    rw [List.map_cons] at h
    cases h with
    | cons r t =>
      cases r
      rw [Vals.refs t, List.map_cons]
theorem vals_refs : ∀ (qs : List Addr), Vals (qs.map V.ref) (qs.map Value.ref)
  | [] => .nil
  | q :: qs => .cons rfl (vals_refs qs)
theorem zip_dup : ∀ (l : List Addr), (l.map Value.ref).zip (l.map Value.ref) = l.map fun x => (Value.ref x, Value.ref x)
  | [] => rfl
  | x :: l => by
    rw [List.map_cons, List.zip_cons_cons, zip_dup l]
    rfl
theorem cr_sortedP {X : Cx} : CallR X (.builtin "sorted") (rSortedP X.K) := by
  intro pins s σ H vs us Q I r h
  obtain ⟨l, qs, kf, rfl, hs, ht, q⟩ := h
  obtain ⟨its, rv, hl, hz⟩ := I.list hs
  rw [Vals.ref1 r]
  have ei := rv.refs
  subst ei
  have tup : ∀ x ∈ qs, ∃ (o : Obj) (t u : Tok) (n : Nat), s.heap.get? x = some o ∧ o.cls = .type "tuple" ∧ o.data = .seq #[.int (kf x).1 t, .int (kf x).2 u] n := fun x hx => by
    obtain ⟨_, its2, r2, o, h1, h2, n, h3⟩ := (show ObjOk X.prog X.w H s.heap x (.tup [.int (kf x).1, .int (kf x).2]) from I.hok x _ (ht x hx))
    obtain ⟨t, u, e⟩ := Vals.int2 r2
    subst e
    exact ⟨o, t, u, n, h1, h2, h3⟩
  have keyOf : ∀ x ∈ qs, G.tupKeyC s.heap (fun _ => false) (.ref x) = some [Sum.inl (kf x).1, Sum.inl (kf x).2] := fun x hx => by
    obtain ⟨o, t, u, n, h1, h2, h3⟩ := tup x hx
    unfold G.tupKeyC
    have e1 : G.isTupObj s.heap (.ref x) = true := by simp [G.isTupObj, h1, h2]
    rw [if_pos e1]
    simp only [tupKey, h1, h3]
    rfl
  have tof : ∀ (l : List Addr), (∀ x ∈ l, x ∈ qs) → ∃ fs, TupsOf s.heap (fun _ => false) (l.map Value.ref) fs := by
    intro l
    induction l with
    | nil => intro _; exact ⟨[], .nil⟩
    | cons x l ih =>
      intro hm
      obtain ⟨fs, hf⟩ := ih fun y hy => hm y (List.mem_cons_of_mem _ hy)
      obtain ⟨o, t, u, n, h1, h2, h3⟩ := tup x (hm x (List.mem_cons_self ..))
      exact ⟨_, .cons ⟨x, o, _, n, rfl, h1, h2, h3, rfl, fun _ => ⟨_, _, rfl⟩, fun e => absurd e (by decide)⟩ hf⟩
  obtain ⟨fs, hf⟩ := tof qs fun _ h => h
  refine G.sorted_tups (vs := qs.map Value.ref) hl.isList hf (fun v hv => ?_) (by rw [List.length_map]; rw [List.length_map] at hz; exact hz) fun st' hp hsrt _ => ?_
  · obtain ⟨x, hx, rfl⟩ := List.mem_map.mp hv
    exact ⟨_, keyOf x hx⟩
  · have pl : (arrOf st').toList.Perm ((qs.map Value.ref).zip (qs.map Value.ref)) := by
      have e := Array.perm_iff_toList_perm.mp hp
      rw [pairsOf_toList] at e
      exact e
    rw [zip_dup] at pl
    have hq' : ((arrOf st').toList.map fun p => vAddr p.2).Perm qs := by
      have e := pl.map fun p => vAddr p.2
      rw [List.map_map] at e
      have e2 : ((fun p : Value × Value => vAddr p.2) ∘ fun x => (Value.ref x, Value.ref x)) = id := rfl
      rw [e2, List.map_id] at e
      exact e
    have hall : (arrOf st').toList = ((arrOf st').toList.map fun p => vAddr p.2).map fun x => (Value.ref x, Value.ref x) := by
      rw [List.map_map]
      refine (List.map_id _).symm.trans (List.map_congr_left fun p hp' => ?_)
      obtain ⟨x, _, e⟩ := List.mem_map.mp (pl.mem_iff.mp hp')
      subst e
      rfl
    generalize hqd : ((arrOf st').toList.map fun p => vAddr p.2) = qs' at hq' hall
    obtain ⟨ep, he'⟩ := PyProof.Rows.sortedAll_at s.heap (qs.map Value.ref) ((arrOf st').map (·.2))
    have eout : (arrOf st').map (·.2) = (qs'.map Value.ref).toArray := by
      refine Array.ext' ?_
      rw [Array.toList_map, hall, List.map_map]
      rfl
    have hlen : (qs'.map V.ref).length ≤ sizeLine := by
      rw [List.length_map] at hz ⊢
      rw [hq'.length_eq]
      exact hz
    have srt : qs'.Pairwise (fun x y => pairLe (kf x) (kf y)) := by
      refine List.pairwise_iff_getElem.mpr fun i j hi hj hij => ?_
      have ai : (arrOf st')[i]? = some (Value.ref qs'[i], Value.ref qs'[i]) := by
        rw [← Array.getElem?_toList, hall, List.getElem?_map, List.getElem?_eq_getElem hi]
        rfl
      have aj : (arrOf st')[j]? = some (Value.ref qs'[j], Value.ref qs'[j]) := by
        rw [← Array.getElem?_toList, hall, List.getElem?_map, List.getElem?_eq_getElem hj]
        rfl
      have k0 : KK (G.tupKindC s.heap fun _ => false) (arrOf st') i = [Sum.inl (kf qs'[i]).1, Sum.inl (kf qs'[i]).2] := by
        unfold KK
        rw [ai]
        show (G.tupKeyC s.heap (fun _ => false) (.ref qs'[i])).getD [] = _
        rw [keyOf _ (hq'.mem_iff.mp (List.getElem_mem hi))]
        rfl
      have k1 : KK (G.tupKindC s.heap fun _ => false) (arrOf st') j = [Sum.inl (kf qs'[j]).1, Sum.inl (kf qs'[j]).2] := by
        unfold KK
        rw [aj]
        show (G.tupKeyC s.heap (fun _ => false) (.ref qs'[j])).getD [] = _
        rw [keyOf _ (hq'.mem_iff.mp (List.getElem_mem hj))]
        rfl
      have z := hsrt i j (Nat.le_of_lt hij) (by rw [pairsOf_size, List.length_map, ← hq'.length_eq]; exact hj)
      rw [k0, k1] at z
      have z : (decide ((kf qs'[j]).1 < (kf qs'[i]).1) || (!decide ((kf qs'[i]).1 < (kf qs'[j]).1) && (decide ((kf qs'[j]).2 < (kf qs'[i]).2) || (!decide ((kf qs'[i]).2 < (kf qs'[j]).2) && false)))) = false := z
      simp only [Bool.or_eq_false_iff, Bool.and_eq_false_iff, decide_eq_false_iff_not, Bool.not_eq_false', decide_eq_true_eq] at z
      unfold pairLe
      omega
    refine ⟨.ref _, upd H (s.heap.objs.size + 1) (.lst (qs'.map V.ref)), I.laid (t' := s.toks) (fun _ _ => PyProof.Rows.sortedAll_old) (Nat.le_succ _) ⟨hlen, qs'.map Value.ref, ep, vals_refs qs', ?_⟩, rfl, q qs' _ hq' srt (I.hok.fresh (Nat.le_succ _))⟩
    rw [he', eout]
end L2
end
section
set_option Elab.async false
set_option linter.all false
set_option maxRecDepth 100000
namespace L2
open PySem PySem.Spec PyProof.Rows
theorem Same.upd {H : Hp} {a : Addr} {o : HO} (h : H a = none) : Same H (upd H a o) := fun b u e => by
  rw [upd_ne (ne_of_none e h)]
  exact e
theorem Same.upd' {H H' : Hp} {a : Addr} {o : HO} (s : Same H H') (h : H a = none) : Same H (L2.upd H' a o) := fun b u e => by
  rw [upd_ne (ne_of_none e h)]
  exact s b u e
noncomputable def But (D : Addr) (H H' : Hp) : Prop := ∀ b o, b ≠ D → H b = some o → H' b = some o
theorem range_filter_succ (p : Nat → Bool) (n : Nat) : (List.range (n + 1)).filter p = (List.range n).filter p ++ (if p n = true then [n] else []) := by
  rw [List.range_succ, List.filter_append]
  congr 1
  by_cases h : p n = true
  · rw [if_pos h, List.filter_cons, if_pos h]
    rfl
  · rw [if_neg h, List.filter_cons, if_neg h]
    rfl
theorem filter_len (p : Nat → Bool) (n : Nat) : ((List.range n).filter p).length ≤ n := by
  have := List.length_filter_le p (List.range n)
  rw [List.length_range] at this
  exact this
section
variable {σ : St} {H1 : Hp} {D : Addr} {Qd : Hp → Prop} {g : TG} {tt : TT} {te : TE} {vs : List Nat}
noncomputable def LcI (H1 : Hp) (D : Addr) (p : Nat → Bool) (R : Nat → V → Hp → Prop) (i : Nat) (H : Hp) : Prop := Same H1 H ∧ ∃ acc, H D = some (.lst acc) ∧ Paired (fun i y => R i y H) ((List.range i).filter p) acc
theorem lc_turn {p : Nat → Bool} {R : Nat → V → Hp → Prop} (hD : H1 D = none) (st : ∀ i y H H', But D H H' → R i y H → R i y H') {i n : Nat} (hi : i < n) (hz : n ≤ sizeLine) {x : V} {H H' : Hp} (hI : LcI H1 D p R i H) (s0 : Same H H')
    (h : ∀ (Q : VK) (N : Hp → Prop), (p i = true → ∀ y H4, Same H' H4 → R i y H4 → Q y H4) → (p i = false → ∀ H3, Same H' H3 → N H3) → g x (wipe σ vs) H' fun σ2 H2 => wipe σ2 vs = wipe σ vs ∧ tt σ2 H2 fun b H3 => if b = true then te σ2 H3 Q else N H3) :
    g x (wipe σ vs) H' fun σ2 H2 => wipe σ2 vs = wipe σ vs ∧ tt σ2 H2 fun b H3 => if b = true then te σ2 H3 fun y H4 => ∃ acc, H4 D = some (.lst acc) ∧ acc.length < sizeLine ∧ LcI H1 D p R (i + 1) (upd H4 D (.lst (acc ++ [y]))) else LcI H1 D p R (i + 1) H3 := by
  obtain ⟨s1, acc, ha, hp⟩ := hI
  refine h _ _ (fun pt y H4 s4 r => ?_) (fun pf H3 s3 => ?_)
  · have s04 := s0.trans s4
    have hl : acc.length < sizeLine := by
      have e := Paired.length hp
      have := filter_len p i
      omega
    refine ⟨acc, s04 _ _ ha, hl, ?_, acc ++ [y], upd_same, ?_⟩
    · exact fun b o e => by
        rw [upd_ne (ne_of_none e hD)]
        exact s04 b o (s1 b o e)
    · rw [range_filter_succ, if_pos pt]
      have bt : But D H (upd H4 D (.lst (acc ++ [y]))) := fun b o hb e => by rw [upd_ne hb]; exact s04 b o e
      have bt4 : But D H4 (upd H4 D (.lst (acc ++ [y]))) := fun b o hb e => by rw [upd_ne hb]; exact e
      exact Paired.snoc (Paired.mapP hp fun j z q => st j z _ _ bt q) (st i y _ _ bt4 r)
  · have s03 := s0.trans s3
    refine ⟨fun b o e => s03 b o (s1 b o e), acc, s03 _ _ ha, ?_⟩
    rw [range_filter_succ, if_neg (by rw [pf]; simp), List.append_nil]
    exact Paired.mapP hp fun j z q => st j z _ _ (fun b o _ e => s03 b o e) q
theorem LcI.zero {p : Nat → Bool} {R : Nat → V → Hp → Prop} (hD : H1 D = none) : LcI H1 D p R 0 (upd H1 D (.lst [])) := ⟨Same.upd hD, [], upd_same, .nil⟩
theorem lcf_list {K : PySem.W.Frag} {a : Addr} {xs : List V} (p : Nat → Bool) (R : Nat → V → Hp → Prop) (hD : H1 D = none) (hl : SqL K H1 a xs) (hz : xs.length ≤ sizeLine) (st : ∀ i y H H', But D H H' → R i y H → R i y H')
    (hs : ∀ i x H (Q : VK) (N : Hp → Prop), xs[i]? = some x → Same H1 H → (∃ acc, H D = some (.lst acc)) → (p i = true → ∀ y H4, Same H H4 → R i y H4 → Q y H4) → (p i = false → ∀ H3, Same H H3 → N H3) →
      g x (wipe σ vs) H fun σ2 H2 => wipe σ2 vs = wipe σ vs ∧ tt σ2 H2 fun b H3 => if b = true then te σ2 H3 Q else N H3)
    (hd : ∀ H acc, Same H1 H → H D = some (.lst acc) → Paired (fun i y => R i y H) ((List.range xs.length).filter p) acc → Qd H) :
    ∃ W : Nat → Nat → Hp → Prop, (∃ m, W 0 m (upd H1 D (.lst []))) ∧ ∀ i m H, W i m H →
      ((Itl K a).stop i H ∧ Qd H) ∨ ((Itl K a).go i H ∧ ∃ Nx : Hp → Prop, (∀ H', Nx H' → ∃ m', m' < m ∧ W (i + 1) m' H') ∧ ∀ x H', (Itl K a).yld i H x H' → g x (wipe σ vs) H' fun σ2 H2 => wipe σ2 vs = wipe σ vs ∧ tt σ2 H2 fun b H3 =>
        if b = true then te σ2 H3 fun y H4 => ∃ acc, H4 D = some (.lst acc) ∧ acc.length < sizeLine ∧ Nx (upd H4 D (.lst (acc ++ [y]))) else Nx H3) := by
  refine lc_list (LcI H1 D p R) (LcI.zero hD) (fun i H _ hI => hI.1.seq hl) (fun i x H hx hI => ?_) (fun H hI => ?_)
  · have hi : i < xs.length := (List.getElem?_eq_some_iff.mp hx).1
    refine lc_turn hD st hi hz hI (Same.refl _) fun Q N h1 h2 => hs i x H Q N hx hI.1 ?_ h1 h2
    obtain ⟨_, acc, ha, _⟩ := hI
    exact ⟨acc, ha⟩
  · obtain ⟨s, acc, ha, hp⟩ := hI
    exact hd H acc s ha hp
theorem lcf_range {lo : Int} {n : Nat} (p : Nat → Bool) (R : Nat → V → Hp → Prop) (hD : H1 D = none) (hz : n ≤ sizeLine) (st : ∀ i y H H', But D H H' → R i y H → R i y H')
    (hs : ∀ i H (Q : VK) (N : Hp → Prop), i < n → Same H1 H → (∃ acc, H D = some (.lst acc)) → (p i = true → ∀ y H4, Same H H4 → R i y H4 → Q y H4) → (p i = false → ∀ H3, Same H H3 → N H3) →
      g (.int (lo + i)) (wipe σ vs) H fun σ2 H2 => wipe σ2 vs = wipe σ vs ∧ tt σ2 H2 fun b H3 => if b = true then te σ2 H3 Q else N H3)
    (hd : ∀ H acc, Same H1 H → H D = some (.lst acc) → Paired (fun i y => R i y H) ((List.range n).filter p) acc → Qd H) :
    ∃ W : Nat → Nat → Hp → Prop, (∃ m, W 0 m (upd H1 D (.lst []))) ∧ ∀ i m H, W i m H →
      ((Itr lo n).stop i H ∧ Qd H) ∨ ((Itr lo n).go i H ∧ ∃ Nx : Hp → Prop, (∀ H', Nx H' → ∃ m', m' < m ∧ W (i + 1) m' H') ∧ ∀ x H', (Itr lo n).yld i H x H' → g x (wipe σ vs) H' fun σ2 H2 => wipe σ2 vs = wipe σ vs ∧ tt σ2 H2 fun b H3 =>
        if b = true then te σ2 H3 fun y H4 => ∃ acc, H4 D = some (.lst acc) ∧ acc.length < sizeLine ∧ Nx (upd H4 D (.lst (acc ++ [y]))) else Nx H3) := by
  refine lc_range (LcI H1 D p R) (LcI.zero hD) (fun i H hi hI => ?_) (fun H hI => ?_)
  · refine lc_turn hD st hi hz hI (Same.refl _) fun Q N h1 h2 => hs i H Q N hi hI.1 ?_ h1 h2
    obtain ⟨_, acc, ha, _⟩ := hI
    exact ⟨acc, ha⟩
  · obtain ⟨s, acc, ha, hp⟩ := hI
    exact hd H acc s ha hp
theorem SqX.same {K : PySem.W.Frag} {q : Bool} {H H' : Hp} {a : Addr} {xs : List V} (s : Same H H') (h : SqX K q H a xs) : SqX K q H' a xs := by
  cases q
  · exact s.seq (show SqL K H a xs from h)
  · have h : SqT K H a xs := h
    show SqT K H' a xs
    rcases h with (h | ⟨o, h⟩) | h
    · exact .inl (.inl (s _ _ h))
    · exact .inl (.inr ⟨o, s _ _ h⟩)
    · exact .inr h
theorem lcf_zip {K : PySem.W.Frag} {q1 q2 : Bool} {a b : Addr} {xs ys : List V} (p : Nat → Bool) (R : Nat → V → Hp → Prop) (hD : H1 D = none) (hx : SqX K q1 H1 a xs) (hy : SqX K q2 H1 b ys) (hxy : xs.length = ys.length) (hz : xs.length ≤ sizeLine)
    (st : ∀ i y H H', But D H H' → R i y H → R i y H')
    (hs : ∀ i x y T H (Q : VK) (N : Hp → Prop), xs[i]? = some x → ys[i]? = some y → H T = some (.tup [x, y]) → Same H1 H → (∃ acc, H D = some (.lst acc)) → (p i = true → ∀ y H4, Same H H4 → R i y H4 → Q y H4) → (p i = false → ∀ H3, Same H H3 → N H3) →
      g (.ref T) (wipe σ vs) H fun σ2 H2 => wipe σ2 vs = wipe σ vs ∧ tt σ2 H2 fun b H3 => if b = true then te σ2 H3 Q else N H3)
    (hd : ∀ H acc, Same H1 H → H D = some (.lst acc) → Paired (fun i y => R i y H) ((List.range xs.length).filter p) acc → Qd H) :
    ∃ W : Nat → Nat → Hp → Prop, (∃ m, W 0 m (upd H1 D (.lst []))) ∧ ∀ i m H, W i m H →
      ((Itq K q1 q2 a b).stop i H ∧ Qd H) ∨ ((Itq K q1 q2 a b).go i H ∧ ∃ Nx : Hp → Prop, (∀ H', Nx H' → ∃ m', m' < m ∧ W (i + 1) m' H') ∧ ∀ x H', (Itq K q1 q2 a b).yld i H x H' → g x (wipe σ vs) H' fun σ2 H2 => wipe σ2 vs = wipe σ vs ∧ tt σ2 H2 fun b H3 =>
        if b = true then te σ2 H3 fun y H4 => ∃ acc, H4 D = some (.lst acc) ∧ acc.length < sizeLine ∧ Nx (upd H4 D (.lst (acc ++ [y]))) else Nx H3) := by
  refine ⟨fun i m H => m = xs.length - i ∧ i ≤ xs.length ∧ LcI H1 D p R i H, ⟨xs.length, by simp, Nat.zero_le _, LcI.zero hD⟩, ?_⟩
  rintro i m H ⟨rfl, hi, hI⟩
  have hx' := SqX.same hI.1 hx
  have hy' := SqX.same hI.1 hy
  by_cases hlt : i < xs.length
  · have hlt2 : i < ys.length := by omega
    refine .inr ⟨⟨xs, ys, xs[i], ys[i], hx', hy', by simp [hlt], by simp [hlt2]⟩, LcI H1 D p R (i + 1), fun H' p' => ⟨xs.length - (i + 1), by omega, rfl, hlt, p'⟩, fun v H' hv => ?_⟩
    obtain ⟨T, x, y, rfl, hT, rfl, e1, e2⟩ := hv
    have s0 : Same H (upd H T (.tup [x, y])) := Same.upd hT
    refine lc_turn hD st hlt hz hI s0 fun Q N h1 h2 => hs i x y T _ Q N (e1 xs hx') (e2 ys hy') upd_same (hI.1.trans s0) ?_ h1 h2
    obtain ⟨_, acc, ha, _⟩ := hI
    exact ⟨acc, s0 _ _ ha⟩
  · have e : i = xs.length := by omega
    subst e
    refine .inl ⟨⟨xs, ys, hx', hy', .inl (Nat.le_refl _)⟩, ?_⟩
    obtain ⟨s, acc, ha, hp⟩ := hI
    exact hd H acc s ha hp
end
theorem paired_eq {f : Nat → V} : ∀ {l : List Nat} {acc : List V} {H : Hp}, Paired (fun i y => y = f i) l acc → acc = l.map f
  | _, _, _, .nil => rfl
  | _, _, H, .cons h t => by rw [h, paired_eq (H := H) t, List.map_cons]
theorem filter_true (n : Nat) : (List.range n).filter (fun _ => true) = List.range n := List.filter_eq_self.mpr fun _ _ => rfl
theorem ints_of {n : Nat} {zs : List Int} {acc : List V} {H : Hp} (hn : zs.length = n) (h : Paired (fun i y => ∃ z, zs[i]? = some z ∧ y = V.int z) ((List.range n).filter fun _ => true) acc) : acc = zs.map V.int := by
  rw [filter_true] at h
  have h2 : Paired (fun i y => y = V.int (zs.getD i 0)) (List.range n) acc := Paired.mapP h fun i y ⟨z, e1, e2⟩ => by
    rw [e2, List.getD_eq_getElem?_getD, e1]
    rfl
  rw [paired_eq (H := H) h2]
  refine List.ext_getElem? fun i => ?_
  rw [List.getElem?_map, List.getElem?_map]
  by_cases hi : i < n
  · have hi2 : i < zs.length := by omega
    rw [List.getElem?_range hi, List.getElem?_eq_getElem hi2]
    show some (V.int (zs.getD i 0)) = some (V.int zs[i])
    rw [List.getD_eq_getElem?_getD, List.getElem?_eq_getElem hi2]
    rfl
  · rw [List.getElem?_eq_none (by rw [List.length_range]; omega), List.getElem?_eq_none (by omega)]
    rfl
theorem refs_of {n : Nat} {O : Nat → HO} {D : Addr} : ∀ {l : List Nat} {acc : List V} {H : Hp}, Paired (fun i y => ∃ q, y = V.ref q ∧ q ≠ D ∧ H q = some (O i)) l acc → ∃ qs : List Addr, acc = qs.map V.ref ∧ Paired (fun i q => q ≠ D ∧ H q = some (O i)) l qs
  | _, _, _, .nil => ⟨[], rfl, .nil⟩
  | _, _, H, .cons h t => by
    obtain ⟨q, e, h1⟩ := h
    obtain ⟨qs, e2, h2⟩ := refs_of (n := n) t
    exact ⟨q :: qs, by rw [e, e2, List.map_cons], .cons h1 h2⟩
theorem Paired.get' {α β : Type} {F : α → β → Prop} : ∀ {l : List α} {m : List β} {i : Nat} {y : β}, Paired F l m → m[i]? = some y → ∃ x, l[i]? = some x ∧ F x y
  | _, _, _, _, .nil, e => by simp at e
  | _, _, 0, _, .cons r _, e => by simp at e; subst e; exact ⟨_, rfl, r⟩
  | _, _, i + 1, y, .cons _ t, e => by
    obtain ⟨x, h1, h2⟩ := Paired.get' (i := i) (y := y) t (by simpa using e)
    exact ⟨x, by simpa using h1, h2⟩
theorem boot_sum6 : bootBuiltins "sum" = some (.builtin "sum") := by decide +kernel
theorem boot_sorted6 : bootBuiltins "sorted" = some (.builtin "sorted") := by decide +kernel
theorem boot_list6 : bootBuiltins "list" = some (.type "list") := by decide +kernel
theorem boot_tuple6 : bootBuiltins "tuple" = some (.type "tuple") := by decide +kernel
theorem yes_go {σ : St} {H : Hp} {f g : Hp → Prop} (h : f H) : tYes σ H (fun b H3 => if b = true then f H3 else g H3) := by
  show (if true = true then f H else g H)
  rw [if_pos rfl]
  exact h
theorem pg_pair {X : Cx} {K : PySem.W.Frag} {es : List Expr} {k : Nat} {pos : Pos} {t : TGs} (hK : X.K = K) (hc : X.calm = true) (h : PGs X es t) (hn : (assignEach es X.env).length = 2) (hst : (assignEach es X.env).findIdx? (·.1) = none) : PG X (.Tuple es k pos) (gTup K 2 t) := by
  subst hK
  exact pg_tup hc h hn hst
end L2
end
section
set_option Elab.async false
set_option linter.all false
set_option maxRecDepth 100000
set_option genInjectivity false
set_option genSizeOf false
set_option maxHeartbeats 0
namespace Hp
open PySem L2
noncomputable def top (i : Nat) : Stmt := PySem.Challenge.pw_herdwhole_s01_answers.main.body.getD i (.Pass ⟨0, 0, 0, 0⟩)
noncomputable abbrev sMating_init : Stmt := inClass (top 10) 0
noncomputable abbrev sShare_init : Stmt := inClass (top 17) 0
noncomputable abbrev sAnimal_init : Stmt := inClass (top 41) 0
noncomputable abbrev sHerd_init : Stmt := inClass (top 42) 0
noncomputable abbrev sHerd_begin : Stmt := inClass (top 42) 1
noncomputable abbrev sHerd_take_in : Stmt := inClass (top 42) 2
noncomputable abbrev sHerd_breed : Stmt := inClass (top 42) 3
noncomputable abbrev sHerd_let_go : Stmt := inClass (top 42) 4
noncomputable abbrev sHerd_tell_kin : Stmt := inClass (top 42) 5
noncomputable abbrev sHerd_tell_herd : Stmt := inClass (top 42) 6
noncomputable abbrev sHerd_tell_plan : Stmt := inClass (top 42) 7
noncomputable abbrev sHerd_enter : Stmt := inClass (top 42) 8
noncomputable abbrev sHerd_holds : Stmt := inClass (top 42) 9
noncomputable abbrev sHerd_is_female : Stmt := inClass (top 42) 10
noncomputable abbrev sHerd_living_numbers : Stmt := inClass (top 42) 11
noncomputable abbrev sadd_to_table : Stmt := top 2
noncomputable abbrev skin_with_earlier : Stmt := top 3
noncomputable abbrev skin_with_itself : Stmt := top 4
noncomputable abbrev skin_to_all : Stmt := top 5
noncomputable abbrev skin_between : Stmt := top 6
noncomputable abbrev sways_to_share : Stmt := top 8
noncomputable abbrev sleast_mating : Stmt := top 11
noncomputable abbrev sleast_rest : Stmt := top 12
noncomputable abbrev sless : Stmt := top 13
noncomputable abbrev srow_cost : Stmt := top 14
noncomputable abbrev scost_of : Stmt := top 15
noncomputable abbrev sleast_share : Stmt := top 18
noncomputable abbrev skin_among : Stmt := top 19
noncomputable abbrev sweighed : Stmt := top 20
noncomputable abbrev spull_of_male : Stmt := top 21
noncomputable abbrev swith_added : Stmt := top 22
noncomputable abbrev sleast_from : Stmt := top 23
noncomputable abbrev sleast_of_ways : Stmt := top 24
noncomputable abbrev sakin_in : Stmt := top 25
noncomputable abbrev splan_numbers : Stmt := top 29
noncomputable abbrev sbreeders : Stmt := top 30
noncomputable abbrev sfilled_up : Stmt := top 31
noncomputable abbrev sanswers : Stmt := top 51
noncomputable abbrev sanswer_call : Stmt := top 52
structure Adr where
  cMating : Addr
  cShare : Addr
  cAnimal : Addr
  cHerd : Addr
  fMating_init : Addr
  fShare_init : Addr
  fAnimal_init : Addr
  fHerd_init : Addr
  fHerd_begin : Addr
  fHerd_take_in : Addr
  fHerd_breed : Addr
  fHerd_let_go : Addr
  fHerd_tell_kin : Addr
  fHerd_tell_herd : Addr
  fHerd_tell_plan : Addr
  fHerd_enter : Addr
  fHerd_holds : Addr
  fHerd_is_female : Addr
  fHerd_living_numbers : Addr
  fadd_to_table : Addr
  fkin_with_earlier : Addr
  fkin_with_itself : Addr
  fkin_to_all : Addr
  fkin_between : Addr
  fways_to_share : Addr
  fleast_mating : Addr
  fleast_rest : Addr
  fless : Addr
  frow_cost : Addr
  fcost_of : Addr
  fleast_share : Addr
  fkin_among : Addr
  fweighed : Addr
  fpull_of_male : Addr
  fwith_added : Addr
  fleast_from : Addr
  fleast_of_ways : Addr
  fakin_in : Addr
  fplan_numbers : Addr
  fbreeders : Addr
  ffilled_up : Addr
  fanswers : Addr
  fanswer_call : Addr
structure Top (K : PySem.W.Frag) (mg : Str → Option Value) (t : Adr) : Prop where
  clMating : Cls K t.cMating
  mgMating : mg "Mating" = some (.ref t.cMating)
  mkMating : Mk K t.cMating t.fMating_init
  noMating_cost : NoAttr K t.cMating "cost"
  noMating_rows : NoAttr K t.cMating "rows"
  clShare : Cls K t.cShare
  mgShare : mg "Share" = some (.ref t.cShare)
  mkShare : Mk K t.cShare t.fShare_init
  noShare_akin : NoAttr K t.cShare "akin"
  noShare_of_males : NoAttr K t.cShare "of_males"
  noShare_of_females : NoAttr K t.cShare "of_females"
  clAnimal : Cls K t.cAnimal
  mgAnimal : mg "Animal" = some (.ref t.cAnimal)
  mkAnimal : Mk K t.cAnimal t.fAnimal_init
  noAnimal_female : NoAttr K t.cAnimal "female"
  noAnimal_living : NoAttr K t.cAnimal "living"
  clHerd : Cls K t.cHerd
  mgHerd : mg "Herd" = some (.ref t.cHerd)
  mkHerd : Mk K t.cHerd t.fHerd_init
  noHerd_animals : NoAttr K t.cHerd "animals"
  noHerd_table : NoAttr K t.cHerd "table"
  fnMating_init : ∃ fd, Fun K "__init__" "Mating.__init__" sMating_init t.fMating_init fd ∧ Binds K fd ["self", "cost", "rows"] []
  fnShare_init : ∃ fd, Fun K "__init__" "Share.__init__" sShare_init t.fShare_init fd ∧ Binds K fd ["self", "akin", "of_males", "of_females"] []
  fnAnimal_init : ∃ fd, Fun K "__init__" "Animal.__init__" sAnimal_init t.fAnimal_init fd ∧ Binds K fd ["self", "female"] []
  fnHerd_init : ∃ fd, Fun K "__init__" "Herd.__init__" sHerd_init t.fHerd_init fd ∧ Binds K fd ["self"] []
  fnHerd_begin : ∃ fd, Fun K "begin" "Herd.begin" sHerd_begin t.fHerd_begin fd ∧ Binds K fd ["self"] []
  meHerd_begin : Meth K t.cHerd "begin" t.fHerd_begin
  fnHerd_take_in : ∃ fd, Fun K "take_in" "Herd.take_in" sHerd_take_in t.fHerd_take_in fd ∧ Binds K fd ["self", "female"] []
  meHerd_take_in : Meth K t.cHerd "take_in" t.fHerd_take_in
  fnHerd_breed : ∃ fd, Fun K "breed" "Herd.breed" sHerd_breed t.fHerd_breed fd ∧ Binds K fd ["self", "sire", "dam", "female"] []
  meHerd_breed : Meth K t.cHerd "breed" t.fHerd_breed
  fnHerd_let_go : ∃ fd, Fun K "let_go" "Herd.let_go" sHerd_let_go t.fHerd_let_go fd ∧ Binds K fd ["self", "number"] []
  meHerd_let_go : Meth K t.cHerd "let_go" t.fHerd_let_go
  fnHerd_tell_kin : ∃ fd, Fun K "tell_kin" "Herd.tell_kin" sHerd_tell_kin t.fHerd_tell_kin fd ∧ Binds K fd ["self", "number", "other"] []
  meHerd_tell_kin : Meth K t.cHerd "tell_kin" t.fHerd_tell_kin
  fnHerd_tell_herd : ∃ fd, Fun K "tell_herd" "Herd.tell_herd" sHerd_tell_herd t.fHerd_tell_herd fd ∧ Binds K fd ["self"] []
  meHerd_tell_herd : Meth K t.cHerd "tell_herd" t.fHerd_tell_herd
  fnHerd_tell_plan : ∃ fd, Fun K "tell_plan" "Herd.tell_plan" sHerd_tell_plan t.fHerd_tell_plan fd ∧ Binds K fd ["self", "young"] []
  meHerd_tell_plan : Meth K t.cHerd "tell_plan" t.fHerd_tell_plan
  fnHerd_enter : ∃ fd, Fun K "enter" "Herd.enter" sHerd_enter t.fHerd_enter fd ∧ Binds K fd ["self", "sire", "dam", "female"] []
  meHerd_enter : Meth K t.cHerd "enter" t.fHerd_enter
  fnHerd_holds : ∃ fd, Fun K "holds" "Herd.holds" sHerd_holds t.fHerd_holds fd ∧ Binds K fd ["self", "number"] []
  meHerd_holds : Meth K t.cHerd "holds" t.fHerd_holds
  fnHerd_is_female : ∃ fd, Fun K "is_female" "Herd.is_female" sHerd_is_female t.fHerd_is_female fd ∧ Binds K fd ["self", "number"] []
  meHerd_is_female : Meth K t.cHerd "is_female" t.fHerd_is_female
  fnHerd_living_numbers : ∃ fd, Fun K "living_numbers" "Herd.living_numbers" sHerd_living_numbers t.fHerd_living_numbers fd ∧ Binds K fd ["self"] []
  meHerd_living_numbers : Meth K t.cHerd "living_numbers" t.fHerd_living_numbers
  fnadd_to_table : ∃ fd, Fun K "add_to_table" "add_to_table" sadd_to_table t.fadd_to_table fd ∧ Binds K fd ["table", "sire", "dam"] []
  mgadd_to_table : mg "add_to_table" = some (.ref t.fadd_to_table)
  kpadd_to_table : PySem.W.keepIn K (.ref t.fadd_to_table) = true
  fnkin_with_earlier : ∃ fd, Fun K "kin_with_earlier" "kin_with_earlier" skin_with_earlier t.fkin_with_earlier fd ∧ Binds K fd ["table", "sire", "dam"] []
  mgkin_with_earlier : mg "kin_with_earlier" = some (.ref t.fkin_with_earlier)
  kpkin_with_earlier : PySem.W.keepIn K (.ref t.fkin_with_earlier) = true
  fnkin_with_itself : ∃ fd, Fun K "kin_with_itself" "kin_with_itself" skin_with_itself t.fkin_with_itself fd ∧ Binds K fd ["table", "sire", "dam"] []
  mgkin_with_itself : mg "kin_with_itself" = some (.ref t.fkin_with_itself)
  kpkin_with_itself : PySem.W.keepIn K (.ref t.fkin_with_itself) = true
  fnkin_to_all : ∃ fd, Fun K "kin_to_all" "kin_to_all" skin_to_all t.fkin_to_all fd ∧ Binds K fd ["table", "animal", "others"] []
  mgkin_to_all : mg "kin_to_all" = some (.ref t.fkin_to_all)
  kpkin_to_all : PySem.W.keepIn K (.ref t.fkin_to_all) = true
  fnkin_between : ∃ fd, Fun K "kin_between" "kin_between" skin_between t.fkin_between fd ∧ Binds K fd ["table", "animals", "others"] []
  mgkin_between : mg "kin_between" = some (.ref t.fkin_between)
  kpkin_between : PySem.W.keepIn K (.ref t.fkin_between) = true
  fnways_to_share : ∃ fd, Fun K "ways_to_share" "ways_to_share" sways_to_share t.fways_to_share fd ∧ Binds K fd ["count", "rooms"] []
  mgways_to_share : mg "ways_to_share" = some (.ref t.fways_to_share)
  kpways_to_share : PySem.W.keepIn K (.ref t.fways_to_share) = true
  fnleast_mating : ∃ fd, Fun K "least_mating" "least_mating" sleast_mating t.fleast_mating fd ∧ Binds K fd ["across", "of_males", "of_females"] []
  mgleast_mating : mg "least_mating" = some (.ref t.fleast_mating)
  kpleast_mating : PySem.W.keepIn K (.ref t.fleast_mating) = true
  fnleast_rest : ∃ fd, Fun K "least_rest" "least_rest" sleast_rest t.fleast_rest fd ∧ Binds K fd ["across", "of_males", "male", "left", "known"] []
  mgleast_rest : mg "least_rest" = some (.ref t.fleast_rest)
  kpleast_rest : PySem.W.keepIn K (.ref t.fleast_rest) = true
  fnless : ∃ fd, Fun K "less" "less" sless t.fless fd ∧ Binds K fd ["counts", "row"] []
  mgless : mg "less" = some (.ref t.fless)
  kpless : PySem.W.keepIn K (.ref t.fless) = true
  fnrow_cost : ∃ fd, Fun K "row_cost" "row_cost" srow_cost t.frow_cost fd ∧ Binds K fd ["kin", "row"] []
  mgrow_cost : mg "row_cost" = some (.ref t.frow_cost)
  kprow_cost : PySem.W.keepIn K (.ref t.frow_cost) = true
  fncost_of : ∃ fd, Fun K "cost_of" "cost_of" scost_of t.fcost_of fd ∧ Binds K fd ["mating"] []
  mgcost_of : mg "cost_of" = some (.ref t.fcost_of)
  kpcost_of : PySem.W.keepIn K (.ref t.fcost_of) = true
  fnleast_share : ∃ fd, Fun K "least_share" "least_share" sleast_share t.fleast_share fd ∧ Binds K fd ["males_kin", "females_kin", "across", "young"] []
  mgleast_share : mg "least_share" = some (.ref t.fleast_share)
  kpleast_share : PySem.W.keepIn K (.ref t.fleast_share) = true
  fnkin_among : ∃ fd, Fun K "kin_among" "kin_among" skin_among t.fkin_among fd ∧ Binds K fd ["kin", "counts"] []
  mgkin_among : mg "kin_among" = some (.ref t.fkin_among)
  kpkin_among : PySem.W.keepIn K (.ref t.fkin_among) = true
  fnweighed : ∃ fd, Fun K "weighed" "weighed" sweighed t.fweighed fd ∧ Binds K fd ["numbers", "counts"] []
  mgweighed : mg "weighed" = some (.ref t.fweighed)
  kpweighed : PySem.W.keepIn K (.ref t.fweighed) = true
  fnpull_of_male : ∃ fd, Fun K "pull_of_male" "pull_of_male" spull_of_male t.fpull_of_male fd ∧ Binds K fd ["row", "females_ways"] []
  mgpull_of_male : mg "pull_of_male" = some (.ref t.fpull_of_male)
  kppull_of_male : PySem.W.keepIn K (.ref t.fpull_of_male) = true
  fnwith_added : ∃ fd, Fun K "with_added" "with_added" swith_added t.fwith_added fd ∧ Binds K fd ["numbers", "count", "more"] []
  mgwith_added : mg "with_added" = some (.ref t.fwith_added)
  kpwith_added : PySem.W.keepIn K (.ref t.fwith_added) = true
  fnleast_from : ∃ fd, Fun K "least_from" "least_from" sleast_from t.fleast_from fd ∧ Binds K fd ["males_kin", "moves", "counts", "left", "costs"] []
  mgleast_from : mg "least_from" = some (.ref t.fleast_from)
  kpleast_from : PySem.W.keepIn K (.ref t.fleast_from) = true
  fnleast_of_ways : ∃ fd, Fun K "least_of_ways" "least_of_ways" sleast_of_ways t.fleast_of_ways fd ∧ Binds K fd ["males_kin", "counts", "costs"] []
  mgleast_of_ways : mg "least_of_ways" = some (.ref t.fleast_of_ways)
  kpleast_of_ways : PySem.W.keepIn K (.ref t.fleast_of_ways) = true
  fnakin_in : ∃ fd, Fun K "akin_in" "akin_in" sakin_in t.fakin_in fd ∧ Binds K fd ["found"] []
  mgakin_in : mg "akin_in" = some (.ref t.fakin_in)
  kpakin_in : PySem.W.keepIn K (.ref t.fakin_in) = true
  fnplan_numbers : ∃ fd, Fun K "plan_numbers" "plan_numbers" splan_numbers t.fplan_numbers fd ∧ Binds K fd ["table", "males", "females", "young"] []
  mgplan_numbers : mg "plan_numbers" = some (.ref t.fplan_numbers)
  kpplan_numbers : PySem.W.keepIn K (.ref t.fplan_numbers) = true
  fnbreeders : ∃ fd, Fun K "breeders" "breeders" sbreeders t.fbreeders fd ∧ Binds K fd ["table", "animals", "herd"] []
  mgbreeders : mg "breeders" = some (.ref t.fbreeders)
  kpbreeders : PySem.W.keepIn K (.ref t.fbreeders) = true
  fnfilled_up : ∃ fd, Fun K "filled_up" "filled_up" sfilled_up t.ffilled_up fd ∧ Binds K fd ["values", "blank"] []
  mgfilled_up : mg "filled_up" = some (.ref t.ffilled_up)
  kpfilled_up : PySem.W.keepIn K (.ref t.ffilled_up) = true
  fnanswers : ∃ fd, Fun K "answers" "answers" sanswers t.fanswers fd ∧ Binds K fd ["calls"] []
  mganswers : mg "answers" = some (.ref t.fanswers)
  kpanswers : PySem.W.keepIn K (.ref t.fanswers) = true
  fnanswer_call : ∃ fd, Fun K "answer_call" "answer_call" sanswer_call t.fanswer_call fd ∧ Binds K fd ["herd", "call", "given"] []
  mganswer_call : mg "answer_call" = some (.ref t.fanswer_call)
  kpanswer_call : PySem.W.keepIn K (.ref t.fanswer_call) = true
  iCERTAIN : ∃ u, mg "CERTAIN" = some (.int 281474976710656 u)
  iMOST_OF_A_SEX : ∃ u, mg "MOST_OF_A_SEX" = some (.int 4 u)
  iNO_BREEDER : ∃ u, mg "NO_BREEDER" = some (.int 255 u)
  iMOST_ANIMALS : ∃ u, mg "MOST_ANIMALS" = some (.int 24 u)
  iMOST_YOUNG : ∃ u, mg "MOST_YOUNG" = some (.int 8 u)
  iNOT_IN_BOOK : ∃ u, mg "NOT_IN_BOOK" = some (.int (-2) u)
  iGONE_ALREADY : ∃ u, mg "GONE_ALREADY" = some (.int (-11) u)
  iWRONG_SEX : ∃ u, mg "WRONG_SEX" = some (.int (-13) u)
  iBAD_NUMBER : ∃ u, mg "BAD_NUMBER" = some (.int (-22) u)
  iBOOK_FULL : ∃ u, mg "BOOK_FULL" = some (.int (-28) u)
  iNO_PAIR : ∃ u, mg "NO_PAIR" = some (.int (-33) u)
  iHB_START : ∃ u, mg "HB_START" = some (.int 0 u)
  iHB_NEW : ∃ u, mg "HB_NEW" = some (.int 1 u)
  iHB_BORN : ∃ u, mg "HB_BORN" = some (.int 2 u)
  iHB_GONE : ∃ u, mg "HB_GONE" = some (.int 3 u)
  iHB_KIN : ∃ u, mg "HB_KIN" = some (.int 4 u)
  iHB_HERD : ∃ u, mg "HB_HERD" = some (.int 5 u)
  tGIVEN_COUNTS : ∃ g, mg "GIVEN_COUNTS" = some (.ref g) ∧ ∀ H, SqT K H g [.int 0, .int 1, .int 3, .int 1, .int 2, .int 0, .int 1]
  blen : mg "len" = none
  blist : mg "list" = none
  bmin : mg "min" = none
  brange : mg "range" = none
  bsorted : mg "sorted" = none
  bsum : mg "sum" = none
  btuple : mg "tuple" = none
  bzip : mg "zip" = none
set_option maxHeartbeats 4000000 in
@[elab_as_elim] theorem us1 {A : Type} {M : List A → Prop} (us : List A) (h : us.length = 1) (f : ∀ a, M [a]) : M us := match us, h with
  | [_], _ => f _
@[elab_as_elim] theorem us2 {A : Type} {M : List A → Prop} (us : List A) (h : us.length = 2) (f : ∀ a b, M [a, b]) : M us := match us, h with
  | [_, _], _ => f _ _
@[elab_as_elim] theorem us3 {A : Type} {M : List A → Prop} (us : List A) (h : us.length = 3) (f : ∀ a b c, M [a, b, c]) : M us := match us, h with
  | [_, _, _], _ => f _ _ _
@[elab_as_elim] theorem us4 {A : Type} {M : List A → Prop} (us : List A) (h : us.length = 4) (f : ∀ a b c d, M [a, b, c, d]) : M us := match us, h with
  | [_, _, _, _], _ => f _ _ _ _
@[elab_as_elim] theorem us5 {A : Type} {M : List A → Prop} (us : List A) (h : us.length = 5) (f : ∀ a b c d e, M [a, b, c, d, e]) : M us := match us, h with
  | [_, _, _, _, _], _ => f _ _ _ _ _
theorem top_mk {K : PySem.W.Frag} {h : Heap} {mg : Str → Option Value} (X : K.In h) (G : h.Ns mainGlobals mg)
    {cMating : Addr}
    {cShare : Addr}
    {cAnimal : Addr}
    {cHerd : Addr}
    {fMating_init : Addr} {odMating_init anMating_init : Option Addr} {slMating_init : Array (Option Value)} {ocMating_init kVMating_init dcMating_init pmMating_init cdMating_init ctMating_init : Value}
    {fShare_init : Addr} {odShare_init anShare_init : Option Addr} {slShare_init : Array (Option Value)} {ocShare_init kVShare_init dcShare_init pmShare_init cdShare_init ctShare_init : Value}
    {fAnimal_init : Addr} {odAnimal_init anAnimal_init : Option Addr} {slAnimal_init : Array (Option Value)} {ocAnimal_init kVAnimal_init dcAnimal_init pmAnimal_init cdAnimal_init ctAnimal_init : Value}
    {fHerd_init : Addr} {odHerd_init anHerd_init : Option Addr} {slHerd_init : Array (Option Value)} {ocHerd_init kVHerd_init dcHerd_init pmHerd_init cdHerd_init ctHerd_init : Value}
    {fHerd_begin : Addr} {odHerd_begin anHerd_begin : Option Addr} {slHerd_begin : Array (Option Value)} {ocHerd_begin kVHerd_begin dcHerd_begin pmHerd_begin cdHerd_begin ctHerd_begin : Value}
    {fHerd_take_in : Addr} {odHerd_take_in anHerd_take_in : Option Addr} {slHerd_take_in : Array (Option Value)} {ocHerd_take_in kVHerd_take_in dcHerd_take_in pmHerd_take_in cdHerd_take_in ctHerd_take_in : Value}
    {fHerd_breed : Addr} {odHerd_breed anHerd_breed : Option Addr} {slHerd_breed : Array (Option Value)} {ocHerd_breed kVHerd_breed dcHerd_breed pmHerd_breed cdHerd_breed ctHerd_breed : Value}
    {fHerd_let_go : Addr} {odHerd_let_go anHerd_let_go : Option Addr} {slHerd_let_go : Array (Option Value)} {ocHerd_let_go kVHerd_let_go dcHerd_let_go pmHerd_let_go cdHerd_let_go ctHerd_let_go : Value}
    {fHerd_tell_kin : Addr} {odHerd_tell_kin anHerd_tell_kin : Option Addr} {slHerd_tell_kin : Array (Option Value)} {ocHerd_tell_kin kVHerd_tell_kin dcHerd_tell_kin pmHerd_tell_kin cdHerd_tell_kin ctHerd_tell_kin : Value}
    {fHerd_tell_herd : Addr} {odHerd_tell_herd anHerd_tell_herd : Option Addr} {slHerd_tell_herd : Array (Option Value)} {ocHerd_tell_herd kVHerd_tell_herd dcHerd_tell_herd pmHerd_tell_herd cdHerd_tell_herd ctHerd_tell_herd : Value}
    {fHerd_tell_plan : Addr} {odHerd_tell_plan anHerd_tell_plan : Option Addr} {slHerd_tell_plan : Array (Option Value)} {ocHerd_tell_plan kVHerd_tell_plan dcHerd_tell_plan pmHerd_tell_plan cdHerd_tell_plan ctHerd_tell_plan : Value}
    {fHerd_enter : Addr} {odHerd_enter anHerd_enter : Option Addr} {slHerd_enter : Array (Option Value)} {ocHerd_enter kVHerd_enter dcHerd_enter pmHerd_enter cdHerd_enter ctHerd_enter : Value}
    {fHerd_holds : Addr} {odHerd_holds anHerd_holds : Option Addr} {slHerd_holds : Array (Option Value)} {ocHerd_holds kVHerd_holds dcHerd_holds pmHerd_holds cdHerd_holds ctHerd_holds : Value}
    {fHerd_is_female : Addr} {odHerd_is_female anHerd_is_female : Option Addr} {slHerd_is_female : Array (Option Value)} {ocHerd_is_female kVHerd_is_female dcHerd_is_female pmHerd_is_female cdHerd_is_female ctHerd_is_female : Value}
    {fHerd_living_numbers : Addr} {odHerd_living_numbers anHerd_living_numbers : Option Addr} {slHerd_living_numbers : Array (Option Value)} {ocHerd_living_numbers kVHerd_living_numbers dcHerd_living_numbers pmHerd_living_numbers cdHerd_living_numbers ctHerd_living_numbers : Value}
    {fadd_to_table : Addr} {odadd_to_table anadd_to_table : Option Addr} {sladd_to_table : Array (Option Value)} {ocadd_to_table kVadd_to_table dcadd_to_table pmadd_to_table cdadd_to_table ctadd_to_table : Value}
    {fkin_with_earlier : Addr} {odkin_with_earlier ankin_with_earlier : Option Addr} {slkin_with_earlier : Array (Option Value)} {ockin_with_earlier kVkin_with_earlier dckin_with_earlier pmkin_with_earlier cdkin_with_earlier ctkin_with_earlier : Value}
    {fkin_with_itself : Addr} {odkin_with_itself ankin_with_itself : Option Addr} {slkin_with_itself : Array (Option Value)} {ockin_with_itself kVkin_with_itself dckin_with_itself pmkin_with_itself cdkin_with_itself ctkin_with_itself : Value}
    {fkin_to_all : Addr} {odkin_to_all ankin_to_all : Option Addr} {slkin_to_all : Array (Option Value)} {ockin_to_all kVkin_to_all dckin_to_all pmkin_to_all cdkin_to_all ctkin_to_all : Value}
    {fkin_between : Addr} {odkin_between ankin_between : Option Addr} {slkin_between : Array (Option Value)} {ockin_between kVkin_between dckin_between pmkin_between cdkin_between ctkin_between : Value}
    {fways_to_share : Addr} {odways_to_share anways_to_share : Option Addr} {slways_to_share : Array (Option Value)} {ocways_to_share kVways_to_share dcways_to_share pmways_to_share cdways_to_share ctways_to_share : Value}
    {fleast_mating : Addr} {odleast_mating anleast_mating : Option Addr} {slleast_mating : Array (Option Value)} {ocleast_mating kVleast_mating dcleast_mating pmleast_mating cdleast_mating ctleast_mating : Value}
    {fleast_rest : Addr} {odleast_rest anleast_rest : Option Addr} {slleast_rest : Array (Option Value)} {ocleast_rest kVleast_rest dcleast_rest pmleast_rest cdleast_rest ctleast_rest : Value}
    {fless : Addr} {odless anless : Option Addr} {slless : Array (Option Value)} {ocless kVless dcless pmless cdless ctless : Value}
    {frow_cost : Addr} {odrow_cost anrow_cost : Option Addr} {slrow_cost : Array (Option Value)} {ocrow_cost kVrow_cost dcrow_cost pmrow_cost cdrow_cost ctrow_cost : Value}
    {fcost_of : Addr} {odcost_of ancost_of : Option Addr} {slcost_of : Array (Option Value)} {occost_of kVcost_of dccost_of pmcost_of cdcost_of ctcost_of : Value}
    {fleast_share : Addr} {odleast_share anleast_share : Option Addr} {slleast_share : Array (Option Value)} {ocleast_share kVleast_share dcleast_share pmleast_share cdleast_share ctleast_share : Value}
    {fkin_among : Addr} {odkin_among ankin_among : Option Addr} {slkin_among : Array (Option Value)} {ockin_among kVkin_among dckin_among pmkin_among cdkin_among ctkin_among : Value}
    {fweighed : Addr} {odweighed anweighed : Option Addr} {slweighed : Array (Option Value)} {ocweighed kVweighed dcweighed pmweighed cdweighed ctweighed : Value}
    {fpull_of_male : Addr} {odpull_of_male anpull_of_male : Option Addr} {slpull_of_male : Array (Option Value)} {ocpull_of_male kVpull_of_male dcpull_of_male pmpull_of_male cdpull_of_male ctpull_of_male : Value}
    {fwith_added : Addr} {odwith_added anwith_added : Option Addr} {slwith_added : Array (Option Value)} {ocwith_added kVwith_added dcwith_added pmwith_added cdwith_added ctwith_added : Value}
    {fleast_from : Addr} {odleast_from anleast_from : Option Addr} {slleast_from : Array (Option Value)} {ocleast_from kVleast_from dcleast_from pmleast_from cdleast_from ctleast_from : Value}
    {fleast_of_ways : Addr} {odleast_of_ways anleast_of_ways : Option Addr} {slleast_of_ways : Array (Option Value)} {ocleast_of_ways kVleast_of_ways dcleast_of_ways pmleast_of_ways cdleast_of_ways ctleast_of_ways : Value}
    {fakin_in : Addr} {odakin_in anakin_in : Option Addr} {slakin_in : Array (Option Value)} {ocakin_in kVakin_in dcakin_in pmakin_in cdakin_in ctakin_in : Value}
    {fplan_numbers : Addr} {odplan_numbers anplan_numbers : Option Addr} {slplan_numbers : Array (Option Value)} {ocplan_numbers kVplan_numbers dcplan_numbers pmplan_numbers cdplan_numbers ctplan_numbers : Value}
    {fbreeders : Addr} {odbreeders anbreeders : Option Addr} {slbreeders : Array (Option Value)} {ocbreeders kVbreeders dcbreeders pmbreeders cdbreeders ctbreeders : Value}
    {ffilled_up : Addr} {odfilled_up anfilled_up : Option Addr} {slfilled_up : Array (Option Value)} {ocfilled_up kVfilled_up dcfilled_up pmfilled_up cdfilled_up ctfilled_up : Value}
    {fanswers : Addr} {odanswers ananswers : Option Addr} {slanswers : Array (Option Value)} {ocanswers kVanswers dcanswers pmanswers cdanswers ctanswers : Value}
    {fanswer_call : Addr} {odanswer_call ananswer_call : Option Addr} {slanswer_call : Array (Option Value)} {ocanswer_call kVanswer_call dcanswer_call pmanswer_call cdanswer_call ctanswer_call : Value}
    {uCERTAIN : Tok}
    {uMOST_OF_A_SEX : Tok}
    {uNO_BREEDER : Tok}
    {uMOST_ANIMALS : Tok}
    {uMOST_YOUNG : Tok}
    {uNOT_IN_BOOK : Tok}
    {uGONE_ALREADY : Tok}
    {uWRONG_SEX : Tok}
    {uBAD_NUMBER : Tok}
    {uBOOK_FULL : Tok}
    {uNO_PAIR : Tok}
    {uHB_START : Tok}
    {uHB_NEW : Tok}
    {uHB_BORN : Tok}
    {uHB_GONE : Tok}
    {uHB_KIN : Tok}
    {uHB_HERD : Tok}
    {qGIVEN_COUNTS : Addr} {odGIVEN_COUNTS : Option Addr} {nGIVEN_COUNTS : Nat} {slGIVEN_COUNTS : Array (Option Value)} {uGIVEN_COUNTS_0 uGIVEN_COUNTS_1 uGIVEN_COUNTS_2 uGIVEN_COUNTS_3 uGIVEN_COUNTS_4 uGIVEN_COUNTS_5 uGIVEN_COUNTS_6 : Tok}
    (aMating : PySem.W.nsIn K mainGlobals "Mating" = some (some (.ref cMating)))
    (aShare : PySem.W.nsIn K mainGlobals "Share" = some (some (.ref cShare)))
    (aAnimal : PySem.W.nsIn K mainGlobals "Animal" = some (some (.ref cAnimal)))
    (aHerd : PySem.W.nsIn K mainGlobals "Herd" = some (some (.ref cHerd)))
    (aMating_init : PySem.W.findIn K (.ref cMating) "__init__" = some (some (.ref fMating_init)))
    (iMating_init : PySem.W.isFn K (.ref fMating_init) = true)
    (lMating_init : K.lookup fMating_init = some ⟨ocMating_init, odMating_init, .func (PySem.W.fnOf "__init__" "Mating.__init__" (defArgs sMating_init) (defBody sMating_init) (defScope sMating_init) .none kVMating_init dcMating_init pmMating_init anMating_init cdMating_init ctMating_init), slMating_init⟩)
    (dMating_init : PySem.W.codeIn K cdMating_init "Mating.__init__" = true)
    (kMating_init : PySem.W.keepIn K (.ref fMating_init) = true)
    (aShare_init : PySem.W.findIn K (.ref cShare) "__init__" = some (some (.ref fShare_init)))
    (iShare_init : PySem.W.isFn K (.ref fShare_init) = true)
    (lShare_init : K.lookup fShare_init = some ⟨ocShare_init, odShare_init, .func (PySem.W.fnOf "__init__" "Share.__init__" (defArgs sShare_init) (defBody sShare_init) (defScope sShare_init) .none kVShare_init dcShare_init pmShare_init anShare_init cdShare_init ctShare_init), slShare_init⟩)
    (dShare_init : PySem.W.codeIn K cdShare_init "Share.__init__" = true)
    (kShare_init : PySem.W.keepIn K (.ref fShare_init) = true)
    (aAnimal_init : PySem.W.findIn K (.ref cAnimal) "__init__" = some (some (.ref fAnimal_init)))
    (iAnimal_init : PySem.W.isFn K (.ref fAnimal_init) = true)
    (lAnimal_init : K.lookup fAnimal_init = some ⟨ocAnimal_init, odAnimal_init, .func (PySem.W.fnOf "__init__" "Animal.__init__" (defArgs sAnimal_init) (defBody sAnimal_init) (defScope sAnimal_init) .none kVAnimal_init dcAnimal_init pmAnimal_init anAnimal_init cdAnimal_init ctAnimal_init), slAnimal_init⟩)
    (dAnimal_init : PySem.W.codeIn K cdAnimal_init "Animal.__init__" = true)
    (kAnimal_init : PySem.W.keepIn K (.ref fAnimal_init) = true)
    (aHerd_init : PySem.W.findIn K (.ref cHerd) "__init__" = some (some (.ref fHerd_init)))
    (iHerd_init : PySem.W.isFn K (.ref fHerd_init) = true)
    (lHerd_init : K.lookup fHerd_init = some ⟨ocHerd_init, odHerd_init, .func (PySem.W.fnOf "__init__" "Herd.__init__" (defArgs sHerd_init) (defBody sHerd_init) (defScope sHerd_init) .none kVHerd_init dcHerd_init pmHerd_init anHerd_init cdHerd_init ctHerd_init), slHerd_init⟩)
    (dHerd_init : PySem.W.codeIn K cdHerd_init "Herd.__init__" = true)
    (kHerd_init : PySem.W.keepIn K (.ref fHerd_init) = true)
    (aHerd_begin : PySem.W.findIn K (.ref cHerd) "begin" = some (some (.ref fHerd_begin)))
    (iHerd_begin : PySem.W.isFn K (.ref fHerd_begin) = true)
    (lHerd_begin : K.lookup fHerd_begin = some ⟨ocHerd_begin, odHerd_begin, .func (PySem.W.fnOf "begin" "Herd.begin" (defArgs sHerd_begin) (defBody sHerd_begin) (defScope sHerd_begin) .none kVHerd_begin dcHerd_begin pmHerd_begin anHerd_begin cdHerd_begin ctHerd_begin), slHerd_begin⟩)
    (dHerd_begin : PySem.W.codeIn K cdHerd_begin "Herd.begin" = true)
    (kHerd_begin : PySem.W.keepIn K (.ref fHerd_begin) = true)
    (aHerd_take_in : PySem.W.findIn K (.ref cHerd) "take_in" = some (some (.ref fHerd_take_in)))
    (iHerd_take_in : PySem.W.isFn K (.ref fHerd_take_in) = true)
    (lHerd_take_in : K.lookup fHerd_take_in = some ⟨ocHerd_take_in, odHerd_take_in, .func (PySem.W.fnOf "take_in" "Herd.take_in" (defArgs sHerd_take_in) (defBody sHerd_take_in) (defScope sHerd_take_in) .none kVHerd_take_in dcHerd_take_in pmHerd_take_in anHerd_take_in cdHerd_take_in ctHerd_take_in), slHerd_take_in⟩)
    (dHerd_take_in : PySem.W.codeIn K cdHerd_take_in "Herd.take_in" = true)
    (kHerd_take_in : PySem.W.keepIn K (.ref fHerd_take_in) = true)
    (aHerd_breed : PySem.W.findIn K (.ref cHerd) "breed" = some (some (.ref fHerd_breed)))
    (iHerd_breed : PySem.W.isFn K (.ref fHerd_breed) = true)
    (lHerd_breed : K.lookup fHerd_breed = some ⟨ocHerd_breed, odHerd_breed, .func (PySem.W.fnOf "breed" "Herd.breed" (defArgs sHerd_breed) (defBody sHerd_breed) (defScope sHerd_breed) .none kVHerd_breed dcHerd_breed pmHerd_breed anHerd_breed cdHerd_breed ctHerd_breed), slHerd_breed⟩)
    (dHerd_breed : PySem.W.codeIn K cdHerd_breed "Herd.breed" = true)
    (kHerd_breed : PySem.W.keepIn K (.ref fHerd_breed) = true)
    (aHerd_let_go : PySem.W.findIn K (.ref cHerd) "let_go" = some (some (.ref fHerd_let_go)))
    (iHerd_let_go : PySem.W.isFn K (.ref fHerd_let_go) = true)
    (lHerd_let_go : K.lookup fHerd_let_go = some ⟨ocHerd_let_go, odHerd_let_go, .func (PySem.W.fnOf "let_go" "Herd.let_go" (defArgs sHerd_let_go) (defBody sHerd_let_go) (defScope sHerd_let_go) .none kVHerd_let_go dcHerd_let_go pmHerd_let_go anHerd_let_go cdHerd_let_go ctHerd_let_go), slHerd_let_go⟩)
    (dHerd_let_go : PySem.W.codeIn K cdHerd_let_go "Herd.let_go" = true)
    (kHerd_let_go : PySem.W.keepIn K (.ref fHerd_let_go) = true)
    (aHerd_tell_kin : PySem.W.findIn K (.ref cHerd) "tell_kin" = some (some (.ref fHerd_tell_kin)))
    (iHerd_tell_kin : PySem.W.isFn K (.ref fHerd_tell_kin) = true)
    (lHerd_tell_kin : K.lookup fHerd_tell_kin = some ⟨ocHerd_tell_kin, odHerd_tell_kin, .func (PySem.W.fnOf "tell_kin" "Herd.tell_kin" (defArgs sHerd_tell_kin) (defBody sHerd_tell_kin) (defScope sHerd_tell_kin) .none kVHerd_tell_kin dcHerd_tell_kin pmHerd_tell_kin anHerd_tell_kin cdHerd_tell_kin ctHerd_tell_kin), slHerd_tell_kin⟩)
    (dHerd_tell_kin : PySem.W.codeIn K cdHerd_tell_kin "Herd.tell_kin" = true)
    (kHerd_tell_kin : PySem.W.keepIn K (.ref fHerd_tell_kin) = true)
    (aHerd_tell_herd : PySem.W.findIn K (.ref cHerd) "tell_herd" = some (some (.ref fHerd_tell_herd)))
    (iHerd_tell_herd : PySem.W.isFn K (.ref fHerd_tell_herd) = true)
    (lHerd_tell_herd : K.lookup fHerd_tell_herd = some ⟨ocHerd_tell_herd, odHerd_tell_herd, .func (PySem.W.fnOf "tell_herd" "Herd.tell_herd" (defArgs sHerd_tell_herd) (defBody sHerd_tell_herd) (defScope sHerd_tell_herd) .none kVHerd_tell_herd dcHerd_tell_herd pmHerd_tell_herd anHerd_tell_herd cdHerd_tell_herd ctHerd_tell_herd), slHerd_tell_herd⟩)
    (dHerd_tell_herd : PySem.W.codeIn K cdHerd_tell_herd "Herd.tell_herd" = true)
    (kHerd_tell_herd : PySem.W.keepIn K (.ref fHerd_tell_herd) = true)
    (aHerd_tell_plan : PySem.W.findIn K (.ref cHerd) "tell_plan" = some (some (.ref fHerd_tell_plan)))
    (iHerd_tell_plan : PySem.W.isFn K (.ref fHerd_tell_plan) = true)
    (lHerd_tell_plan : K.lookup fHerd_tell_plan = some ⟨ocHerd_tell_plan, odHerd_tell_plan, .func (PySem.W.fnOf "tell_plan" "Herd.tell_plan" (defArgs sHerd_tell_plan) (defBody sHerd_tell_plan) (defScope sHerd_tell_plan) .none kVHerd_tell_plan dcHerd_tell_plan pmHerd_tell_plan anHerd_tell_plan cdHerd_tell_plan ctHerd_tell_plan), slHerd_tell_plan⟩)
    (dHerd_tell_plan : PySem.W.codeIn K cdHerd_tell_plan "Herd.tell_plan" = true)
    (kHerd_tell_plan : PySem.W.keepIn K (.ref fHerd_tell_plan) = true)
    (aHerd_enter : PySem.W.findIn K (.ref cHerd) "enter" = some (some (.ref fHerd_enter)))
    (iHerd_enter : PySem.W.isFn K (.ref fHerd_enter) = true)
    (lHerd_enter : K.lookup fHerd_enter = some ⟨ocHerd_enter, odHerd_enter, .func (PySem.W.fnOf "enter" "Herd.enter" (defArgs sHerd_enter) (defBody sHerd_enter) (defScope sHerd_enter) .none kVHerd_enter dcHerd_enter pmHerd_enter anHerd_enter cdHerd_enter ctHerd_enter), slHerd_enter⟩)
    (dHerd_enter : PySem.W.codeIn K cdHerd_enter "Herd.enter" = true)
    (kHerd_enter : PySem.W.keepIn K (.ref fHerd_enter) = true)
    (aHerd_holds : PySem.W.findIn K (.ref cHerd) "holds" = some (some (.ref fHerd_holds)))
    (iHerd_holds : PySem.W.isFn K (.ref fHerd_holds) = true)
    (lHerd_holds : K.lookup fHerd_holds = some ⟨ocHerd_holds, odHerd_holds, .func (PySem.W.fnOf "holds" "Herd.holds" (defArgs sHerd_holds) (defBody sHerd_holds) (defScope sHerd_holds) .none kVHerd_holds dcHerd_holds pmHerd_holds anHerd_holds cdHerd_holds ctHerd_holds), slHerd_holds⟩)
    (dHerd_holds : PySem.W.codeIn K cdHerd_holds "Herd.holds" = true)
    (kHerd_holds : PySem.W.keepIn K (.ref fHerd_holds) = true)
    (aHerd_is_female : PySem.W.findIn K (.ref cHerd) "is_female" = some (some (.ref fHerd_is_female)))
    (iHerd_is_female : PySem.W.isFn K (.ref fHerd_is_female) = true)
    (lHerd_is_female : K.lookup fHerd_is_female = some ⟨ocHerd_is_female, odHerd_is_female, .func (PySem.W.fnOf "is_female" "Herd.is_female" (defArgs sHerd_is_female) (defBody sHerd_is_female) (defScope sHerd_is_female) .none kVHerd_is_female dcHerd_is_female pmHerd_is_female anHerd_is_female cdHerd_is_female ctHerd_is_female), slHerd_is_female⟩)
    (dHerd_is_female : PySem.W.codeIn K cdHerd_is_female "Herd.is_female" = true)
    (kHerd_is_female : PySem.W.keepIn K (.ref fHerd_is_female) = true)
    (aHerd_living_numbers : PySem.W.findIn K (.ref cHerd) "living_numbers" = some (some (.ref fHerd_living_numbers)))
    (iHerd_living_numbers : PySem.W.isFn K (.ref fHerd_living_numbers) = true)
    (lHerd_living_numbers : K.lookup fHerd_living_numbers = some ⟨ocHerd_living_numbers, odHerd_living_numbers, .func (PySem.W.fnOf "living_numbers" "Herd.living_numbers" (defArgs sHerd_living_numbers) (defBody sHerd_living_numbers) (defScope sHerd_living_numbers) .none kVHerd_living_numbers dcHerd_living_numbers pmHerd_living_numbers anHerd_living_numbers cdHerd_living_numbers ctHerd_living_numbers), slHerd_living_numbers⟩)
    (dHerd_living_numbers : PySem.W.codeIn K cdHerd_living_numbers "Herd.living_numbers" = true)
    (kHerd_living_numbers : PySem.W.keepIn K (.ref fHerd_living_numbers) = true)
    (aadd_to_table : PySem.W.nsIn K mainGlobals "add_to_table" = some (some (.ref fadd_to_table)))
    (ladd_to_table : K.lookup fadd_to_table = some ⟨ocadd_to_table, odadd_to_table, .func (PySem.W.fnOf "add_to_table" "add_to_table" (defArgs sadd_to_table) (defBody sadd_to_table) (defScope sadd_to_table) .none kVadd_to_table dcadd_to_table pmadd_to_table anadd_to_table cdadd_to_table ctadd_to_table), sladd_to_table⟩)
    (dadd_to_table : PySem.W.codeIn K cdadd_to_table "add_to_table" = true)
    (kadd_to_table : PySem.W.keepIn K (.ref fadd_to_table) = true)
    (akin_with_earlier : PySem.W.nsIn K mainGlobals "kin_with_earlier" = some (some (.ref fkin_with_earlier)))
    (lkin_with_earlier : K.lookup fkin_with_earlier = some ⟨ockin_with_earlier, odkin_with_earlier, .func (PySem.W.fnOf "kin_with_earlier" "kin_with_earlier" (defArgs skin_with_earlier) (defBody skin_with_earlier) (defScope skin_with_earlier) .none kVkin_with_earlier dckin_with_earlier pmkin_with_earlier ankin_with_earlier cdkin_with_earlier ctkin_with_earlier), slkin_with_earlier⟩)
    (dkin_with_earlier : PySem.W.codeIn K cdkin_with_earlier "kin_with_earlier" = true)
    (kkin_with_earlier : PySem.W.keepIn K (.ref fkin_with_earlier) = true)
    (akin_with_itself : PySem.W.nsIn K mainGlobals "kin_with_itself" = some (some (.ref fkin_with_itself)))
    (lkin_with_itself : K.lookup fkin_with_itself = some ⟨ockin_with_itself, odkin_with_itself, .func (PySem.W.fnOf "kin_with_itself" "kin_with_itself" (defArgs skin_with_itself) (defBody skin_with_itself) (defScope skin_with_itself) .none kVkin_with_itself dckin_with_itself pmkin_with_itself ankin_with_itself cdkin_with_itself ctkin_with_itself), slkin_with_itself⟩)
    (dkin_with_itself : PySem.W.codeIn K cdkin_with_itself "kin_with_itself" = true)
    (kkin_with_itself : PySem.W.keepIn K (.ref fkin_with_itself) = true)
    (akin_to_all : PySem.W.nsIn K mainGlobals "kin_to_all" = some (some (.ref fkin_to_all)))
    (lkin_to_all : K.lookup fkin_to_all = some ⟨ockin_to_all, odkin_to_all, .func (PySem.W.fnOf "kin_to_all" "kin_to_all" (defArgs skin_to_all) (defBody skin_to_all) (defScope skin_to_all) .none kVkin_to_all dckin_to_all pmkin_to_all ankin_to_all cdkin_to_all ctkin_to_all), slkin_to_all⟩)
    (dkin_to_all : PySem.W.codeIn K cdkin_to_all "kin_to_all" = true)
    (kkin_to_all : PySem.W.keepIn K (.ref fkin_to_all) = true)
    (akin_between : PySem.W.nsIn K mainGlobals "kin_between" = some (some (.ref fkin_between)))
    (lkin_between : K.lookup fkin_between = some ⟨ockin_between, odkin_between, .func (PySem.W.fnOf "kin_between" "kin_between" (defArgs skin_between) (defBody skin_between) (defScope skin_between) .none kVkin_between dckin_between pmkin_between ankin_between cdkin_between ctkin_between), slkin_between⟩)
    (dkin_between : PySem.W.codeIn K cdkin_between "kin_between" = true)
    (kkin_between : PySem.W.keepIn K (.ref fkin_between) = true)
    (aways_to_share : PySem.W.nsIn K mainGlobals "ways_to_share" = some (some (.ref fways_to_share)))
    (lways_to_share : K.lookup fways_to_share = some ⟨ocways_to_share, odways_to_share, .func (PySem.W.fnOf "ways_to_share" "ways_to_share" (defArgs sways_to_share) (defBody sways_to_share) (defScope sways_to_share) .none kVways_to_share dcways_to_share pmways_to_share anways_to_share cdways_to_share ctways_to_share), slways_to_share⟩)
    (dways_to_share : PySem.W.codeIn K cdways_to_share "ways_to_share" = true)
    (kways_to_share : PySem.W.keepIn K (.ref fways_to_share) = true)
    (aleast_mating : PySem.W.nsIn K mainGlobals "least_mating" = some (some (.ref fleast_mating)))
    (lleast_mating : K.lookup fleast_mating = some ⟨ocleast_mating, odleast_mating, .func (PySem.W.fnOf "least_mating" "least_mating" (defArgs sleast_mating) (defBody sleast_mating) (defScope sleast_mating) .none kVleast_mating dcleast_mating pmleast_mating anleast_mating cdleast_mating ctleast_mating), slleast_mating⟩)
    (dleast_mating : PySem.W.codeIn K cdleast_mating "least_mating" = true)
    (kleast_mating : PySem.W.keepIn K (.ref fleast_mating) = true)
    (aleast_rest : PySem.W.nsIn K mainGlobals "least_rest" = some (some (.ref fleast_rest)))
    (lleast_rest : K.lookup fleast_rest = some ⟨ocleast_rest, odleast_rest, .func (PySem.W.fnOf "least_rest" "least_rest" (defArgs sleast_rest) (defBody sleast_rest) (defScope sleast_rest) .none kVleast_rest dcleast_rest pmleast_rest anleast_rest cdleast_rest ctleast_rest), slleast_rest⟩)
    (dleast_rest : PySem.W.codeIn K cdleast_rest "least_rest" = true)
    (kleast_rest : PySem.W.keepIn K (.ref fleast_rest) = true)
    (aless : PySem.W.nsIn K mainGlobals "less" = some (some (.ref fless)))
    (lless : K.lookup fless = some ⟨ocless, odless, .func (PySem.W.fnOf "less" "less" (defArgs sless) (defBody sless) (defScope sless) .none kVless dcless pmless anless cdless ctless), slless⟩)
    (dless : PySem.W.codeIn K cdless "less" = true)
    (kless : PySem.W.keepIn K (.ref fless) = true)
    (arow_cost : PySem.W.nsIn K mainGlobals "row_cost" = some (some (.ref frow_cost)))
    (lrow_cost : K.lookup frow_cost = some ⟨ocrow_cost, odrow_cost, .func (PySem.W.fnOf "row_cost" "row_cost" (defArgs srow_cost) (defBody srow_cost) (defScope srow_cost) .none kVrow_cost dcrow_cost pmrow_cost anrow_cost cdrow_cost ctrow_cost), slrow_cost⟩)
    (drow_cost : PySem.W.codeIn K cdrow_cost "row_cost" = true)
    (krow_cost : PySem.W.keepIn K (.ref frow_cost) = true)
    (acost_of : PySem.W.nsIn K mainGlobals "cost_of" = some (some (.ref fcost_of)))
    (lcost_of : K.lookup fcost_of = some ⟨occost_of, odcost_of, .func (PySem.W.fnOf "cost_of" "cost_of" (defArgs scost_of) (defBody scost_of) (defScope scost_of) .none kVcost_of dccost_of pmcost_of ancost_of cdcost_of ctcost_of), slcost_of⟩)
    (dcost_of : PySem.W.codeIn K cdcost_of "cost_of" = true)
    (kcost_of : PySem.W.keepIn K (.ref fcost_of) = true)
    (aleast_share : PySem.W.nsIn K mainGlobals "least_share" = some (some (.ref fleast_share)))
    (lleast_share : K.lookup fleast_share = some ⟨ocleast_share, odleast_share, .func (PySem.W.fnOf "least_share" "least_share" (defArgs sleast_share) (defBody sleast_share) (defScope sleast_share) .none kVleast_share dcleast_share pmleast_share anleast_share cdleast_share ctleast_share), slleast_share⟩)
    (dleast_share : PySem.W.codeIn K cdleast_share "least_share" = true)
    (kleast_share : PySem.W.keepIn K (.ref fleast_share) = true)
    (akin_among : PySem.W.nsIn K mainGlobals "kin_among" = some (some (.ref fkin_among)))
    (lkin_among : K.lookup fkin_among = some ⟨ockin_among, odkin_among, .func (PySem.W.fnOf "kin_among" "kin_among" (defArgs skin_among) (defBody skin_among) (defScope skin_among) .none kVkin_among dckin_among pmkin_among ankin_among cdkin_among ctkin_among), slkin_among⟩)
    (dkin_among : PySem.W.codeIn K cdkin_among "kin_among" = true)
    (kkin_among : PySem.W.keepIn K (.ref fkin_among) = true)
    (aweighed : PySem.W.nsIn K mainGlobals "weighed" = some (some (.ref fweighed)))
    (lweighed : K.lookup fweighed = some ⟨ocweighed, odweighed, .func (PySem.W.fnOf "weighed" "weighed" (defArgs sweighed) (defBody sweighed) (defScope sweighed) .none kVweighed dcweighed pmweighed anweighed cdweighed ctweighed), slweighed⟩)
    (dweighed : PySem.W.codeIn K cdweighed "weighed" = true)
    (kweighed : PySem.W.keepIn K (.ref fweighed) = true)
    (apull_of_male : PySem.W.nsIn K mainGlobals "pull_of_male" = some (some (.ref fpull_of_male)))
    (lpull_of_male : K.lookup fpull_of_male = some ⟨ocpull_of_male, odpull_of_male, .func (PySem.W.fnOf "pull_of_male" "pull_of_male" (defArgs spull_of_male) (defBody spull_of_male) (defScope spull_of_male) .none kVpull_of_male dcpull_of_male pmpull_of_male anpull_of_male cdpull_of_male ctpull_of_male), slpull_of_male⟩)
    (dpull_of_male : PySem.W.codeIn K cdpull_of_male "pull_of_male" = true)
    (kpull_of_male : PySem.W.keepIn K (.ref fpull_of_male) = true)
    (awith_added : PySem.W.nsIn K mainGlobals "with_added" = some (some (.ref fwith_added)))
    (lwith_added : K.lookup fwith_added = some ⟨ocwith_added, odwith_added, .func (PySem.W.fnOf "with_added" "with_added" (defArgs swith_added) (defBody swith_added) (defScope swith_added) .none kVwith_added dcwith_added pmwith_added anwith_added cdwith_added ctwith_added), slwith_added⟩)
    (dwith_added : PySem.W.codeIn K cdwith_added "with_added" = true)
    (kwith_added : PySem.W.keepIn K (.ref fwith_added) = true)
    (aleast_from : PySem.W.nsIn K mainGlobals "least_from" = some (some (.ref fleast_from)))
    (lleast_from : K.lookup fleast_from = some ⟨ocleast_from, odleast_from, .func (PySem.W.fnOf "least_from" "least_from" (defArgs sleast_from) (defBody sleast_from) (defScope sleast_from) .none kVleast_from dcleast_from pmleast_from anleast_from cdleast_from ctleast_from), slleast_from⟩)
    (dleast_from : PySem.W.codeIn K cdleast_from "least_from" = true)
    (kleast_from : PySem.W.keepIn K (.ref fleast_from) = true)
    (aleast_of_ways : PySem.W.nsIn K mainGlobals "least_of_ways" = some (some (.ref fleast_of_ways)))
    (lleast_of_ways : K.lookup fleast_of_ways = some ⟨ocleast_of_ways, odleast_of_ways, .func (PySem.W.fnOf "least_of_ways" "least_of_ways" (defArgs sleast_of_ways) (defBody sleast_of_ways) (defScope sleast_of_ways) .none kVleast_of_ways dcleast_of_ways pmleast_of_ways anleast_of_ways cdleast_of_ways ctleast_of_ways), slleast_of_ways⟩)
    (dleast_of_ways : PySem.W.codeIn K cdleast_of_ways "least_of_ways" = true)
    (kleast_of_ways : PySem.W.keepIn K (.ref fleast_of_ways) = true)
    (aakin_in : PySem.W.nsIn K mainGlobals "akin_in" = some (some (.ref fakin_in)))
    (lakin_in : K.lookup fakin_in = some ⟨ocakin_in, odakin_in, .func (PySem.W.fnOf "akin_in" "akin_in" (defArgs sakin_in) (defBody sakin_in) (defScope sakin_in) .none kVakin_in dcakin_in pmakin_in anakin_in cdakin_in ctakin_in), slakin_in⟩)
    (dakin_in : PySem.W.codeIn K cdakin_in "akin_in" = true)
    (kakin_in : PySem.W.keepIn K (.ref fakin_in) = true)
    (aplan_numbers : PySem.W.nsIn K mainGlobals "plan_numbers" = some (some (.ref fplan_numbers)))
    (lplan_numbers : K.lookup fplan_numbers = some ⟨ocplan_numbers, odplan_numbers, .func (PySem.W.fnOf "plan_numbers" "plan_numbers" (defArgs splan_numbers) (defBody splan_numbers) (defScope splan_numbers) .none kVplan_numbers dcplan_numbers pmplan_numbers anplan_numbers cdplan_numbers ctplan_numbers), slplan_numbers⟩)
    (dplan_numbers : PySem.W.codeIn K cdplan_numbers "plan_numbers" = true)
    (kplan_numbers : PySem.W.keepIn K (.ref fplan_numbers) = true)
    (abreeders : PySem.W.nsIn K mainGlobals "breeders" = some (some (.ref fbreeders)))
    (lbreeders : K.lookup fbreeders = some ⟨ocbreeders, odbreeders, .func (PySem.W.fnOf "breeders" "breeders" (defArgs sbreeders) (defBody sbreeders) (defScope sbreeders) .none kVbreeders dcbreeders pmbreeders anbreeders cdbreeders ctbreeders), slbreeders⟩)
    (dbreeders : PySem.W.codeIn K cdbreeders "breeders" = true)
    (kbreeders : PySem.W.keepIn K (.ref fbreeders) = true)
    (afilled_up : PySem.W.nsIn K mainGlobals "filled_up" = some (some (.ref ffilled_up)))
    (lfilled_up : K.lookup ffilled_up = some ⟨ocfilled_up, odfilled_up, .func (PySem.W.fnOf "filled_up" "filled_up" (defArgs sfilled_up) (defBody sfilled_up) (defScope sfilled_up) .none kVfilled_up dcfilled_up pmfilled_up anfilled_up cdfilled_up ctfilled_up), slfilled_up⟩)
    (dfilled_up : PySem.W.codeIn K cdfilled_up "filled_up" = true)
    (kfilled_up : PySem.W.keepIn K (.ref ffilled_up) = true)
    (aanswers : PySem.W.nsIn K mainGlobals "answers" = some (some (.ref fanswers)))
    (lanswers : K.lookup fanswers = some ⟨ocanswers, odanswers, .func (PySem.W.fnOf "answers" "answers" (defArgs sanswers) (defBody sanswers) (defScope sanswers) .none kVanswers dcanswers pmanswers ananswers cdanswers ctanswers), slanswers⟩)
    (danswers : PySem.W.codeIn K cdanswers "answers" = true)
    (kanswers : PySem.W.keepIn K (.ref fanswers) = true)
    (aanswer_call : PySem.W.nsIn K mainGlobals "answer_call" = some (some (.ref fanswer_call)))
    (lanswer_call : K.lookup fanswer_call = some ⟨ocanswer_call, odanswer_call, .func (PySem.W.fnOf "answer_call" "answer_call" (defArgs sanswer_call) (defBody sanswer_call) (defScope sanswer_call) .none kVanswer_call dcanswer_call pmanswer_call ananswer_call cdanswer_call ctanswer_call), slanswer_call⟩)
    (danswer_call : PySem.W.codeIn K cdanswer_call "answer_call" = true)
    (kanswer_call : PySem.W.keepIn K (.ref fanswer_call) = true)
    (pgMating : PySem.W.plainGet K cMating Str.empty = true)
    (hdMating : PySem.W.hasDictIn K cMating = true)
    (poMating : PySem.W.plainOver K cMating = true)
    (saMating : PySem.W.findIn K (.ref cMating) "__setattr__" = some (some (.builtin "object.__setattr__")))
    (mkMating : PySem.W.makesIn K cMating = true)
    (kcMating : PySem.W.keepIn K (.ref cMating) = true)
    (noMating_cost : PySem.W.findIn K (.ref cMating) "cost" = some none)
    (noMating_rows : PySem.W.findIn K (.ref cMating) "rows" = some none)
    (pgShare : PySem.W.plainGet K cShare Str.empty = true)
    (hdShare : PySem.W.hasDictIn K cShare = true)
    (poShare : PySem.W.plainOver K cShare = true)
    (saShare : PySem.W.findIn K (.ref cShare) "__setattr__" = some (some (.builtin "object.__setattr__")))
    (mkShare : PySem.W.makesIn K cShare = true)
    (kcShare : PySem.W.keepIn K (.ref cShare) = true)
    (noShare_akin : PySem.W.findIn K (.ref cShare) "akin" = some none)
    (noShare_of_males : PySem.W.findIn K (.ref cShare) "of_males" = some none)
    (noShare_of_females : PySem.W.findIn K (.ref cShare) "of_females" = some none)
    (pgAnimal : PySem.W.plainGet K cAnimal Str.empty = true)
    (hdAnimal : PySem.W.hasDictIn K cAnimal = true)
    (poAnimal : PySem.W.plainOver K cAnimal = true)
    (saAnimal : PySem.W.findIn K (.ref cAnimal) "__setattr__" = some (some (.builtin "object.__setattr__")))
    (mkAnimal : PySem.W.makesIn K cAnimal = true)
    (kcAnimal : PySem.W.keepIn K (.ref cAnimal) = true)
    (noAnimal_female : PySem.W.findIn K (.ref cAnimal) "female" = some none)
    (noAnimal_living : PySem.W.findIn K (.ref cAnimal) "living" = some none)
    (pgHerd : PySem.W.plainGet K cHerd Str.empty = true)
    (hdHerd : PySem.W.hasDictIn K cHerd = true)
    (poHerd : PySem.W.plainOver K cHerd = true)
    (saHerd : PySem.W.findIn K (.ref cHerd) "__setattr__" = some (some (.builtin "object.__setattr__")))
    (mkHerd : PySem.W.makesIn K cHerd = true)
    (kcHerd : PySem.W.keepIn K (.ref cHerd) = true)
    (noHerd_animals : PySem.W.findIn K (.ref cHerd) "animals" = some none)
    (noHerd_table : PySem.W.findIn K (.ref cHerd) "table" = some none)
    (gCERTAIN : PySem.W.nsIn K mainGlobals "CERTAIN" = some (some (.int 281474976710656 uCERTAIN)))
    (gMOST_OF_A_SEX : PySem.W.nsIn K mainGlobals "MOST_OF_A_SEX" = some (some (.int 4 uMOST_OF_A_SEX)))
    (gNO_BREEDER : PySem.W.nsIn K mainGlobals "NO_BREEDER" = some (some (.int 255 uNO_BREEDER)))
    (gMOST_ANIMALS : PySem.W.nsIn K mainGlobals "MOST_ANIMALS" = some (some (.int 24 uMOST_ANIMALS)))
    (gMOST_YOUNG : PySem.W.nsIn K mainGlobals "MOST_YOUNG" = some (some (.int 8 uMOST_YOUNG)))
    (gNOT_IN_BOOK : PySem.W.nsIn K mainGlobals "NOT_IN_BOOK" = some (some (.int (-2) uNOT_IN_BOOK)))
    (gGONE_ALREADY : PySem.W.nsIn K mainGlobals "GONE_ALREADY" = some (some (.int (-11) uGONE_ALREADY)))
    (gWRONG_SEX : PySem.W.nsIn K mainGlobals "WRONG_SEX" = some (some (.int (-13) uWRONG_SEX)))
    (gBAD_NUMBER : PySem.W.nsIn K mainGlobals "BAD_NUMBER" = some (some (.int (-22) uBAD_NUMBER)))
    (gBOOK_FULL : PySem.W.nsIn K mainGlobals "BOOK_FULL" = some (some (.int (-28) uBOOK_FULL)))
    (gNO_PAIR : PySem.W.nsIn K mainGlobals "NO_PAIR" = some (some (.int (-33) uNO_PAIR)))
    (gHB_START : PySem.W.nsIn K mainGlobals "HB_START" = some (some (.int 0 uHB_START)))
    (gHB_NEW : PySem.W.nsIn K mainGlobals "HB_NEW" = some (some (.int 1 uHB_NEW)))
    (gHB_BORN : PySem.W.nsIn K mainGlobals "HB_BORN" = some (some (.int 2 uHB_BORN)))
    (gHB_GONE : PySem.W.nsIn K mainGlobals "HB_GONE" = some (some (.int 3 uHB_GONE)))
    (gHB_KIN : PySem.W.nsIn K mainGlobals "HB_KIN" = some (some (.int 4 uHB_KIN)))
    (gHB_HERD : PySem.W.nsIn K mainGlobals "HB_HERD" = some (some (.int 5 uHB_HERD)))
    (gGIVEN_COUNTS : PySem.W.nsIn K mainGlobals "GIVEN_COUNTS" = some (some (.ref qGIVEN_COUNTS)))
    (lGIVEN_COUNTS : K.lookup qGIVEN_COUNTS = some ⟨.type "tuple", odGIVEN_COUNTS, .seq #[.int 0 uGIVEN_COUNTS_0, .int 1 uGIVEN_COUNTS_1, .int 3 uGIVEN_COUNTS_2, .int 1 uGIVEN_COUNTS_3, .int 2 uGIVEN_COUNTS_4, .int 0 uGIVEN_COUNTS_5, .int 1 uGIVEN_COUNTS_6] nGIVEN_COUNTS, slGIVEN_COUNTS⟩)
    (zlen : PySem.W.nsIn K mainGlobals "len" = some none)
    (zlist : PySem.W.nsIn K mainGlobals "list" = some none)
    (zmin : PySem.W.nsIn K mainGlobals "min" = some none)
    (zrange : PySem.W.nsIn K mainGlobals "range" = some none)
    (zsorted : PySem.W.nsIn K mainGlobals "sorted" = some none)
    (zsum : PySem.W.nsIn K mainGlobals "sum" = some none)
    (ztuple : PySem.W.nsIn K mainGlobals "tuple" = some none)
    (zzip : PySem.W.nsIn K mainGlobals "zip" = some none)
    : ∃ t : Adr, Top K mg t := by
  refine ⟨⟨cMating, cShare, cAnimal, cHerd, fMating_init, fShare_init, fAnimal_init, fHerd_init, fHerd_begin, fHerd_take_in, fHerd_breed, fHerd_let_go, fHerd_tell_kin, fHerd_tell_herd, fHerd_tell_plan, fHerd_enter, fHerd_holds, fHerd_is_female, fHerd_living_numbers, fadd_to_table, fkin_with_earlier, fkin_with_itself, fkin_to_all, fkin_between, fways_to_share, fleast_mating, fleast_rest, fless, frow_cost, fcost_of, fleast_share, fkin_among, fweighed, fpull_of_male, fwith_added, fleast_from, fleast_of_ways, fakin_in, fplan_numbers, fbreeders, ffilled_up, fanswers, fanswer_call⟩, ?_⟩
  exact {
    clMating := ⟨pgMating, hdMating, poMating, saMating⟩
    mgMating := PySem.W.mg_of X G aMating
    mkMating := ⟨mkMating, aMating_init, iMating_init, kcMating⟩
    noMating_cost := noMating_cost
    noMating_rows := noMating_rows
    clShare := ⟨pgShare, hdShare, poShare, saShare⟩
    mgShare := PySem.W.mg_of X G aShare
    mkShare := ⟨mkShare, aShare_init, iShare_init, kcShare⟩
    noShare_akin := noShare_akin
    noShare_of_males := noShare_of_males
    noShare_of_females := noShare_of_females
    clAnimal := ⟨pgAnimal, hdAnimal, poAnimal, saAnimal⟩
    mgAnimal := PySem.W.mg_of X G aAnimal
    mkAnimal := ⟨mkAnimal, aAnimal_init, iAnimal_init, kcAnimal⟩
    noAnimal_female := noAnimal_female
    noAnimal_living := noAnimal_living
    clHerd := ⟨pgHerd, hdHerd, poHerd, saHerd⟩
    mgHerd := PySem.W.mg_of X G aHerd
    mkHerd := ⟨mkHerd, aHerd_init, iHerd_init, kcHerd⟩
    noHerd_animals := noHerd_animals
    noHerd_table := noHerd_table
    fnMating_init := ⟨_, fun_mk (st := sMating_init) lMating_init dMating_init kMating_init, Fun.binds (ps := ["self", "cost", "rows"]) (fun_mk (st := sMating_init) lMating_init dMating_init kMating_init) fun _ _ _ _ _ _ us hl => us3 us hl (fun _ _ _ => rfl)⟩
    fnShare_init := ⟨_, fun_mk (st := sShare_init) lShare_init dShare_init kShare_init, Fun.binds (ps := ["self", "akin", "of_males", "of_females"]) (fun_mk (st := sShare_init) lShare_init dShare_init kShare_init) fun _ _ _ _ _ _ us hl => us4 us hl (fun _ _ _ _ => rfl)⟩
    fnAnimal_init := ⟨_, fun_mk (st := sAnimal_init) lAnimal_init dAnimal_init kAnimal_init, Fun.binds (ps := ["self", "female"]) (fun_mk (st := sAnimal_init) lAnimal_init dAnimal_init kAnimal_init) fun _ _ _ _ _ _ us hl => us2 us hl (fun _ _ => rfl)⟩
    fnHerd_init := ⟨_, fun_mk (st := sHerd_init) lHerd_init dHerd_init kHerd_init, Fun.binds (ps := ["self"]) (fun_mk (st := sHerd_init) lHerd_init dHerd_init kHerd_init) fun _ _ _ _ _ _ us hl => us1 us hl (fun _ => rfl)⟩
    fnHerd_begin := ⟨_, fun_mk (st := sHerd_begin) lHerd_begin dHerd_begin kHerd_begin, Fun.binds (ps := ["self"]) (fun_mk (st := sHerd_begin) lHerd_begin dHerd_begin kHerd_begin) fun _ _ _ _ _ _ us hl => us1 us hl (fun _ => rfl)⟩
    meHerd_begin := ⟨aHerd_begin, iHerd_begin, kHerd_begin⟩
    fnHerd_take_in := ⟨_, fun_mk (st := sHerd_take_in) lHerd_take_in dHerd_take_in kHerd_take_in, Fun.binds (ps := ["self", "female"]) (fun_mk (st := sHerd_take_in) lHerd_take_in dHerd_take_in kHerd_take_in) fun _ _ _ _ _ _ us hl => us2 us hl (fun _ _ => rfl)⟩
    meHerd_take_in := ⟨aHerd_take_in, iHerd_take_in, kHerd_take_in⟩
    fnHerd_breed := ⟨_, fun_mk (st := sHerd_breed) lHerd_breed dHerd_breed kHerd_breed, Fun.binds (ps := ["self", "sire", "dam", "female"]) (fun_mk (st := sHerd_breed) lHerd_breed dHerd_breed kHerd_breed) fun _ _ _ _ _ _ us hl => us4 us hl (fun _ _ _ _ => rfl)⟩
    meHerd_breed := ⟨aHerd_breed, iHerd_breed, kHerd_breed⟩
    fnHerd_let_go := ⟨_, fun_mk (st := sHerd_let_go) lHerd_let_go dHerd_let_go kHerd_let_go, Fun.binds (ps := ["self", "number"]) (fun_mk (st := sHerd_let_go) lHerd_let_go dHerd_let_go kHerd_let_go) fun _ _ _ _ _ _ us hl => us2 us hl (fun _ _ => rfl)⟩
    meHerd_let_go := ⟨aHerd_let_go, iHerd_let_go, kHerd_let_go⟩
    fnHerd_tell_kin := ⟨_, fun_mk (st := sHerd_tell_kin) lHerd_tell_kin dHerd_tell_kin kHerd_tell_kin, Fun.binds (ps := ["self", "number", "other"]) (fun_mk (st := sHerd_tell_kin) lHerd_tell_kin dHerd_tell_kin kHerd_tell_kin) fun _ _ _ _ _ _ us hl => us3 us hl (fun _ _ _ => rfl)⟩
    meHerd_tell_kin := ⟨aHerd_tell_kin, iHerd_tell_kin, kHerd_tell_kin⟩
    fnHerd_tell_herd := ⟨_, fun_mk (st := sHerd_tell_herd) lHerd_tell_herd dHerd_tell_herd kHerd_tell_herd, Fun.binds (ps := ["self"]) (fun_mk (st := sHerd_tell_herd) lHerd_tell_herd dHerd_tell_herd kHerd_tell_herd) fun _ _ _ _ _ _ us hl => us1 us hl (fun _ => rfl)⟩
    meHerd_tell_herd := ⟨aHerd_tell_herd, iHerd_tell_herd, kHerd_tell_herd⟩
    fnHerd_tell_plan := ⟨_, fun_mk (st := sHerd_tell_plan) lHerd_tell_plan dHerd_tell_plan kHerd_tell_plan, Fun.binds (ps := ["self", "young"]) (fun_mk (st := sHerd_tell_plan) lHerd_tell_plan dHerd_tell_plan kHerd_tell_plan) fun _ _ _ _ _ _ us hl => us2 us hl (fun _ _ => rfl)⟩
    meHerd_tell_plan := ⟨aHerd_tell_plan, iHerd_tell_plan, kHerd_tell_plan⟩
    fnHerd_enter := ⟨_, fun_mk (st := sHerd_enter) lHerd_enter dHerd_enter kHerd_enter, Fun.binds (ps := ["self", "sire", "dam", "female"]) (fun_mk (st := sHerd_enter) lHerd_enter dHerd_enter kHerd_enter) fun _ _ _ _ _ _ us hl => us4 us hl (fun _ _ _ _ => rfl)⟩
    meHerd_enter := ⟨aHerd_enter, iHerd_enter, kHerd_enter⟩
    fnHerd_holds := ⟨_, fun_mk (st := sHerd_holds) lHerd_holds dHerd_holds kHerd_holds, Fun.binds (ps := ["self", "number"]) (fun_mk (st := sHerd_holds) lHerd_holds dHerd_holds kHerd_holds) fun _ _ _ _ _ _ us hl => us2 us hl (fun _ _ => rfl)⟩
    meHerd_holds := ⟨aHerd_holds, iHerd_holds, kHerd_holds⟩
    fnHerd_is_female := ⟨_, fun_mk (st := sHerd_is_female) lHerd_is_female dHerd_is_female kHerd_is_female, Fun.binds (ps := ["self", "number"]) (fun_mk (st := sHerd_is_female) lHerd_is_female dHerd_is_female kHerd_is_female) fun _ _ _ _ _ _ us hl => us2 us hl (fun _ _ => rfl)⟩
    meHerd_is_female := ⟨aHerd_is_female, iHerd_is_female, kHerd_is_female⟩
    fnHerd_living_numbers := ⟨_, fun_mk (st := sHerd_living_numbers) lHerd_living_numbers dHerd_living_numbers kHerd_living_numbers, Fun.binds (ps := ["self"]) (fun_mk (st := sHerd_living_numbers) lHerd_living_numbers dHerd_living_numbers kHerd_living_numbers) fun _ _ _ _ _ _ us hl => us1 us hl (fun _ => rfl)⟩
    meHerd_living_numbers := ⟨aHerd_living_numbers, iHerd_living_numbers, kHerd_living_numbers⟩
    fnadd_to_table := ⟨_, fun_mk (st := sadd_to_table) ladd_to_table dadd_to_table kadd_to_table, Fun.binds (ps := ["table", "sire", "dam"]) (fun_mk (st := sadd_to_table) ladd_to_table dadd_to_table kadd_to_table) fun _ _ _ _ _ _ us hl => us3 us hl (fun _ _ _ => rfl)⟩
    mgadd_to_table := PySem.W.mg_of X G aadd_to_table
    kpadd_to_table := kadd_to_table
    fnkin_with_earlier := ⟨_, fun_mk (st := skin_with_earlier) lkin_with_earlier dkin_with_earlier kkin_with_earlier, Fun.binds (ps := ["table", "sire", "dam"]) (fun_mk (st := skin_with_earlier) lkin_with_earlier dkin_with_earlier kkin_with_earlier) fun _ _ _ _ _ _ us hl => us3 us hl (fun _ _ _ => rfl)⟩
    mgkin_with_earlier := PySem.W.mg_of X G akin_with_earlier
    kpkin_with_earlier := kkin_with_earlier
    fnkin_with_itself := ⟨_, fun_mk (st := skin_with_itself) lkin_with_itself dkin_with_itself kkin_with_itself, Fun.binds (ps := ["table", "sire", "dam"]) (fun_mk (st := skin_with_itself) lkin_with_itself dkin_with_itself kkin_with_itself) fun _ _ _ _ _ _ us hl => us3 us hl (fun _ _ _ => rfl)⟩
    mgkin_with_itself := PySem.W.mg_of X G akin_with_itself
    kpkin_with_itself := kkin_with_itself
    fnkin_to_all := ⟨_, fun_mk (st := skin_to_all) lkin_to_all dkin_to_all kkin_to_all, Fun.binds (ps := ["table", "animal", "others"]) (fun_mk (st := skin_to_all) lkin_to_all dkin_to_all kkin_to_all) fun _ _ _ _ _ _ us hl => us3 us hl (fun _ _ _ => rfl)⟩
    mgkin_to_all := PySem.W.mg_of X G akin_to_all
    kpkin_to_all := kkin_to_all
    fnkin_between := ⟨_, fun_mk (st := skin_between) lkin_between dkin_between kkin_between, Fun.binds (ps := ["table", "animals", "others"]) (fun_mk (st := skin_between) lkin_between dkin_between kkin_between) fun _ _ _ _ _ _ us hl => us3 us hl (fun _ _ _ => rfl)⟩
    mgkin_between := PySem.W.mg_of X G akin_between
    kpkin_between := kkin_between
    fnways_to_share := ⟨_, fun_mk (st := sways_to_share) lways_to_share dways_to_share kways_to_share, Fun.binds (ps := ["count", "rooms"]) (fun_mk (st := sways_to_share) lways_to_share dways_to_share kways_to_share) fun _ _ _ _ _ _ us hl => us2 us hl (fun _ _ => rfl)⟩
    mgways_to_share := PySem.W.mg_of X G aways_to_share
    kpways_to_share := kways_to_share
    fnleast_mating := ⟨_, fun_mk (st := sleast_mating) lleast_mating dleast_mating kleast_mating, Fun.binds (ps := ["across", "of_males", "of_females"]) (fun_mk (st := sleast_mating) lleast_mating dleast_mating kleast_mating) fun _ _ _ _ _ _ us hl => us3 us hl (fun _ _ _ => rfl)⟩
    mgleast_mating := PySem.W.mg_of X G aleast_mating
    kpleast_mating := kleast_mating
    fnleast_rest := ⟨_, fun_mk (st := sleast_rest) lleast_rest dleast_rest kleast_rest, Fun.binds (ps := ["across", "of_males", "male", "left", "known"]) (fun_mk (st := sleast_rest) lleast_rest dleast_rest kleast_rest) fun _ _ _ _ _ _ us hl => us5 us hl (fun _ _ _ _ _ => rfl)⟩
    mgleast_rest := PySem.W.mg_of X G aleast_rest
    kpleast_rest := kleast_rest
    fnless := ⟨_, fun_mk (st := sless) lless dless kless, Fun.binds (ps := ["counts", "row"]) (fun_mk (st := sless) lless dless kless) fun _ _ _ _ _ _ us hl => us2 us hl (fun _ _ => rfl)⟩
    mgless := PySem.W.mg_of X G aless
    kpless := kless
    fnrow_cost := ⟨_, fun_mk (st := srow_cost) lrow_cost drow_cost krow_cost, Fun.binds (ps := ["kin", "row"]) (fun_mk (st := srow_cost) lrow_cost drow_cost krow_cost) fun _ _ _ _ _ _ us hl => us2 us hl (fun _ _ => rfl)⟩
    mgrow_cost := PySem.W.mg_of X G arow_cost
    kprow_cost := krow_cost
    fncost_of := ⟨_, fun_mk (st := scost_of) lcost_of dcost_of kcost_of, Fun.binds (ps := ["mating"]) (fun_mk (st := scost_of) lcost_of dcost_of kcost_of) fun _ _ _ _ _ _ us hl => us1 us hl (fun _ => rfl)⟩
    mgcost_of := PySem.W.mg_of X G acost_of
    kpcost_of := kcost_of
    fnleast_share := ⟨_, fun_mk (st := sleast_share) lleast_share dleast_share kleast_share, Fun.binds (ps := ["males_kin", "females_kin", "across", "young"]) (fun_mk (st := sleast_share) lleast_share dleast_share kleast_share) fun _ _ _ _ _ _ us hl => us4 us hl (fun _ _ _ _ => rfl)⟩
    mgleast_share := PySem.W.mg_of X G aleast_share
    kpleast_share := kleast_share
    fnkin_among := ⟨_, fun_mk (st := skin_among) lkin_among dkin_among kkin_among, Fun.binds (ps := ["kin", "counts"]) (fun_mk (st := skin_among) lkin_among dkin_among kkin_among) fun _ _ _ _ _ _ us hl => us2 us hl (fun _ _ => rfl)⟩
    mgkin_among := PySem.W.mg_of X G akin_among
    kpkin_among := kkin_among
    fnweighed := ⟨_, fun_mk (st := sweighed) lweighed dweighed kweighed, Fun.binds (ps := ["numbers", "counts"]) (fun_mk (st := sweighed) lweighed dweighed kweighed) fun _ _ _ _ _ _ us hl => us2 us hl (fun _ _ => rfl)⟩
    mgweighed := PySem.W.mg_of X G aweighed
    kpweighed := kweighed
    fnpull_of_male := ⟨_, fun_mk (st := spull_of_male) lpull_of_male dpull_of_male kpull_of_male, Fun.binds (ps := ["row", "females_ways"]) (fun_mk (st := spull_of_male) lpull_of_male dpull_of_male kpull_of_male) fun _ _ _ _ _ _ us hl => us2 us hl (fun _ _ => rfl)⟩
    mgpull_of_male := PySem.W.mg_of X G apull_of_male
    kppull_of_male := kpull_of_male
    fnwith_added := ⟨_, fun_mk (st := swith_added) lwith_added dwith_added kwith_added, Fun.binds (ps := ["numbers", "count", "more"]) (fun_mk (st := swith_added) lwith_added dwith_added kwith_added) fun _ _ _ _ _ _ us hl => us3 us hl (fun _ _ _ => rfl)⟩
    mgwith_added := PySem.W.mg_of X G awith_added
    kpwith_added := kwith_added
    fnleast_from := ⟨_, fun_mk (st := sleast_from) lleast_from dleast_from kleast_from, Fun.binds (ps := ["males_kin", "moves", "counts", "left", "costs"]) (fun_mk (st := sleast_from) lleast_from dleast_from kleast_from) fun _ _ _ _ _ _ us hl => us5 us hl (fun _ _ _ _ _ => rfl)⟩
    mgleast_from := PySem.W.mg_of X G aleast_from
    kpleast_from := kleast_from
    fnleast_of_ways := ⟨_, fun_mk (st := sleast_of_ways) lleast_of_ways dleast_of_ways kleast_of_ways, Fun.binds (ps := ["males_kin", "counts", "costs"]) (fun_mk (st := sleast_of_ways) lleast_of_ways dleast_of_ways kleast_of_ways) fun _ _ _ _ _ _ us hl => us3 us hl (fun _ _ _ => rfl)⟩
    mgleast_of_ways := PySem.W.mg_of X G aleast_of_ways
    kpleast_of_ways := kleast_of_ways
    fnakin_in := ⟨_, fun_mk (st := sakin_in) lakin_in dakin_in kakin_in, Fun.binds (ps := ["found"]) (fun_mk (st := sakin_in) lakin_in dakin_in kakin_in) fun _ _ _ _ _ _ us hl => us1 us hl (fun _ => rfl)⟩
    mgakin_in := PySem.W.mg_of X G aakin_in
    kpakin_in := kakin_in
    fnplan_numbers := ⟨_, fun_mk (st := splan_numbers) lplan_numbers dplan_numbers kplan_numbers, Fun.binds (ps := ["table", "males", "females", "young"]) (fun_mk (st := splan_numbers) lplan_numbers dplan_numbers kplan_numbers) fun _ _ _ _ _ _ us hl => us4 us hl (fun _ _ _ _ => rfl)⟩
    mgplan_numbers := PySem.W.mg_of X G aplan_numbers
    kpplan_numbers := kplan_numbers
    fnbreeders := ⟨_, fun_mk (st := sbreeders) lbreeders dbreeders kbreeders, Fun.binds (ps := ["table", "animals", "herd"]) (fun_mk (st := sbreeders) lbreeders dbreeders kbreeders) fun _ _ _ _ _ _ us hl => us3 us hl (fun _ _ _ => rfl)⟩
    mgbreeders := PySem.W.mg_of X G abreeders
    kpbreeders := kbreeders
    fnfilled_up := ⟨_, fun_mk (st := sfilled_up) lfilled_up dfilled_up kfilled_up, Fun.binds (ps := ["values", "blank"]) (fun_mk (st := sfilled_up) lfilled_up dfilled_up kfilled_up) fun _ _ _ _ _ _ us hl => us2 us hl (fun _ _ => rfl)⟩
    mgfilled_up := PySem.W.mg_of X G afilled_up
    kpfilled_up := kfilled_up
    fnanswers := ⟨_, fun_mk (st := sanswers) lanswers danswers kanswers, Fun.binds (ps := ["calls"]) (fun_mk (st := sanswers) lanswers danswers kanswers) fun _ _ _ _ _ _ us hl => us1 us hl (fun _ => rfl)⟩
    mganswers := PySem.W.mg_of X G aanswers
    kpanswers := kanswers
    fnanswer_call := ⟨_, fun_mk (st := sanswer_call) lanswer_call danswer_call kanswer_call, Fun.binds (ps := ["herd", "call", "given"]) (fun_mk (st := sanswer_call) lanswer_call danswer_call kanswer_call) fun _ _ _ _ _ _ us hl => us3 us hl (fun _ _ _ => rfl)⟩
    mganswer_call := PySem.W.mg_of X G aanswer_call
    kpanswer_call := kanswer_call
    iCERTAIN := ⟨_, PySem.W.mg_of X G gCERTAIN⟩
    iMOST_OF_A_SEX := ⟨_, PySem.W.mg_of X G gMOST_OF_A_SEX⟩
    iNO_BREEDER := ⟨_, PySem.W.mg_of X G gNO_BREEDER⟩
    iMOST_ANIMALS := ⟨_, PySem.W.mg_of X G gMOST_ANIMALS⟩
    iMOST_YOUNG := ⟨_, PySem.W.mg_of X G gMOST_YOUNG⟩
    iNOT_IN_BOOK := ⟨_, PySem.W.mg_of X G gNOT_IN_BOOK⟩
    iGONE_ALREADY := ⟨_, PySem.W.mg_of X G gGONE_ALREADY⟩
    iWRONG_SEX := ⟨_, PySem.W.mg_of X G gWRONG_SEX⟩
    iBAD_NUMBER := ⟨_, PySem.W.mg_of X G gBAD_NUMBER⟩
    iBOOK_FULL := ⟨_, PySem.W.mg_of X G gBOOK_FULL⟩
    iNO_PAIR := ⟨_, PySem.W.mg_of X G gNO_PAIR⟩
    iHB_START := ⟨_, PySem.W.mg_of X G gHB_START⟩
    iHB_NEW := ⟨_, PySem.W.mg_of X G gHB_NEW⟩
    iHB_BORN := ⟨_, PySem.W.mg_of X G gHB_BORN⟩
    iHB_GONE := ⟨_, PySem.W.mg_of X G gHB_GONE⟩
    iHB_KIN := ⟨_, PySem.W.mg_of X G gHB_KIN⟩
    iHB_HERD := ⟨_, PySem.W.mg_of X G gHB_HERD⟩
    tGIVEN_COUNTS := ⟨_, PySem.W.mg_of X G gGIVEN_COUNTS, fun H => .inr ⟨_, _, _, lGIVEN_COUNTS, rfl, rfl, (by show 7 ≤ sizeLine; decide), .cons ⟨_, rfl⟩ (.cons ⟨_, rfl⟩ (.cons ⟨_, rfl⟩ (.cons ⟨_, rfl⟩ (.cons ⟨_, rfl⟩ (.cons ⟨_, rfl⟩ (.cons ⟨_, rfl⟩ (.nil)))))))⟩⟩
    blen := PySem.W.mg_none_of X G zlen
    blist := PySem.W.mg_none_of X G zlist
    bmin := PySem.W.mg_none_of X G zmin
    brange := PySem.W.mg_none_of X G zrange
    bsorted := PySem.W.mg_none_of X G zsorted
    bsum := PySem.W.mg_none_of X G zsum
    btuple := PySem.W.mg_none_of X G ztuple
    bzip := PySem.W.mg_none_of X G zzip
  }
noncomputable def Ok (P : Program) (w : World) (K : PySem.W.Frag) (mg : Str → Option Value) (base : Heap) (k : Nat) (f : Addr) (ps : List Str) (sp : Sp) : Prop :=
  ∃ fd, Binds K fd ps [] ∧ FnOk P w K mg base CX0 k f fd ps sp
theorem Ok.lift {P : Program} {w : World} {K : PySem.W.Frag} {mg : Str → Option Value} {base : Heap} {j k : Nat} {f : Addr} {ps : List Str} {sp : Sp} (h : Ok P w K mg base j f ps sp) (hk : j ≤ k) : Ok P w K mg base k f ps sp := by
  obtain ⟨fd, b, F⟩ := h
  exact ⟨fd, b, F.mono hk⟩
end Hp
end
section
set_option Elab.async false
set_option linter.all false
set_option maxRecDepth 100000
namespace Hp
open PySem L2
structure TabAt (H : Hp) (t : Addr) (rs : List Addr) (n : Nat) (M : Nat → Nat → Nat) : Prop where
  lst : H t = some (.lst (rs.map V.ref))
  nd : rs.Nodup
  len : rs.length = n
  row : ∀ i r, rs[i]? = some r → H r = some (.lst ((List.range n).map fun j => V.int (M i j : Nat)))
theorem TabAt.same {H H' : Hp} {t : Addr} {rs : List Addr} {n : Nat} {M : Nat → Nat → Nat} (T : TabAt H t rs n M) (s : Same H H') : TabAt H' t rs n M := ⟨s _ _ T.lst, T.nd, T.len, fun i r e => s _ _ (T.row i r e)⟩
theorem TabAt.get {H : Hp} {t : Addr} {rs : List Addr} {n : Nat} {M : Nat → Nat → Nat} (T : TabAt H t rs n M) {i : Nat} (hi : i < n) : ∃ r, (rs.map V.ref)[i]? = some (V.ref r) ∧ H r = some (.lst ((List.range n).map fun j => V.int (M i j : Nat))) := by
  have hi' : i < rs.length := by rw [T.len]; exact hi
  exact ⟨rs[i], by rw [List.getElem?_map, List.getElem?_eq_getElem hi']; rfl, T.row i _ (List.getElem?_eq_getElem hi')⟩
theorem row_at {M : Nat → Nat} {n j : Nat} (hj : j < n) : ((List.range n).map fun j => V.int (M j : Nat))[j]? = some (V.int (M j : Nat)) := by
  rw [List.getElem?_map, List.getElem?_range hj]
  rfl
theorem T_len {H : Hp} {t : Addr} {rs : List Addr} {n : Nat} {M : Nat → Nat → Nat} (T : TabAt H t rs n M) : rs.length = n := T.len
noncomputable def nats (l : List Nat) : List V := l.map fun (x : Nat) => V.int (x : Int)
theorem nats_get {l : List Nat} {i : Nat} {x : V} (h : (nats l)[i]? = some x) : ∃ k, l[i]? = some k ∧ x = V.int (k : Int) := by
  unfold nats at h
  rw [List.getElem?_map] at h
  cases e : l[i]? with
  | none => rw [e] at h; cases h
  | some k =>
    rw [e] at h
    cases h
    exact ⟨k, rfl, rfl⟩
theorem sum_cast (l : List Nat) : (l.map fun (x : Nat) => (x : Int)).sum = ((l.sum : Nat) : Int) := by
  induction l with
  | nil => rfl
  | cons x l ih =>
    rw [List.map_cons, List.sum_cons, List.sum_cons, ih]
    omega
structure Chg (H H' : Hp) (part : Addr → Prop) : Prop where
  keep : ∀ b o, H b = some o → ¬ part b → H' b = some o
  free : ∀ b, H' b = none → H b = none
theorem Chg.refl {H : Hp} {part : Addr → Prop} : Chg H H part := ⟨fun _ _ e _ => e, fun _ e => e⟩
theorem Chg.of_same {H H' : Hp} {part : Addr → Prop} (s : Same H H') : Chg H H' part := ⟨fun b o e _ => s b o e, fun _ e => s.free e⟩
theorem Chg.upd {H H' : Hp} {part : Addr → Prop} {a : Addr} {o : HO} (c : Chg H H' part) (h : part a ∨ H a = none) : Chg H (upd H' a o) part := by
  refine ⟨fun b u e n => ?_, fun b e => ?_⟩
  · have hb : b ≠ a := by
      intro z
      subst z
      rcases h with h | h
      · exact n h
      · rw [h] at e; cases e
    rw [upd_ne hb]
    exact c.keep b u e n
  · by_cases hb : b = a
    · subst hb
      rw [upd_same] at e
      cases e
    · rw [upd_ne hb] at e
      exact c.free b e
theorem TabAt.nt {H : Hp} {t : Addr} {rs : List Addr} {n : Nat} {M : Nat → Nat → Nat} (T : TabAt H t rs n M) : ¬ t ∈ rs := by
  intro m
  obtain ⟨j, hj⟩ := List.mem_iff_getElem?.mp m
  have hlt := (List.getElem?_eq_some_iff.mp hj).1
  have e := T.row j t hj
  rw [T.lst] at e
  have e2 := Option.some.inj e
  injection e2 with e3
  have e4 : (rs.map V.ref)[j]? = ((List.range n).map fun k => V.int (M j k : Nat))[j]? := congrArg (fun l => l[j]?) e3
  rw [List.getElem?_map, hj, row_at (by rw [← T.len]; exact hlt)] at e4
  cases e4
noncomputable def parS : Option (Nat × Nat) → V
  | none => .non
  | some p => .int (p.1 : Nat)
noncomputable def parD : Option (Nat × Nat) → V
  | none => .non
  | some p => .int (p.2 : Nat)
noncomputable def meanO (o : Option (Nat × Nat)) (M : Nat → Nat → Nat) (j : Nat) : Nat := match o with
  | none => 0
  | some p => (M p.1 j + M p.2 j) / 2
noncomputable def selfO (o : Option (Nat × Nat)) (M : Nat → Nat → Nat) : Nat := match o with
  | none => 140737488355328
  | some p => (281474976710656 + M p.1 p.2) / 2
noncomputable def inO (o : Option (Nat × Nat)) (n : Nat) : Prop := ∀ p, o = some p → p.1 < n ∧ p.2 < n
noncomputable def growM (o : Option (Nat × Nat)) (M : Nat → Nat → Nat) (n i j : Nat) : Nat := if i < n then (if j < n then M i j else meanO o M i) else if j < n then meanO o M j else selfO o M
noncomputable def spKA : Sp := fun vs H Q _ => ∃ (t o : Addr) (rs : List Addr) (n : Nat) (M : Nat → Nat → Nat) (i : Nat) (os : List Nat), vs = [.ref t, .int (i : Nat), .ref o] ∧ TabAt H t rs n M ∧ i < n ∧ H o = some (.lst (nats os)) ∧ (∀ j ∈ os, j < n) ∧ os.length ≤ sizeLine ∧
  ∀ H', Same H H' → Q (.int ((os.map (M i)).sum : Nat)) H'
section
variable {P : Program} {w : World} {K : PySem.W.Frag} {mg : Str → Option Value} {base : Heap}
theorem scKA : FnScope ["table", "animal", "others", "other"] ["table", "animal", "others"] (defScope skin_to_all) := ⟨rfl, rfl, rfl, by decide +kernel, rfl, by decide +kernel, by decide +kernel⟩
theorem ok_ka {t : Adr} (T : Top K mg t) : Ok P w K mg base 1 t.fkin_to_all ["table", "animal", "others"] spKA := by
  refine hid fun ng => ?_
  obtain ⟨fd, F, bd⟩ := T.fnkin_to_all
  refine ng ?_
  clear ng
  refine ⟨fd, bd, ?_⟩
  refine F.ok scKA (fun vs H Q E h => ?_) (fun cdv A outer s H vs Q E hr h => ?_)
  · refine hid fun ng => ?_
    obtain ⟨t, o, rs, n, M, i, os, rfl, _⟩ := h
    refine ng ?_
    clear ng
    rfl
  · refine hid fun ng => ?_
    obtain ⟨ta, o, rs, n, M, i, os, rfl, TA, hi, ho, hos, hz, k⟩ := h
    refine ng ?_
    clear ng
    refine ⟨_, pss_one (ps_ret (pe_callB (cr_sum rfl) (by rfl) T.bsum boot_sum6 (pa_cons (pe_lc (own := [("other", 3)]) rfl scKA.nd (pi_list (pv 2)) (blkOk_by (N := ["table", "animal", "others", "other"]) (sc := defScope skin_to_all) (by decide +kernel))
      (fun _ _ _ _ _ => pg_name (i := 3) scKA.nd rfl (Or.inl rfl)) (fun _ _ _ _ _ => pts_nil)
      (fun _ _ _ _ _ => pe_ix (r := rIxL K) ix_list (pe_ix (r := rIxL K) ix_list (pv 0) (pv 1) (fun _ _ => rfl)) (pv 3) (fun _ _ => rfl))) pa_nil))), ?_⟩
    refine ⟨_, rfl, o, rfl, ⟨_, SqL.of ho⟩, fun D hD => ?_⟩
    refine lcf_list (fun _ => true) (fun j y _ => ∃ z, (os.map fun j => (M i j : Int))[j]? = some z ∧ y = V.int z) hD (SqL.of ho) (by unfold nats; rw [List.length_map]; exact hz) (fun _ _ _ _ _ h => h) (fun j x H2 Q2 N hx s2 _ hQ _ => ?_) (fun H2 acc s2 hacc hp => ?_)
    · refine hid fun ng => ?_
      obtain ⟨m, hm, rfl⟩ := nats_get hx
      obtain ⟨r, e1, e2⟩ := (TA.same s2).get hi
      refine ng ?_
      clear ng
      refine ⟨rfl, yes_go ?_⟩
      refine ⟨_, rfl, _, rfl, ta, _, _, _, rfl, rfl, SqL.of (TA.same s2).lst, atI_nat e1, _, rfl, r, _, _, _, rfl, rfl, SqL.of e2, atI_nat (row_at (hos m (List.mem_of_getElem? hm))), ?_⟩
      exact hQ rfl _ _ (Same.refl _) ⟨_, by rw [List.getElem?_map, hm]; rfl, rfl⟩
    · have e := ints_of (H := H2) (by rw [List.length_map]; unfold nats; rw [List.length_map]) hp
      refine ⟨D, _, rfl, SqL.of (by rw [hacc, e]), ?_⟩
      have e2 : (os.map fun j => (M i j : Int)).sum = (((os.map (M i)).sum : Nat) : Int) := by
        rw [← sum_cast, List.map_map]
        rfl
      rw [e2]
      exact k H2 s2
noncomputable def spKE : Sp := fun vs H Q _ => ∃ (t : Addr) (rs : List Addr) (n : Nat) (M : Nat → Nat → Nat) (o : Option (Nat × Nat)), vs = [.ref t, parS o, parD o] ∧ TabAt H t rs n M ∧ inO o n ∧ n ≤ 1000 ∧
  ∀ p H', Same H H' → H p = none → H' p = some (.lst ((List.range n).map fun j => V.int (meanO o M j : Nat))) → Q (.ref p) H'
theorem scKE : FnScope ["table", "sire", "dam", "other"] ["table", "sire", "dam"] (defScope skin_with_earlier) := ⟨rfl, rfl, rfl, by decide +kernel, rfl, by decide +kernel, by decide +kernel⟩
theorem rep_one {v : V} (n : Nat) : (List.replicate n [v]).flatten = List.replicate n v := by
  induction n with
  | zero => rfl
  | succ n ih => rw [List.replicate_succ, List.flatten_cons, ih, List.replicate_succ]; rfl
theorem line1000 {n : Nat} (h : n ≤ 1000) : n ≤ sizeLine := Nat.le_of_lt (small1000 h)
theorem ok_ke {t : Adr} (T : Top K mg t) : Ok P w K mg base 1 t.fkin_with_earlier ["table", "sire", "dam"] spKE := by
  refine hid fun ng => ?_
  obtain ⟨fd, F, bd⟩ := T.fnkin_with_earlier
  refine ng ?_
  clear ng
  refine ⟨fd, bd, ?_⟩
  refine F.ok scKE (fun vs H Q E h => ?_) (fun cdv A outer s H vs Q E hr h => ?_)
  · refine hid fun ng => ?_
    obtain ⟨t, rs, n, M, o, rfl, _⟩ := h
    refine ng ?_
    clear ng
    rfl
  · refine hid fun ng => ?_
    obtain ⟨ta, rs, n, M, o, rfl, TA, hin, hn, k⟩ := h
    refine ng ?_
    clear ng
    refine ⟨_, pss_cons (ps_if (pt_cmp (pc_isN (pv 1))) (pss_one (ps_ret (pe_op op_rep (pe_lst (pa_cons pe_int pa_nil)) (pe_callB call_len_seq (by rfl) T.blen PySem.boot_len (pa_cons (pv 0) pa_nil))))) pss_nil)
      (pss_one (ps_ret (pe_lc (own := [("other", 3)]) rfl scKE.nd (pi_range1 (by rfl) T.brange (pa_cons (pe_callB call_len_seq (by rfl) T.blen PySem.boot_len (pa_cons (pv 0) pa_nil)) pa_nil)) (blkOk_by (N := ["table", "sire", "dam", "other"]) (sc := defScope skin_with_earlier) (by decide +kernel))
      (fun _ _ _ _ _ => pg_name (i := 3) scKE.nd rfl (Or.inl rfl)) (fun _ _ _ _ _ => pts_nil)
      (fun _ _ _ _ _ => pe_op op_fdiv (pe_op op_add (pe_ix (r := rIxL K) ix_list (pe_ix (r := rIxL K) ix_list (pv 0) (pv 1) (fun _ _ => rfl)) (pv 3) (fun _ _ => rfl)) (pe_ix (r := rIxL K) ix_list (pe_ix (r := rIxL K) ix_list (pv 0) (pv 2) (fun _ _ => rfl)) (pv 3) (fun _ _ => rfl))) pe_int)))), ?_⟩
    refine ⟨_, rfl, _, rfl, ?_⟩
    cases o with
    | none =>
      refine iteT ?_
      refine ⟨by show 1 ≤ sizeLine; decide, fun q hq => ⟨_, rfl, ta, _, rfl, .inl (SqL.of (Same.upd hq _ _ TA.lst)), q, _, _, rfl, rfl, upd_same, ?_⟩⟩
      have el : (((rs.map V.ref).length : Nat) : Int).toNat = n := by rw [List.length_map, T_len TA]; rfl
      refine ⟨by omega, by rw [List.length_map, TA.len]; omega, by rw [el]; show 1 * n ≤ sizeLine; rw [Nat.one_mul]; exact line1000 hn, fun p hp => ?_⟩
      refine k p _ ((Same.upd hq).trans (Same.upd hp)) ((Same.upd hq).free hp) ?_
      rw [upd_same, el]
      have e : (List.replicate n [V.int 0]).flatten = (List.range n).map fun j => V.int (meanO none M j : Nat) := by
        rw [rep_one]
        refine List.ext_getElem? fun i => ?_
        by_cases hi : i < n
        · rw [List.getElem?_replicate, if_pos hi, List.getElem?_map, List.getElem?_range hi]
          rfl
        · rw [List.getElem?_eq_none (by rw [List.length_replicate]; omega), List.getElem?_eq_none (by rw [List.length_map, List.length_range]; omega)]
      rw [e]
    | some p =>
      obtain ⟨hs, hd⟩ := hin p rfl
      refine iteF ?_
      refine ⟨_, rfl, ta, _, rfl, .inl (SqL.of TA.lst), _, rfl, by omega, by rw [List.length_map, TA.len]; omega, fun D hD => ?_⟩
      have el : (((rs.map V.ref).length : Nat) : Int).toNat = n := by rw [List.length_map, T_len TA]; rfl
      rw [el]
      refine lcf_range (fun _ => true) (fun j y _ => ∃ z, ((List.range n).map fun j => (meanO (some p) M j : Int))[j]? = some z ∧ y = V.int z) hD (line1000 hn) (fun _ _ _ _ _ h => h) (fun j H2 Q2 N hj s2 _ hQ _ => ?_) (fun H2 acc s2 hacc hp => ?_)
      · refine hid fun ng => ?_
        obtain ⟨r, e1, e2⟩ := (TA.same s2).get hs
        obtain ⟨r', e1', e2'⟩ := (TA.same s2).get hd
        refine ng ?_
        clear ng
        have TL := (TA.same s2).lst
        refine ⟨rfl, yes_go ?_⟩
        have ej : (0 : Int) + (j : Nat) = ((j : Nat) : Int) := by omega
        refine ⟨_, rfl, _, rfl, ta, _, _, _, rfl, rfl, SqL.of TL, atI_nat e1, _, rfl, r, _, _, _, rfl, rfl, SqL.of e2, at_of (j := j) ej (row_at hj), _, rfl, _, rfl, ta, _, _, _, rfl, rfl, SqL.of TL, atI_nat e1', _, rfl, r', _, _, _, rfl, rfl, SqL.of e2', at_of (j := j) ej (row_at hj), _, _, rfl, rfl, _, _, rfl, rfl, ⟨by decide, by decide⟩, ?_⟩
        refine hQ rfl _ _ (Same.refl _) ⟨_, by rw [List.getElem?_map, List.getElem?_range hj]; rfl, ?_⟩
        exact congrArg V.int (by show (((M p.1 j : Nat) : Int) + ((M p.2 j : Nat) : Int)) / 2 = (((M p.1 j + M p.2 j) / 2 : Nat) : Int); omega)
      · have e := ints_of (H := H2) (by rw [List.length_map, List.length_range]) hp
        refine k D H2 s2 hD ?_
        rw [hacc, e, List.map_map]
        rfl
noncomputable def spKI : Sp := fun vs H Q _ => ∃ (t : Addr) (rs : List Addr) (o : Option (Nat × Nat)) (M : Nat → Nat → Nat), vs = [.ref t, parS o, parD o] ∧ H t = some (.lst (rs.map V.ref)) ∧ (∀ p, o = some p → ∃ q L, rs[p.1]? = some q ∧ H q = some (.lst L) ∧ L[p.2]? = some (.int (M p.1 p.2 : Nat))) ∧
  Q (.int (selfO o M : Nat)) H
theorem scKI : FnScope ["table", "sire", "dam"] ["table", "sire", "dam"] (defScope skin_with_itself) := ⟨rfl, rfl, rfl, by decide +kernel, rfl, by decide +kernel, by decide +kernel⟩
theorem ok_ki {t : Adr} (T : Top K mg t) : Ok P w K mg base 1 t.fkin_with_itself ["table", "sire", "dam"] spKI := by
  refine hid fun ng => ?_
  obtain ⟨fd, F, bd⟩ := T.fnkin_with_itself
  refine ng ?_
  clear ng
  refine ⟨fd, bd, ?_⟩
  obtain ⟨tc, hc⟩ := T.iCERTAIN
  refine F.ok scKI (fun vs H Q E h => ?_) (fun cdv A outer s H vs Q E hr h => ?_)
  · refine hid fun ng => ?_
    obtain ⟨t, rs, o, M, rfl, _⟩ := h
    refine ng ?_
    clear ng
    rfl
  · refine hid fun ng => ?_
    obtain ⟨ta, rs, o, M, rfl, hl, hp, k⟩ := h
    refine ng ?_
    clear ng
    refine ⟨_, pss_cons (ps_if (pt_cmp (pc_isN (pv 1))) (pss_one (ps_ret (pe_op op_fdiv (pe_glob (v := V.int 281474976710656) (by rfl) hc ⟨_, rfl⟩) pe_int))) pss_nil)
      (pss_one (ps_ret (pe_op op_fdiv (pe_op op_add (pe_glob (v := V.int 281474976710656) (by rfl) hc ⟨_, rfl⟩) (pe_ix ix_list (pe_ix ix_list (pv 0) (pv 1) (fun _ _ => rfl)) (pv 2) (fun _ _ => rfl))) pe_int))), ?_⟩
    refine ⟨_, rfl, _, rfl, ?_⟩
    cases o with
    | none =>
      refine iteT ?_
      refine ⟨_, _, rfl, rfl, ⟨by decide, by decide⟩, k⟩
    | some p =>
      refine hid fun ng => ?_
      obtain ⟨q, L, e1, e2, e3⟩ := hp p rfl
      refine ng ?_
      clear ng
      refine iteF ?_
      refine ⟨_, rfl, _, rfl, ta, _, _, _, rfl, rfl, SqL.of hl, atI_nat (v := V.ref q) (by rw [List.getElem?_map, e1]; rfl), _, rfl, q, _, _, _, rfl, rfl, SqL.of e2, atI_nat e3, _, _, rfl, rfl, _, _, rfl, rfl, ⟨by decide, by decide⟩, ?_⟩
      have e : ((281474976710656 : Int) + ((M p.1 p.2 : Nat) : Int)) / 2 = ((selfO (some p) M : Nat) : Int) := by
        show _ = (((281474976710656 + M p.1 p.2) / 2 : Nat) : Int)
        omega
      show Q (V.int (((281474976710656 : Int) + ((M p.1 p.2 : Nat) : Int)) / 2)) H
      rw [e]
      exact k
noncomputable def grown (o : Option (Nat × Nat)) (M : Nat → Nat → Nat) (n i m : Nat) : List V := ((List.range n).map fun j => V.int (M m j : Nat)) ++ (if m < i then [V.int (meanO o M m : Nat)] else [])
noncomputable def spAdd : Sp := fun vs H Q _ => ∃ (t : Addr) (rs : List Addr) (n : Nat) (M : Nat → Nat → Nat) (o : Option (Nat × Nat)), vs = [.ref t, parS o, parD o] ∧ TabAt H t rs n M ∧ inO o n ∧ n < 1000 ∧
  ∀ r H', TabAt H' t (rs ++ [r]) (n + 1) (growM o M n) → H r = none → Chg H H' (fun b => b = t ∨ b ∈ rs) → Q .non H'
theorem scAdd : FnScope ["table", "sire", "dam", "row", "other"] ["table", "sire", "dam"] (defScope sadd_to_table) := ⟨rfl, rfl, rfl, by decide +kernel, rfl, by decide +kernel, by decide +kernel⟩
theorem ok_add {t : Adr} (T : Top K mg t) : Ok P w K mg base 2 t.fadd_to_table ["table", "sire", "dam"] spAdd := by
  refine hid fun ng => ?_
  obtain ⟨fd, F, bd⟩ := T.fnadd_to_table
  refine ng ?_
  clear ng
  refine ⟨fd, bd, ?_⟩
  refine hid fun ng => ?_
  obtain ⟨fdE, bE, GE⟩ := ok_ke (P := P) (w := w) (base := base) T
  obtain ⟨fdI, bI, GI⟩ := ok_ki (P := P) (w := w) (base := base) T
  refine ng ?_
  clear ng
  refine F.ok scAdd (fun vs H Q E h => ?_) (fun cdv A outer s H vs Q E hr h => ?_)
  · refine hid fun ng => ?_
    obtain ⟨t, rs, n, M, o, rfl, _⟩ := h
    refine ng ?_
    clear ng
    rfl
  · refine hid fun ng => ?_
    obtain ⟨ta, rs, n, M, o, rfl, TA, hin, hn, k⟩ := h
    refine ng ?_
    clear ng
    refine ⟨_, pss_cons (ps_set (i := 3) scAdd.nd rfl (Or.inl rfl) (pe_call GE hr (by rfl) T.mgkin_with_earlier T.kpkin_with_earlier bE .nil pass0 (pa_cons (pv 0) (pa_cons (pv 1) (pa_cons (pv 2) pa_nil)))))
      (pss_cons (ps_for PassesOwn.never rfl (pi_range1 (by rfl) T.brange (pa_cons (pe_callB call_len_seq (by rfl) T.blen PySem.boot_len (pa_cons (pv 0) pa_nil)) pa_nil)) (pg_name (i := 4) scAdd.nd rfl (Or.inl rfl))
        (pss_one (ps_expr (pe_bm PySem.F.plainAttrs_list PySem.F.slot_list_append PySem.F.type_list_append mt_append (pe_ix ix_list (pv 0) (pv 4) (fun _ _ => rfl)) (pa_cons (pe_ix ix_list (pv 3) (pv 4) (fun _ _ => rfl)) pa_nil)))))
      (pss_cons (ps_expr (pe_bm PySem.F.plainAttrs_list PySem.F.slot_list_append PySem.F.type_list_append mt_append (pv 3) (pa_cons (pe_call GI hr (by rfl) T.mgkin_with_itself T.kpkin_with_itself bI .nil pass0 (pa_cons (pv 0) (pa_cons (pv 1) (pa_cons (pv 2) pa_nil)))) pa_nil)))
      (pss_one (ps_expr (pe_bm PySem.F.plainAttrs_list PySem.F.slot_list_append PySem.F.type_list_append mt_append (pv 0) (pa_cons (pv 3) pa_nil)))))), ?_⟩
    refine ⟨_, rfl, _, rfl, _, rfl, ta, rs, n, M, o, rfl, TA, hin, Nat.le_of_lt hn, fun r H1 s1 hr0 hr1 => ?_⟩
    have TA1 := TA.same s1
    have hrt : r ≠ ta := fun z => ne_of_none TA.lst hr0 z.symm
    have hrr : ¬ r ∈ rs := fun m => by
      obtain ⟨j, hj⟩ := List.mem_iff_getElem?.mp m
      exact ne_of_none (TA.row j r hj) hr0 rfl
    have el : (((rs.map V.ref).length : Nat) : Int).toNat = n := by rw [List.length_map, T_len TA]; rfl
    refine ⟨_, rfl, ta, _, rfl, .inl (SqL.of TA1.lst), _, rfl, by omega, by rw [List.length_map, TA.len]; omega, ?_⟩
    rw [el]
    refine for_range (fun i σ H2 => (∃ v4, σ = [some (.ref ta), some (parS o), some (parD o), some (.ref r), v4]) ∧ H2 ta = some (.lst (rs.map V.ref)) ∧ (∀ m q, rs[m]? = some q → H2 q = some (.lst (grown o M n i m))) ∧
      H2 r = some (.lst ((List.range n).map fun j => V.int (meanO o M j : Nat))) ∧ Chg H H2 (fun b => b = ta ∨ b ∈ rs)) ⟨⟨none, rfl⟩, TA1.lst, fun m q e => ?_, hr1, Chg.of_same s1⟩ (fun i σ H2 hi hI => ?_) (fun σ H2 hI => ?_)
    · rw [TA1.row m q e]
      unfold grown
      rw [if_neg (Nat.not_lt_zero _), List.append_nil]
    · refine hid fun ng => ?_
      obtain ⟨⟨v4, rfl⟩, h1, h2, h3, h4⟩ := hI
      refine ng ?_
      clear ng
      have hi' : i < rs.length := by rw [TA.len]; exact hi
      have eq : rs[i]? = some rs[i] := List.getElem?_eq_getElem hi'
      have ej : (0 : Int) + (i : Nat) = ((i : Nat) : Int) := by omega
      have hq := h2 i _ eq
      have eg : grown o M n i i = (List.range n).map fun j => V.int (M i j : Nat) := by
        unfold grown
        rw [if_neg (Nat.lt_irrefl _), List.append_nil]
      rw [eg] at hq
      refine ⟨_, rfl, _, rfl, ta, _, _, _, rfl, rfl, SqL.of h1, at_of (v := V.ref rs[i]) (j := i) ej (by rw [List.getElem?_map, eq]; rfl), .inl ⟨rfl, _, SqL.of hq⟩, _, rfl, _, rfl, r, _, _, _, rfl, rfl, SqL.of h3, at_of (j := i) ej (row_at (M := meanO o M) hi), rs[i], _, _, rfl, rfl, hq, by rw [List.length_map, List.length_range]; exact small1000 (Nat.le_of_lt hn), ?_⟩
      have nta : ta ≠ rs[i] := fun z => TA.nt (by rw [z]; exact List.mem_of_getElem? eq)
      have nr : r ≠ rs[i] := fun z => hrr (by rw [z]; exact List.mem_of_getElem? eq)
      refine ⟨⟨_, rfl⟩, by rw [upd_ne nta]; exact h1, fun m q e => ?_, by rw [upd_ne nr]; exact h3, h4.upd (.inl (.inr (List.mem_of_getElem? eq)))⟩
      by_cases hm : m = i
      · subst hm
        have ez : q = rs[m] := Option.some.inj (e.symm.trans eq)
        rw [ez, upd_same]
        unfold grown
        rw [if_pos (Nat.lt_succ_self _)]
      · have hne : q ≠ rs[i] := fun z => hm (nd_ix TA.nd e (by rw [eq, z]))
        rw [upd_ne hne, h2 m q e]
        unfold grown
        by_cases hlt : m < i
        · rw [if_pos hlt, if_pos (by omega)]
        · rw [if_neg hlt, if_neg (by omega)]
    · refine hid fun ng => ?_
      obtain ⟨⟨v4, rfl⟩, h1, h2, h3, h4⟩ := hI
      refine ng ?_
      clear ng
      refine ⟨_, rfl, .inl ⟨rfl, _, SqL.of h3⟩, _, rfl, _, rfl, _, rfl, ta, rs, o, M, rfl, h1, fun p hp => ?_, ?_⟩
      · obtain ⟨hs, hd⟩ := hin p hp
        have hs' : p.1 < rs.length := by rw [TA.len]; exact hs
        refine ⟨rs[p.1], _, List.getElem?_eq_getElem hs', h2 _ _ (List.getElem?_eq_getElem hs'), ?_⟩
        unfold grown
        rw [List.getElem?_append_left (by rw [List.length_map, List.length_range]; exact hd)]
        exact row_at hd
      · refine ⟨r, _, _, rfl, rfl, h3, by rw [List.length_map, List.length_range]; exact small1000 (Nat.le_of_lt hn), ?_⟩
        refine ⟨_, rfl, .inl ⟨rfl, _, SqL.of (by rw [upd_ne hrt.symm]; exact h1)⟩, _, rfl, ta, _, _, rfl, rfl, by rw [upd_ne hrt.symm]; exact h1, by rw [List.length_map, TA.len]; exact small1000 (Nat.le_of_lt hn), ?_⟩
        refine k r _ ⟨?_, ?_, ?_, fun i q e => ?_⟩ hr0 ((h4.upd (.inr hr0)).upd (.inl (.inl rfl)))
        · rw [upd_same, List.map_append]
          rfl
        · exact nd_snoc TA.nd hrr
        · rw [List.length_append, TA.len]
          rfl
        · have hspl : ∀ f : Nat → Nat, ((List.range (n + 1)).map fun j => V.int (f j : Nat)) = ((List.range n).map fun j => V.int (f j : Nat)) ++ [V.int (f n : Nat)] := fun f => by
            rw [List.range_succ, List.map_append]
            rfl
          rw [hspl (growM o M n i)]
          by_cases hi : i < n
          · rw [List.getElem?_append_left (by rw [TA.len]; exact hi)] at e
            have n1 : q ≠ ta := fun z => TA.nt (by rw [← z]; exact List.mem_of_getElem? e)
            have n2 : q ≠ r := fun z => hrr (by rw [← z]; exact List.mem_of_getElem? e)
            rw [upd_ne n1, upd_ne n2, h2 i q e]
            unfold grown
            rw [if_pos hi]
            congr 3
            · refine List.map_congr_left fun j hj => ?_
              unfold growM
              rw [if_pos hi, if_pos (List.mem_range.mp hj)]
            · unfold growM
              rw [if_pos hi, if_neg (Nat.lt_irrefl _)]
          · have hi2 : i = n := by
              have := (List.getElem?_eq_some_iff.mp e).1
              rw [List.length_append, TA.len] at this
              have : i < n + 1 := this
              omega
            subst hi2
            rw [List.getElem?_append_right (by rw [TA.len]; exact Nat.le_refl _), TA.len, Nat.sub_self] at e
            have e' : r = q := Option.some.inj e
            subst e'
            rw [upd_ne hrt, upd_same]
            congr 3
            · refine List.map_congr_left fun j hj => ?_
              unfold growM
              rw [if_neg (Nat.lt_irrefl _), if_pos (List.mem_range.mp hj)]
            · unfold growM
              rw [if_neg (Nat.lt_irrefl _), if_neg (Nat.lt_irrefl _)]
end
end Hp
end
section
set_option Elab.async false
set_option linter.all false
set_option maxRecDepth 100000
namespace Hp
open PySem L2
noncomputable def LRows (H : Hp) (p : Addr) (rows : List (List Int)) : Prop := ∃ qs : List Addr, H p = some (.lst (qs.map V.ref)) ∧ Paired (fun row q => H q = some (.lst (row.map V.int))) rows qs
noncomputable def LTups (H : Hp) (p : Addr) (rows : List (List Int)) : Prop := ∃ qs : List Addr, H p = some (.lst (qs.map V.ref)) ∧ Paired (fun row q => H q = some (.tup (row.map V.int))) rows qs
theorem LRows.same {H H' : Hp} {p : Addr} {rows : List (List Int)} (h : LRows H p rows) (s : Same H H') : LRows H' p rows := by
  refine hid fun ng => ?_
  obtain ⟨qs, h1, h2⟩ := h
  refine ng ?_
  clear ng
  exact ⟨qs, s _ _ h1, Paired.mapP h2 fun _ _ e => s _ _ e⟩
theorem LTups.same {H H' : Hp} {p : Addr} {rows : List (List Int)} (h : LTups H p rows) (s : Same H H') : LTups H' p rows := by
  refine hid fun ng => ?_
  obtain ⟨qs, h1, h2⟩ := h
  refine ng ?_
  clear ng
  exact ⟨qs, s _ _ h1, Paired.mapP h2 fun _ _ e => s _ _ e⟩
theorem Paired.get {α β : Type} {F : α → β → Prop} : ∀ {l : List α} {m : List β} {i : Nat} {x : α}, Paired F l m → l[i]? = some x → ∃ y, m[i]? = some y ∧ F x y
  | _, _, _, _, .nil, e => by simp at e
  | _, _, 0, _, .cons r _, e => by simp at e; subst e; exact ⟨_, rfl, r⟩
  | _, _, i + 1, x, .cons _ t, e => by
    refine hid fun ng => ?_
    obtain ⟨y, h1, h2⟩ := Paired.get (i := i) (x := x) t (by simpa using e)
    refine ng ?_
    clear ng
    exact ⟨y, by simpa using h1, h2⟩
noncomputable def castL (l : List Nat) : List Int := l.map fun (x : Nat) => (x : Int)
theorem nats_cast (l : List Nat) : nats l = (castL l).map V.int := by
  unfold nats castL
  rw [List.map_map]
  rfl
noncomputable def spKB : Sp := fun vs H Q _ => ∃ (t a o : Addr) (rs : List Addr) (n : Nat) (M : Nat → Nat → Nat) (as os : List Nat), vs = [.ref t, .ref a, .ref o] ∧ TabAt H t rs n M ∧ H a = some (.lst (nats as)) ∧ H o = some (.lst (nats os)) ∧ (∀ j ∈ as, j < n) ∧ (∀ j ∈ os, j < n) ∧ as.length ≤ 1000 ∧ os.length ≤ 1000 ∧
  ∀ p H', Same H H' → LRows H' p (as.map fun i => castL (os.map (M i))) → Q (.ref p) H'
section
variable {P : Program} {w : World} {K : PySem.W.Frag} {mg : Str → Option Value} {base : Heap}
theorem scKB : FnScope ["table", "animals", "others", "rows", "animal", "other"] ["table", "animals", "others"] (defScope skin_between) := ⟨rfl, rfl, rfl, by decide +kernel, rfl, by decide +kernel, by decide +kernel⟩
theorem ok_kb {t : Adr} (T : Top K mg t) : Ok P w K mg base 1 t.fkin_between ["table", "animals", "others"] spKB := by
  refine hid fun ng => ?_
  obtain ⟨fd, F, bd⟩ := T.fnkin_between
  refine ng ?_
  clear ng
  refine ⟨fd, bd, ?_⟩
  refine F.ok scKB (fun vs H Q E h => ?_) (fun cdv A outer s H vs Q E hr h => ?_)
  · refine hid fun ng => ?_
    obtain ⟨t, a, o, rs, n, M, as, os, rfl, _⟩ := h
    refine ng ?_
    clear ng
    rfl
  · refine hid fun ng => ?_
    obtain ⟨ta, a, o, rs, n, M, as, os, rfl, TA, ha, ho, has, hos, la, lo, k⟩ := h
    refine ng ?_
    clear ng
    refine ⟨_, pss_cons (ps_set (i := 3) scKB.nd rfl (Or.inl rfl) (pe_lst pa_nil))
      (pss_cons (ps_for PassesOwn.never rfl (pi_list (pv 1)) (pg_name (i := 4) scKB.nd rfl (Or.inr rfl))
        (pss_one (ps_expr (pe_bm PySem.F.plainAttrs_list PySem.F.slot_list_append PySem.F.type_list_append mt_append (pv 3) (pa_cons (pe_lc (own := [("other", 5)]) rfl scKB.nd (pi_list (pv 2)) (blkOk_by (N := ["table", "animals", "others", "rows", "animal", "other"]) (sc := defScope skin_between) (by decide +kernel))
          (fun _ _ _ _ _ => pg_name (i := 5) scKB.nd rfl (Or.inl rfl)) (fun _ _ _ _ _ => pts_nil)
          (fun _ _ _ _ _ => pe_ix (r := rIxL K) ix_list (pe_ix (r := rIxL K) ix_list (pv 0) (pv 4) (fun _ _ => rfl)) (pv 5) (fun _ _ => rfl))) pa_nil)))))
      (pss_one (ps_ret (pv 3)))), ?_⟩
    refine ⟨Nat.zero_le _, fun p0 hp0 => ?_⟩
    refine ⟨_, rfl, a, rfl, ⟨_, SqL.of (Same.upd hp0 _ _ ha)⟩, ?_⟩
    refine for_list (xs := nats as) (fun i σ H2 => (∃ v4 v5, σ = [some (.ref ta), some (.ref a), some (.ref o), some (.ref p0), v4, v5]) ∧ Same H H2 ∧ ∃ qs : List Addr, H2 p0 = some (.lst (qs.map V.ref)) ∧ qs.length = i ∧ ∀ (m : Nat) q, qs[m]? = some q → q ≠ p0 ∧ ∃ j, as[m]? = some j ∧ H2 q = some (.lst ((castL (os.map (M j))).map V.int)))
      ⟨⟨none, none, rfl⟩, Same.upd hp0, [], upd_same, rfl, fun m q e => absurd e (by rw [List.getElem?_nil]; simp)⟩ (fun i σ H2 _ hI => SqL.of (hI.2.1 _ _ ha)) (fun i x σ H2 hx hI => ?_) (fun σ H2 hI => ?_)
    · refine hid fun ng => ?_
      obtain ⟨⟨v4, v5, rfl⟩, s2, qs, hq1, hq2, hq3⟩ := hI
      obtain ⟨m, hm, rfl⟩ := nats_get hx
      refine ng ?_
      clear ng
      have hmn := has m (List.mem_of_getElem? hm)
      refine ⟨_, rfl, .inl ⟨rfl, _, SqL.of hq1⟩, _, rfl, o, rfl, ⟨_, SqL.of (s2 _ _ ho)⟩, fun D hD => ?_⟩
      refine lcf_list (fun _ => true) (fun j y _ => ∃ z, (castL (os.map (M m)))[j]? = some z ∧ y = V.int z) hD (SqL.of (s2 _ _ ho)) (by unfold nats; rw [List.length_map]; exact line1000 lo) (fun _ _ _ _ _ h => h) (fun j x H3 Q2 N hx s3 _ hQ _ => ?_) (fun H3 acc s3 hacc hp => ?_)
      · refine hid fun ng => ?_
        obtain ⟨c, hc, rfl⟩ := nats_get hx
        obtain ⟨r, e1, e2⟩ := (TA.same (s2.trans s3)).get hmn
        refine ng ?_
        clear ng
        refine ⟨rfl, yes_go ?_⟩
        refine ⟨_, rfl, _, rfl, ta, _, _, _, rfl, rfl, SqL.of (TA.same (s2.trans s3)).lst, atI_nat e1, _, rfl, r, _, _, _, rfl, rfl, SqL.of e2, atI_nat (row_at (hos c (List.mem_of_getElem? hc))), ?_⟩
        refine hQ rfl _ _ (Same.refl _) ⟨_, by unfold castL; rw [List.getElem?_map, List.getElem?_map, hc]; rfl, rfl⟩
      · have e := ints_of (H := H3) (by unfold castL; rw [List.length_map, List.length_map]; unfold nats; rw [List.length_map]) hp
        have hp03 := s3 _ _ hq1
        have nD : D ≠ p0 := fun z => by rw [z, hq1] at hD; cases hD
        have il : i < as.length := (List.getElem?_eq_some_iff.mp hm).1
        refine ⟨p0, _, _, rfl, rfl, hp03, by rw [List.length_map, hq2]; exact small1000 (by omega), ?_⟩
        refine ⟨⟨_, _, rfl⟩, (s2.trans s3).upd' hp0, qs ++ [D], by rw [upd_same, List.map_append]; rfl, by rw [List.length_append, hq2]; rfl, fun m' q e' => ?_⟩
        by_cases hm' : m' < i
        · rw [List.getElem?_append_left (by rw [hq2]; exact hm')] at e'
          refine hid fun ng => ?_
          obtain ⟨n1, j, e1, e2⟩ := hq3 m' q e'
          refine ng ?_
          clear ng
          exact ⟨n1, j, e1, by rw [upd_ne n1]; exact s3 _ _ e2⟩
        · have em : m' = i := by
            have := (List.getElem?_eq_some_iff.mp e').1
            rw [List.length_append, hq2] at this
            have : m' < i + 1 := this
            omega
          subst em
          rw [List.getElem?_append_right (by rw [hq2]; exact Nat.le_refl _), hq2, Nat.sub_self] at e'
          have e'' : D = q := Option.some.inj e'
          subst e''
          exact ⟨nD, m, hm, by rw [upd_ne nD, hacc, e]⟩
    · refine hid fun ng => ?_
      obtain ⟨⟨v4, v5, rfl⟩, s2, qs, hq1, hq2, hq3⟩ := hI
      refine ng ?_
      clear ng
      refine ⟨_, rfl, k p0 H2 s2 ⟨qs, hq1, ?_⟩⟩
      have hl : qs.length = as.length := by rw [hq2]; unfold nats; rw [List.length_map]
      have gen : ∀ (l : List Nat) (q : List Addr), q.length = l.length → (∀ (m : Nat) x, q[m]? = some x → ∃ j, l[m]? = some j ∧ H2 x = some (.lst ((castL (os.map (M j))).map V.int))) → Paired (fun row q => H2 q = some (.lst (row.map V.int))) (l.map fun i => castL (os.map (M i))) q := by
        intro l
        induction l with
        | nil =>
          intro q hq _
          rw [List.length_eq_zero_iff.mp hq]
          exact .nil
        | cons x l ih =>
          intro q hq hh
          cases q with
          | nil => simp at hq
          | cons y q =>
            rw [List.map_cons]
            refine .cons ?_ (ih q (by simpa using hq) fun m z e => hh (m + 1) z e)
            refine hid fun ng => ?_
            obtain ⟨j, e1, e2⟩ := hh 0 y rfl
            refine ng ?_
            clear ng
            have : x = j := Option.some.inj e1
            subst this
            exact e2
      exact gen as qs hl fun m q e => (hq3 m q e).2
end
end Hp
end
section
set_option Elab.async false
set_option linter.all false
set_option maxRecDepth 100000
namespace Hp
open PySem L2
noncomputable def Sq (H : Hp) (a : Addr) (xs : List V) : Prop := H a = some (.lst xs) ∨ H a = some (.tup xs)
theorem Sq.same {H H' : Hp} {a : Addr} {xs : List V} (h : Sq H a xs) (s : Same H H') : Sq H' a xs := h.elim (fun e => .inl (s _ _ e)) fun e => .inr (s _ _ e)
theorem Sq.len {K : PySem.W.Frag} {H : Hp} {a : Addr} {xs : List V} (h : Sq H a xs) : SqL K H a xs ∨ SqT K H a xs := h.elim (fun e => .inl (SqL.of e)) fun e => .inr (SqT.of e)
theorem Sq.at_ {K : PySem.W.Frag} {H : Hp} {a : Addr} {xs : List V} {i : Int} {v : V} {Q : VK} (h : Sq H a xs) (e : atI xs i = some v) (q : Q v H) : rIx K (.ref a) (.int i) H Q := by
  rcases h with h | h
  · exact .inl ⟨a, xs, i, v, rfl, rfl, SqL.of h, e, q⟩
  · exact .inr (.inl ⟨a, xs, i, v, rfl, rfl, SqT.of h, e, q⟩)
theorem cut_tail (x : V) (xs : List V) : cutV (x :: xs) (some 1) none = xs := by
  unfold cutV
  have e1 : HT.sIx (x :: xs).length 0 (some 1) = 1 := by
    have := HT.sIx_nat (x :: xs).length 0 1
    rw [List.length_cons] at this ⊢
    rw [show (some (1 : Int)) = some ((1 : Nat) : Int) from rfl, this]
    omega
  rw [e1, HT.sIx_none, List.length_cons]
  show (xs.take (xs.length + 1 - 1)) = xs
  rw [Nat.add_sub_cancel, List.take_length]
noncomputable def rSlX (K : PySem.W.Frag) : V → Option Int → Option Int → Hp → VK → Prop := fun x lo hi H Q => rSlL K x lo hi H Q ∨ rSlT K x lo hi H Q
theorem Sq.tail {K : PySem.W.Frag} {H : Hp} {a : Addr} {x : V} {xs : List V} {Q : VK} (h : Sq H a (x :: xs)) (q : ∀ p H', Same H H' → H p = none → Sq H' p xs → Q (.ref p) H') : rSlX K (.ref a) (some 1) none H Q := by
  rcases h with h | h
  · refine .inl ⟨a, _, rfl, SqL.of h, fun p hp => q p _ (Same.upd hp) hp (.inl ?_)⟩
    rw [upd_same, cut_tail]
  · refine .inr ⟨a, _, rfl, SqT.of h, fun z => ?_, fun p hp => q p _ (Same.upd hp) hp (.inr ?_)⟩
    · have e1 := HT.sIx_nat (x :: xs).length 0 1
      rw [List.length_cons] at e1
      have e2 : HT.sIx (x :: xs).length 0 (some 1) = 0 := z.1
      rw [List.length_cons, show (some (1 : Int)) = some ((1 : Nat) : Int) from rfl, e1] at e2
      omega
    · rw [upd_same, cut_tail]
noncomputable abbrev TupL (H : Hp) : List (List Int) → List Addr → Prop := Paired (fun row q => H q = some (.tup (row.map V.int)))
theorem TupL.same {H H' : Hp} {rows : List (List Int)} {qs : List Addr} (h : TupL H rows qs) (s : ∀ c xs, H c = some (.tup xs) → H' c = some (.tup xs)) : TupL H' rows qs := Paired.mapP h fun _ _ e => s _ _ e
theorem Paired.append' {α β : Type} {F : α → β → Prop} : ∀ {l : List α} {m : List β} {l' : List α} {m' : List β}, Paired F l m → Paired F l' m' → Paired F (l ++ l') (m ++ m')
  | _, _, _, _, .nil, h => h
  | _, _, _, _, .cons r t, h => .cons r (Paired.append' t h)
theorem tup_upd {H : Hp} {a : Addr} {xs : List V} {o : HO} (h : H a = some (.lst xs)) : ∀ c ys, H c = some (.tup ys) → upd H a o c = some (.tup ys) := fun c ys e => by
  rw [upd_ne (ne_of e h (by intro z; cases z))]
  exact e
noncomputable def rowsTo (y : Nat) (l : List Nat) (c i : Nat) : List (List Nat) := ((List.range (min y c + 1)).reverse.take i).flatMap fun x => (Km255.rows l (c - x)).map fun r => x :: r
theorem rowsTo_all (y : Nat) (l : List Nat) (c : Nat) : rowsTo y l c (min y c + 1) = Km255.rows (y :: l) c := by
  unfold rowsTo
  rw [List.take_of_length_le (by rw [List.length_reverse, List.length_range]; exact Nat.le_refl _)]
  rfl
theorem rev_get {m i : Nat} (h : i < m + 1) : (List.range (m + 1)).reverse[i]? = some (m - i) := by
  rw [List.getElem?_reverse (by rw [List.length_range]; exact h), List.length_range, List.getElem?_range (by omega)]
  congr 1
theorem rowsTo_succ (y : Nat) (l : List Nat) (c : Nat) {i : Nat} (h : i < min y c + 1) : rowsTo y l c (i + 1) = rowsTo y l c i ++ (Km255.rows l (c - (min y c - i))).map fun r => (min y c - i) :: r := by
  unfold rowsTo
  rw [List.take_add_one, rev_get h, List.flatMap_append]
  congr 1
  show _ ++ [] = _
  rw [List.append_nil]
theorem rowsTo_len (y : Nat) (l : List Nat) (c : Nat) {i : Nat} (h : i < min y c + 1) : (rowsTo y l c i).length + (Km255.rows l (c - (min y c - i))).length ≤ (Km255.rows (y :: l) c).length := by
  have e : Km255.rows (y :: l) c = rowsTo y l c (i + 1) ++ (((List.range (min y c + 1)).reverse.drop (i + 1)).flatMap fun x => (Km255.rows l (c - x)).map fun r => x :: r) := by
    unfold rowsTo
    rw [← List.flatMap_append, List.take_append_drop]
    rfl
  rw [e, rowsTo_succ y l c h, List.length_append, List.length_append, List.length_map]
  omega
noncomputable def spW (n : Nat) : Sp := fun vs H Q _ => ∃ (r : Addr) (c : Nat) (rooms : List Nat), vs = [.int (c : Nat), .ref r] ∧ Sq H r (nats rooms) ∧ rooms.length = n + 1 ∧ n ≤ 3 ∧ c ≤ 8 ∧ (∀ y ∈ rooms, y ≤ 8) ∧
  ∀ p H', Same H H' → H p = none → LTups H' p ((Km255.rows rooms c).map castL) → Q (.ref p) H'
section
variable {P : Program} {w : World} {K : PySem.W.Frag} {mg : Str → Option Value} {base : Heap}
theorem scW : FnScope ["count", "rooms", "ways", "first", "rest"] ["count", "rooms"] (defScope sways_to_share) := ⟨rfl, rfl, rfl, by decide +kernel, rfl, by decide +kernel, by decide +kernel⟩
theorem ok_ways {t : Adr} (T : Top K mg t) : ∀ n, Ok P w K mg base (n + 1) t.fways_to_share ["count", "rooms"] (spW n)
  | 0 => by
    refine hid fun ng => ?_
    obtain ⟨fd, F, bd⟩ := T.fnways_to_share
    refine ng ?_
    clear ng
    refine ⟨fd, bd, ?_⟩
    refine F.ok scW (fun vs H Q E h => ?_) (fun cdv A outer s H vs Q E hr h => ?_)
    · refine hid fun ng => ?_
      obtain ⟨r, c, rooms, rfl, _⟩ := h
      refine ng ?_
      clear ng
      rfl
    · refine hid fun ng => ?_
      obtain ⟨r, c, rooms, rfl, hrm, hlen, hn3, hc8, hr8, k⟩ := h
      refine ng ?_
      clear ng
      refine ⟨_, pss_cons (ps_if (pt_cmpR op_eq (pe_callB call_len_seq (by rfl) T.blen PySem.boot_len (pa_cons (pv 1) pa_nil)) pe_int (nomark _)) (pss_one (ps_ret (pe_ifExp (pt_cmpR op_le (pv 0) (pe_ix ix_seq (pv 1) pe_int (fun _ _ => rfl)) (nomark _)) (pe_lst (pa_cons (pe_tup (pa_cons (pv 0) pa_nil)) pa_nil)) (pe_lst pa_nil)))) pss_nil)
        pss_never, ?_⟩
      obtain ⟨y, rfl⟩ : ∃ y, rooms = [y] := by
        cases rooms with
        | nil => simp at hlen
        | cons y l =>
          cases l with
          | nil => exact ⟨y, rfl⟩
          | cons z l => simp at hlen
      refine ⟨_, rfl, r, _, rfl, hrm.len, rfl, _, rfl, ?_⟩
      refine iteTb (show decide (V.int (((nats [y]).length : Nat) : Int) = V.int 1) = true from decide_eq_true rfl) ?_
      refine ⟨_, rfl, _, rfl, hrm.at_ (i := 0) (at_of (v := V.int (y : Nat)) (j := 0) rfl rfl) ⟨_, _, rfl, rfl, _, rfl, ?_⟩⟩
      rw [Hw.rows55_one] at k
      by_cases hcy : c ≤ y
      · rw [if_pos hcy] at k
        rw [show decide ((c : Int) ≤ (y : Int)) = true from decide_eq_true (by omega)]
        refine iteT ⟨_, rfl, by show 1 ≤ sizeLine; decide, fun p hp => ⟨by show 1 ≤ sizeLine; decide, fun q hq => ?_⟩⟩
        have hq0 := (Same.upd hp).free hq
        refine k q _ ((Same.upd hp).trans (Same.upd hq)) hq0 ⟨[p], upd_same, .cons ?_ .nil⟩
        rw [upd_ne (ne_of_none upd_same hq)]
        exact upd_same
      · rw [if_neg hcy] at k
        rw [show decide ((c : Int) ≤ (y : Int)) = false from decide_eq_false (by omega)]
        refine iteF ⟨Nat.zero_le _, fun q hq => ?_⟩
        exact k q _ (Same.upd hq) hq ⟨[], upd_same, .nil⟩
  | n + 1 => by
    refine hid fun ng => ?_
    obtain ⟨fd, F, bd⟩ := T.fnways_to_share
    refine ng ?_
    clear ng
    refine ⟨fd, bd, ?_⟩
    refine hid fun ng => ?_
    obtain ⟨fdR, bR, GR⟩ := ok_ways T n
    refine ng ?_
    clear ng
    refine F.ok scW (fun vs H Q E h => ?_) (fun cdv A outer s H vs Q E hr h => ?_)
    · refine hid fun ng => ?_
      obtain ⟨r, c, rooms, rfl, _⟩ := h
      refine ng ?_
      clear ng
      rfl
    · refine hid fun ng => ?_
      obtain ⟨r, c, rooms, rfl, hrm, hlen, hn3, hc8, hr8, k⟩ := h
      refine ng ?_
      clear ng
      refine ⟨_, pss_cons (ps_if (pt_cmpR op_eq (pe_callB call_len_seq (by rfl) T.blen PySem.boot_len (pa_cons (pv 1) pa_nil)) pe_int (nomark _)) pss_never pss_nil)
        (pss_cons (ps_set (i := 2) scW.nd rfl (Or.inl rfl) (pe_lst pa_nil))
        (pss_cons (ps_for PassesOwn.never rfl (pi_range3 (by rfl) T.brange (pa_cons (pe_callB (call_min2 rfl) (by rfl) T.bmin boot_min6 (pa_cons (pv 0) (pa_cons (pe_ix ix_seq (pv 1) pe_int (fun _ _ => rfl)) pa_nil))) (pa_cons (pe_un un_neg pe_int) (pa_cons (pe_un un_neg pe_int) pa_nil)))) (pg_name (i := 3) scW.nd rfl (Or.inl rfl))
          (pss_one (ps_for PassesOwn.never rfl (pi_list (pe_call GR hr (by rfl) T.mgways_to_share T.kpways_to_share bR .nil pass0 (pa_cons (pe_op op_sub (pv 0) (pv 3)) (pa_cons (pe_slice (sl_list.or sl_tup) (pv 1) (po_some pe_int) po_none) pa_nil)))) (pg_name (i := 4) scW.nd rfl (Or.inl rfl))
            (pss_one (ps_expr (pe_bm PySem.F.plainAttrs_list PySem.F.slot_list_append PySem.F.type_list_append mt_append (pv 2) (pa_cons (pe_op op_catT (pe_tup (pa_cons (pv 3) pa_nil)) (pv 4)) pa_nil)))))))
        (pss_one (ps_ret (pv 2))))), ?_⟩
      obtain ⟨y, l, rfl⟩ : ∃ y l, rooms = y :: l := by
        cases rooms with
        | nil => simp at hlen
        | cons y l => exact ⟨y, l, rfl⟩
      have hll : l.length = n + 1 := by simpa using hlen
      have hl8 : ∀ z ∈ l, z ≤ 8 := fun z hz => hr8 z (List.mem_cons_of_mem _ hz)
      refine ⟨_, rfl, r, _, rfl, hrm.len, rfl, _, rfl, ?_⟩
      refine iteFb (show decide (V.int (((nats (y :: l)).length : Nat) : Int) = V.int 1) = false from decide_eq_false (by
        intro z
        injection z with z
        unfold nats at z
        rw [List.length_map, List.length_cons, hll] at z
        omega)) ?_
      refine ⟨Nat.zero_le _, fun w0 hw0 => ?_⟩
      have s1 : Same H (upd H w0 (.lst [])) := Same.upd hw0
      have em : (if (y : Int) < (c : Int) then (y : Int) else (c : Int)) = ((min y c : Nat) : Int) := by
        by_cases q : (y : Int) < (c : Int)
        · rw [if_pos q]; omega
        · rw [if_neg q]; omega
      have hm8 : min y c ≤ 8 := by omega
      refine ⟨_, rfl, _, rfl, (hrm.same s1).at_ (i := 0) (at_of (v := V.int (y : Nat)) (j := 0) rfl rfl) ⟨_, _, rfl, _, rfl, _, rfl, _, _, _, _, rfl, RgC.neg ?_ ?_ ?_ ?_, ?_⟩⟩
      · rw [em]; omega
      · rw [em]; omega
      · decide
      · decide
      rw [em, show (((min y c : Nat) : Int) - -1).toNat = min y c + 1 by omega]
      have hcnt := Hw.rows55_few (y :: l) c hr8
      have h94 : 9 ^ (y :: l).length ≤ 6561 := by
        rw [List.length_cons, hll]
        exact Nat.le_trans (Nat.pow_le_pow_right (by decide) (show n + 1 + 1 ≤ 4 by omega)) (by decide)
      have hline : (6561 : Nat) < sizeLine := by decide
      refine for_rangeC (fun i σ H2 => (∃ v3 v4, σ = [some (.int (c : Nat)), some (.ref r), some (.ref w0), v3, v4]) ∧ Same H H2 ∧ ∃ qs : List Addr, H2 w0 = some (.lst (qs.map V.ref)) ∧ TupL H2 ((rowsTo y l c i).map castL) qs)
        ⟨⟨none, none, rfl⟩, s1, [], upd_same, .nil⟩ (fun i σ H2 hi hI => ?_) (fun σ H2 hI => ?_)
      · refine hid fun ng => ?_
        obtain ⟨⟨v3, v4, rfl⟩, s2, qs, hw, hq⟩ := hI
        refine ng ?_
        clear ng
        have ef : ((min y c : Nat) : Int) + ((i : Nat) : Int) * (-1) = ((min y c - i : Nat) : Int) := by omega
        rw [ef]
        generalize hf : min y c - i = f
        have hfy : f ≤ min y c := by omega
        refine ⟨_, rfl, _, rfl, _, _, rfl, rfl, _, rfl, _, rfl, (hrm.same s2).tail fun p2 H3 s3 hp2 hr2 => ?_⟩
        have ec : ((c : Nat) : Int) - ((f : Nat) : Int) = ((c - f : Nat) : Int) := by omega
        refine ⟨p2, c - f, l, by show [V.int (((c : Nat) : Int) - ((f : Nat) : Int)), V.ref p2] = _; rw [ec], hr2, hll, by omega, by omega, hl8, fun p H4 s4 hp4 LT => ?_⟩
        refine hid fun ng => ?_
        obtain ⟨ps, hps, hpt⟩ := LT
        refine ng ?_
        clear ng
        refine ⟨p, rfl, ⟨_, SqL.of hps⟩, ?_⟩
        have s24 := s3.trans s4
        have nw : p ≠ w0 := fun z => by
          have e := s3 _ _ hw
          rw [← z, hp4] at e
          cases e
        have hbl : (rowsTo y l c i).length + (Km255.rows l (c - f)).length ≤ 6561 := by
          have e := rowsTo_len y l c hi
          rw [hf] at e
          omega
        have hpl : ps.length = (Km255.rows l (c - f)).length := by
          have e := Paired.length hpt
          rw [List.length_map] at e
          exact e.symm
        refine for_list (xs := ps.map V.ref) (fun j σ H5 => (∃ v4, σ = [some (.int (c : Nat)), some (.ref r), some (.ref w0), some (.int (f : Nat)), v4]) ∧ Same H H5 ∧ H5 p = some (.lst (ps.map V.ref)) ∧ TupL H5 ((Km255.rows l (c - f)).map castL) ps ∧
          ∃ qs : List Addr, H5 w0 = some (.lst (qs.map V.ref)) ∧ TupL H5 ((rowsTo y l c i ++ ((Km255.rows l (c - f)).take j).map fun r => f :: r).map castL) qs)
          ⟨⟨_, rfl⟩, s2.trans s24, hps, hpt, qs, s24 _ _ hw, ?_⟩ (fun j σ H5 _ hJ => SqL.of hJ.2.2.1) (fun j x σ H5 hx hJ => ?_) (fun σ H5 hJ => ?_)
        · rw [List.take_zero, List.map_nil, List.append_nil]
          exact hq.same fun c xs e => s24 _ _ e
        · refine hid fun ng => ?_
          obtain ⟨⟨v4, rfl⟩, s5, hp5, ht5, qs5, hw5, hq5⟩ := hJ
          refine ng ?_
          clear ng
          rw [List.getElem?_map] at hx
          cases ex : ps[j]? with
          | none => rw [ex] at hx; cases hx
          | some q =>
            rw [ex] at hx
            cases hx
            refine hid fun ng => ?_
            obtain ⟨row', er, hrow⟩ := Paired.get' ht5 ex
            refine ng ?_
            clear ng
            rw [List.getElem?_map] at er
            cases er2 : (Km255.rows l (c - f))[j]? with
            | none => rw [er2] at er; cases er
            | some row =>
              rw [er2] at er
              have er3 : castL row = row' := Option.some.inj er
              subst er3
              have hrl : row.length = l.length := ((Hw.rows55_mem l (c - f) row).mp (List.mem_of_getElem? er2)).1
              have hql : qs5.length ≤ 6561 := by
                have e := Paired.length hq5
                rw [List.length_map, List.length_append, List.length_map, List.length_take] at e
                omega
              refine ⟨_, rfl, .inl ⟨rfl, _, SqL.of hw5⟩, _, rfl, by show 1 ≤ sizeLine; decide, fun a1 ha1 => ⟨_, rfl, a1, q, _, _, rfl, rfl, SqT.of upd_same, SqT.of (Same.upd ha1 _ _ hrow), by simp, ?_, fun z => ?_, fun _ p' hp' => ?_⟩⟩
              · show 1 + _ ≤ sizeLine
                unfold castL
                rw [List.length_map, List.length_map, hrl, hll]
                exact line1000 (by omega)
              · have z2 := congrArg List.length z
                unfold castL at z2
                rw [List.length_map, List.length_map, hrl, hll] at z2
                cases z2
              · have e1 : ((upd (upd H5 a1 (.tup [V.int (f : Nat)])) p' (.tup ([V.int (f : Nat)] ++ (castL row).map V.int)))) w0 = some (.lst (qs5.map V.ref)) := (Same.upd ha1).trans (Same.upd hp') _ _ hw5
                have s6 : Same H5 (upd (upd H5 a1 (.tup [V.int (f : Nat)])) p' (.tup ([V.int (f : Nat)] ++ (castL row).map V.int))) := (Same.upd ha1).trans (Same.upd hp')
                refine ⟨w0, _, _, rfl, rfl, e1, by rw [List.length_map]; omega, ⟨⟨_, rfl⟩, (s5.trans s6).upd' hw0, ?_, ?_, qs5 ++ [p'], by rw [upd_same, List.map_append]; rfl, ?_⟩⟩
                · rw [upd_ne nw]; exact s6 _ _ hp5
                · exact (ht5.same fun c xs e => s6 _ _ e).same (tup_upd e1)
                · have e3 : (rowsTo y l c i ++ ((Km255.rows l (c - f)).take (j + 1)).map fun r => f :: r) = (rowsTo y l c i ++ ((Km255.rows l (c - f)).take j).map fun r => f :: r) ++ [f :: row] := by
                    rw [List.take_add_one, er2, List.map_append, List.append_assoc]
                    rfl
                  rw [e3, List.map_append]
                  refine Paired.append' ((hq5.same fun c xs e => s6 _ _ e).same (tup_upd e1)) (.cons ?_ .nil)
                  have e2 : (upd (upd H5 a1 (.tup [V.int (f : Nat)])) p' (.tup ([V.int (f : Nat)] ++ (castL row).map V.int))) p' = some (.tup ((castL (f :: row)).map V.int)) := upd_same
                  exact tup_upd e1 _ _ e2
        · refine hid fun ng => ?_
          obtain ⟨⟨v4, rfl⟩, s5, hp5, ht5, qs5, hw5, hq5⟩ := hJ
          refine ng ?_
          clear ng
          refine ⟨⟨_, _, rfl⟩, s5, qs5, hw5, ?_⟩
          rw [List.length_map, hpl, List.take_length] at hq5
          rw [rowsTo_succ y l c hi, hf]
          exact hq5
      · refine hid fun ng => ?_
        obtain ⟨⟨v3, v4, rfl⟩, s2, qs, hw, hq⟩ := hI
        refine ng ?_
        clear ng
        refine ⟨_, rfl, k w0 H2 s2 hw0 ⟨qs, hw, ?_⟩⟩
        rw [rowsTo_all] at hq
        exact hq
end
end Hp
end
section
set_option Elab.async false
set_option linter.all false
set_option maxRecDepth 100000
namespace Hp
open PySem L2
noncomputable def wsum (xs : List Int) (cs : List Nat) : Int := (List.zipWith (fun a c => a * c) xs (castL cs)).sum
noncomputable def spWe : Sp := fun vs H Q _ => ∃ (a c : Addr) (xs : List Int) (cs : List Nat), vs = [.ref a, .ref c] ∧ H a = some (.lst (xs.map V.int)) ∧ H c = some (.tup (nats cs)) ∧ xs.length = cs.length ∧ cs.length ≤ 1000 ∧ (∀ x ∈ cs, x ≤ 8) ∧
  ∀ H', Same H H' → Q (.int (wsum xs cs)) H'
theorem zw_get {xs ys : List Int} {f : Int → Int → Int} {i : Nat} {x y : Int} (hx : xs[i]? = some x) (hy : ys[i]? = some y) : (List.zipWith f xs ys)[i]? = some (f x y) := by
  rw [List.getElem?_zipWith, hx, hy]
theorem ints_get {l : List Int} {i : Nat} {x : V} (h : (l.map V.int)[i]? = some x) : ∃ k, l[i]? = some k ∧ x = V.int k := by
  rw [List.getElem?_map] at h
  cases e : l[i]? with
  | none => rw [e] at h; cases h
  | some k =>
    rw [e] at h
    cases h
    exact ⟨k, rfl, rfl⟩
section
variable {P : Program} {w : World} {K : PySem.W.Frag} {mg : Str → Option Value} {base : Heap}
theorem scWe : FnScope ["numbers", "counts", "number", "count"] ["numbers", "counts"] (defScope sweighed) := ⟨rfl, rfl, rfl, by decide +kernel, rfl, by decide +kernel, by decide +kernel⟩
theorem ok_we {t : Adr} (T : Top K mg t) : Ok P w K mg base 1 t.fweighed ["numbers", "counts"] spWe := by
  refine hid fun ng => ?_
  obtain ⟨fd, F, bd⟩ := T.fnweighed
  refine ng ?_
  clear ng
  refine ⟨fd, bd, ?_⟩
  refine F.ok scWe (fun vs H Q E h => ?_) (fun cdv A outer s H vs Q E hr h => ?_)
  · refine hid fun ng => ?_
    obtain ⟨a, c, xs, cs, rfl, _⟩ := h
    refine ng ?_
    clear ng
    rfl
  · refine hid fun ng => ?_
    obtain ⟨a, c, xs, cs, rfl, ha, hc, hlen, h1000, h8, k⟩ := h
    refine ng ?_
    clear ng
    refine ⟨_, pss_one (ps_ret (pe_callB (cr_sum rfl) (by rfl) T.bsum boot_sum6 (pa_cons (pe_lc (own := [("number", 2), ("count", 3)]) rfl scWe.nd (pi_zq (by rfl) T.bzip (pa_cons (pv 0) (pa_cons (pv 1) pa_nil))) (blkOk_by (N := ["numbers", "counts", "number", "count"]) (sc := defScope sweighed) (by decide +kernel))
      (fun _ _ _ _ _ => pg_pair (K := K) rfl rfl (pgs_cons (pg_name (i := 2) scWe.nd rfl (Or.inl rfl) (Or.inr rfl)) (pgs_cons (pg_name (i := 3) scWe.nd rfl (Or.inl rfl) (Or.inr rfl)) pgs_nil)) rfl rfl) (fun _ _ _ _ _ => pts_nil)
      (fun _ _ _ _ _ => pe_op op_mul (pv 2) (pv 3))) pa_nil))), ?_⟩
    refine ⟨_, rfl, _, rfl, false, true, a, c, _, _, rfl, SqX.l ha, SqX.t hc, fun D hD => ?_⟩
    have hlz : xs.length = (List.zipWith (fun a c => a * c) xs (castL cs)).length := by
      rw [List.length_zipWith]
      unfold castL
      rw [List.length_map]
      omega
    refine lcf_zip (fun _ => true) (fun j y _ => ∃ z, (List.zipWith (fun a c => a * c) xs (castL cs))[j]? = some z ∧ y = V.int z) hD (SqX.l ha) (SqX.t hc) (by unfold nats; rw [List.length_map, List.length_map]; exact hlen) (by rw [List.length_map, hlen]; exact line1000 h1000) (fun _ _ _ _ _ h => h) (fun j x y T2 H2 Q2 N hx hy hT s2 _ hQ _ => ?_) (fun H2 acc s2 hacc hp => ?_)
    · refine hid fun ng => ?_
      obtain ⟨u, hu, rfl⟩ := ints_get hx
      obtain ⟨m, hm, rfl⟩ := nats_get hy
      refine ng ?_
      clear ng
      have hm8 := h8 m (List.mem_of_getElem? hm)
      refine ⟨T2, _, rfl, SqT.of hT, rfl, _, _, rfl, _, _, rfl, rfl, rfl, yes_go ?_⟩
      refine ⟨_, rfl, _, rfl, _, _, rfl, rfl, .inr ⟨by omega, by omega⟩, ?_⟩
      exact hQ rfl _ _ (Same.refl _) ⟨_, zw_get hu (y := (m : Int)) (by unfold castL; rw [List.getElem?_map, hm]; rfl), rfl⟩
    · rw [List.length_map] at hp
      have e := ints_of (H := H2) hlz.symm hp
      refine ⟨D, _, rfl, SqL.of (by rw [hacc, e]), ?_⟩
      exact k H2 s2
theorem refs_get {l : List Addr} {i : Nat} {x : V} (h : (l.map V.ref)[i]? = some x) : ∃ q, l[i]? = some q ∧ x = V.ref q := by
  rw [List.getElem?_map] at h
  cases e : l[i]? with
  | none => rw [e] at h; cases h
  | some k =>
    rw [e] at h
    cases h
    exact ⟨k, rfl, rfl⟩
noncomputable def kaI (rows : List (List Int)) (cs : List Nat) : Int := wsum (rows.map fun r => wsum r cs) cs
noncomputable def spAm : Sp := fun vs H Q _ => ∃ (k c : Addr) (rows : List (List Int)) (cs : List Nat), vs = [.ref k, .ref c] ∧ LRows H k rows ∧ H c = some (.tup (nats cs)) ∧ rows.length = cs.length ∧ (∀ r ∈ rows, r.length = cs.length) ∧ cs.length ≤ 1000 ∧ (∀ x ∈ cs, x ≤ 8) ∧
  ∀ H', Same H H' → Q (.int (kaI rows cs)) H'
theorem scAm : FnScope ["kin", "counts", "row"] ["kin", "counts"] (defScope skin_among) := ⟨rfl, rfl, rfl, by decide +kernel, rfl, by decide +kernel, by decide +kernel⟩
theorem ok_am {t : Adr} (T : Top K mg t) : Ok P w K mg base 2 t.fkin_among ["kin", "counts"] spAm := by
  refine hid fun ng => ?_
  obtain ⟨fd, F, bd⟩ := T.fnkin_among
  refine ng ?_
  clear ng
  refine ⟨fd, bd, ?_⟩
  refine hid fun ng => ?_
  obtain ⟨fdW, bW, GW⟩ := ok_we (P := P) (w := w) (base := base) T
  refine ng ?_
  clear ng
  refine F.ok scAm (fun vs H Q E h => ?_) (fun cdv A outer s H vs Q E hr h => ?_)
  · refine hid fun ng => ?_
    obtain ⟨k, c, rows, cs, rfl, _⟩ := h
    refine ng ?_
    clear ng
    rfl
  · refine hid fun ng => ?_
    obtain ⟨ka, c, rows, cs, rfl, ⟨qs, hk, hq⟩, hc, hlen, hrl, h1000, h8, k⟩ := h
    refine ng ?_
    clear ng
    refine ⟨_, pss_one (ps_ret (pe_call GW hr (by rfl) T.mgweighed T.kpweighed bW .nil pass0 (pa_cons (pe_lc (own := [("row", 2)]) rfl scAm.nd (pi_list (pv 0)) (blkOk_by (N := ["kin", "counts", "row"]) (sc := defScope skin_among) (by decide +kernel))
      (fun _ _ _ _ _ => pg_name (i := 2) scAm.nd rfl (Or.inl rfl)) (fun _ _ _ _ _ => pts_nil)
      (fun _ _ _ _ _ => pe_call GW hr (by rfl) T.mgweighed T.kpweighed bW .nil pass0 (pa_cons (pv 2) (pa_cons (pv 1) pa_nil)))) (pa_cons (pv 1) pa_nil)))), ?_⟩
    refine ⟨_, rfl, ka, rfl, ⟨_, SqL.of hk⟩, fun D hD => ?_⟩
    have hql : qs.length = rows.length := (Paired.length hq).symm
    refine lcf_list (fun _ => true) (fun j y _ => ∃ z, (rows.map fun r => wsum r cs)[j]? = some z ∧ y = V.int z) hD (SqL.of hk) (by rw [List.length_map, hql, hlen]; exact line1000 h1000) (fun _ _ _ _ _ h => h) (fun j x H2 Q2 N hx s2 _ hQ _ => ?_) (fun H2 acc s2 hacc hp => ?_)
    · refine hid fun ng => ?_
      obtain ⟨q, hqj, rfl⟩ := refs_get hx
      obtain ⟨row, er, hrow⟩ := Paired.get' hq hqj
      refine ng ?_
      clear ng
      refine ⟨rfl, yes_go ?_⟩
      refine ⟨_, rfl, _, rfl, q, c, row, cs, rfl, s2 _ _ hrow, s2 _ _ hc, hrl row (List.mem_of_getElem? er), h1000, h8, fun H3 s3 => ?_⟩
      exact hQ rfl _ _ s3 ⟨_, by rw [List.getElem?_map, er]; rfl, rfl⟩
    · rw [List.length_map, hql] at hp
      have e := ints_of (H := H2) (by rw [List.length_map]) hp
      refine ⟨_, rfl, D, c, _, cs, rfl, by rw [hacc, e], s2 _ _ hc, by rw [List.length_map]; exact hlen, h1000, h8, fun H3 s3 => k H3 (s2.trans s3)⟩
noncomputable def pullI (row : List Int) (ways : List (List Nat)) : List Int := ways.map fun w => 2 * wsum row w
noncomputable def spPu : Sp := fun vs H Q _ => ∃ (a f : Addr) (row : List Int) (ways : List (List Nat)), vs = [.ref a, .ref f] ∧ H a = some (.lst (row.map V.int)) ∧ LTups H f (ways.map castL) ∧ (∀ w ∈ ways, w.length = row.length ∧ ∀ x ∈ w, x ≤ 8) ∧ row.length ≤ 1000 ∧ ways.length ≤ 10000 ∧
  ∀ p H', Same H H' → H p = none → H' p = some (.lst ((pullI row ways).map V.int)) → Q (.ref p) H'
theorem scPu : FnScope ["row", "females_ways", "way"] ["row", "females_ways"] (defScope spull_of_male) := ⟨rfl, rfl, rfl, by decide +kernel, rfl, by decide +kernel, by decide +kernel⟩
theorem line10000 {n : Nat} (h : n ≤ 10000) : n ≤ sizeLine := Nat.le_trans h (by decide)
theorem ok_pu {t : Adr} (T : Top K mg t) : Ok P w K mg base 2 t.fpull_of_male ["row", "females_ways"] spPu := by
  refine hid fun ng => ?_
  obtain ⟨fd, F, bd⟩ := T.fnpull_of_male
  refine ng ?_
  clear ng
  refine ⟨fd, bd, ?_⟩
  refine hid fun ng => ?_
  obtain ⟨fdW, bW, GW⟩ := ok_we (P := P) (w := w) (base := base) T
  refine ng ?_
  clear ng
  refine F.ok scPu (fun vs H Q E h => ?_) (fun cdv A outer s H vs Q E hr h => ?_)
  · refine hid fun ng => ?_
    obtain ⟨a, f, row, ways, rfl, _⟩ := h
    refine ng ?_
    clear ng
    rfl
  · refine hid fun ng => ?_
    obtain ⟨a, f, row, ways, rfl, ha, ⟨qs, hk, hq⟩, hw, h1000, h10k, k⟩ := h
    refine ng ?_
    clear ng
    refine ⟨_, pss_one (ps_ret (pe_lc (own := [("way", 2)]) rfl scPu.nd (pi_list (pv 1)) (blkOk_by (N := ["row", "females_ways", "way"]) (sc := defScope spull_of_male) (by decide +kernel))
      (fun _ _ _ _ _ => pg_name (i := 2) scPu.nd rfl (Or.inl rfl)) (fun _ _ _ _ _ => pts_nil)
      (fun _ _ _ _ _ => pe_op op_mul pe_int (pe_call GW hr (by rfl) T.mgweighed T.kpweighed bW .nil pass0 (pa_cons (pv 0) (pa_cons (pv 2) pa_nil)))))), ?_⟩
    refine ⟨_, rfl, f, rfl, ⟨_, SqL.of hk⟩, fun D hD => ?_⟩
    have hql : qs.length = ways.length := by rw [← Paired.length hq, List.length_map]
    refine lcf_list (fun _ => true) (fun j y _ => ∃ z, (pullI row ways)[j]? = some z ∧ y = V.int z) hD (SqL.of hk) (by rw [List.length_map, hql]; exact line10000 h10k) (fun _ _ _ _ _ h => h) (fun j x H2 Q2 N hx s2 _ hQ _ => ?_) (fun H2 acc s2 hacc hp => ?_)
    · refine hid fun ng => ?_
      obtain ⟨q, hqj, rfl⟩ := refs_get hx
      obtain ⟨way', er, hrow⟩ := Paired.get' hq hqj
      refine ng ?_
      clear ng
      rw [List.getElem?_map] at er
      cases er2 : ways[j]? with
      | none => rw [er2] at er; cases er
      | some way =>
        rw [er2] at er
        have er3 : castL way = way' := Option.some.inj er
        subst er3
        obtain ⟨w1, w2⟩ := hw way (List.mem_of_getElem? er2)
        refine ⟨rfl, yes_go ?_⟩
        refine ⟨_, rfl, _, rfl, a, q, row, way, rfl, s2 _ _ ha, by rw [nats_cast]; exact s2 _ _ hrow, w1.symm, by omega, w2, fun H3 s3 => ⟨_, _, rfl, rfl, .inl ⟨by decide, by decide⟩, ?_⟩⟩
        exact hQ rfl _ _ s3 ⟨_, by unfold pullI; rw [List.getElem?_map, er2]; rfl, rfl⟩
    · rw [List.length_map, hql] at hp
      have e := ints_of (H := H2) (by unfold pullI; rw [List.length_map]) hp
      exact k D H2 s2 hD (by rw [hacc, e])
noncomputable def addV (xs : List Int) (z : Int) (ys : List Int) : List Int := List.zipWith (fun x y => x + z * y) xs ys
theorem addV_zero : ∀ {xs ys : List Int}, xs.length = ys.length → addV xs 0 ys = xs
  | [], [], _ => rfl
  | x :: xs, y :: ys, h => by
    show (x + 0 * y) :: addV xs 0 ys = x :: xs
    rw [addV_zero (by simpa using h), Int.zero_mul, Int.add_zero]
  | [], _ :: _, h => by simp at h
  | _ :: _, [], h => by simp at h
theorem addV_len {xs ys : List Int} (z : Int) (h : xs.length = ys.length) : (addV xs z ys).length = xs.length := by
  unfold addV
  rw [List.length_zipWith]
  omega
noncomputable def spAv : Sp := fun vs H Q _ => ∃ (a b : Addr) (xs ys : List Int) (z : Int), vs = [.ref a, .int z, .ref b] ∧ H a = some (.lst (xs.map V.int)) ∧ H b = some (.lst (ys.map V.int)) ∧ xs.length = ys.length ∧ xs.length ≤ 10000 ∧ -10 ≤ z ∧ z ≤ 10 ∧
  ∀ p H', Same H H' → (p = a ∨ H p = none) → H' p = some (.lst ((addV xs z ys).map V.int)) → Q (.ref p) H'
theorem scAv : FnScope ["numbers", "count", "more", "number", "step"] ["numbers", "count", "more"] (defScope swith_added) := ⟨rfl, rfl, rfl, by decide +kernel, rfl, by decide +kernel, by decide +kernel⟩
theorem ok_av {t : Adr} (T : Top K mg t) : Ok P w K mg base 1 t.fwith_added ["numbers", "count", "more"] spAv := by
  refine hid fun ng => ?_
  obtain ⟨fd, F, bd⟩ := T.fnwith_added
  refine ng ?_
  clear ng
  refine ⟨fd, bd, ?_⟩
  refine F.ok scAv (fun vs H Q E h => ?_) (fun cdv A outer s H vs Q E hr h => ?_)
  · refine hid fun ng => ?_
    obtain ⟨a, b, xs, ys, z, rfl, _⟩ := h
    refine ng ?_
    clear ng
    rfl
  · refine hid fun ng => ?_
    obtain ⟨a, b, xs, ys, z, rfl, ha, hb, hlen, h10k, hz1, hz2, k⟩ := h
    refine ng ?_
    clear ng
    refine ⟨_, pss_cons (ps_if (pt_cmpR op_eq (pv 1) pe_int (nomark _)) (pss_one (ps_ret (pv 0))) pss_nil)
      (pss_one (ps_ret (pe_lc (own := [("number", 3), ("step", 4)]) rfl scAv.nd (pi_zq (by rfl) T.bzip (pa_cons (pv 0) (pa_cons (pv 2) pa_nil))) (blkOk_by (N := ["numbers", "count", "more", "number", "step"]) (sc := defScope swith_added) (by decide +kernel))
      (fun _ _ _ _ _ => pg_pair (K := K) rfl rfl (pgs_cons (pg_name (i := 3) scAv.nd rfl (Or.inl rfl) (Or.inr rfl)) (pgs_cons (pg_name (i := 4) scAv.nd rfl (Or.inl rfl) (Or.inr rfl)) pgs_nil)) rfl rfl) (fun _ _ _ _ _ => pts_nil)
      (fun _ _ _ _ _ => pe_op op_add (pv 3) (pe_op op_mul (pv 1) (pv 4)))))), ?_⟩
    refine ⟨_, rfl, rfl, _, rfl, ?_⟩
    by_cases h0 : z = 0
    · subst h0
      rw [show decide (V.int 0 = V.int 0) = true from decide_eq_true rfl]
      refine iteT ⟨_, rfl, ?_⟩
      refine k a H (Same.refl _) (.inl rfl) ?_
      rw [addV_zero hlen]
      exact ha
    · refine iteFb (show decide (V.int z = V.int 0) = false from decide_eq_false (by intro q; injection q with q; exact h0 q)) ?_
      refine ⟨_, rfl, _, rfl, false, false, a, b, _, _, rfl, SqX.l ha, SqX.l hb, fun D hD => ?_⟩
      refine lcf_zip (fun _ => true) (fun j y _ => ∃ u, (addV xs z ys)[j]? = some u ∧ y = V.int u) hD (SqX.l ha) (SqX.l hb) (by rw [List.length_map, List.length_map]; exact hlen) (by rw [List.length_map]; exact line10000 h10k) (fun _ _ _ _ _ h => h) (fun j x y T2 H2 Q2 N hx hy hT s2 _ hQ _ => ?_) (fun H2 acc s2 hacc hp => ?_)
      · refine hid fun ng => ?_
        obtain ⟨u, hu, rfl⟩ := ints_get hx
        obtain ⟨m, hm, rfl⟩ := ints_get hy
        refine ng ?_
        clear ng
        refine ⟨T2, _, rfl, SqT.of hT, rfl, _, _, rfl, _, _, rfl, rfl, rfl, yes_go ?_⟩
        refine ⟨_, rfl, _, rfl, _, rfl, _, _, rfl, rfl, .inl ⟨by omega, by omega⟩, _, _, rfl, rfl, ?_⟩
        exact hQ rfl _ _ (Same.refl _) ⟨_, zw_get hu hm, rfl⟩
      · rw [List.length_map] at hp
        have e := ints_of (H := H2) (addV_len z hlen) hp
        exact k D H2 s2 (.inr hD) (by rw [hacc, e])
noncomputable def spAk : Sp := fun vs H Q _ => ∃ (p : Addr) (z : Int) (r : List V), vs = [.ref p] ∧ H p = some (.tup (.int z :: r)) ∧ Q (.int z) H
theorem scAk : FnScope ["found"] ["found"] (defScope sakin_in) := ⟨rfl, rfl, rfl, by decide +kernel, rfl, by decide +kernel, by decide +kernel⟩
theorem ok_ak {t : Adr} (T : Top K mg t) : Ok P w K mg base 1 t.fakin_in ["found"] spAk := by
  refine hid fun ng => ?_
  obtain ⟨fd, F, bd⟩ := T.fnakin_in
  refine ng ?_
  clear ng
  refine ⟨fd, bd, ?_⟩
  refine F.ok scAk (fun vs H Q E h => ?_) (fun cdv A outer s H vs Q E hr h => ?_)
  · refine hid fun ng => ?_
    obtain ⟨p, z, r, rfl, _⟩ := h
    refine ng ?_
    clear ng
    rfl
  · refine hid fun ng => ?_
    obtain ⟨p, z, r, rfl, hp, k⟩ := h
    refine ng ?_
    clear ng
    refine ⟨_, pss_one (ps_ret (pe_ix ix_tup (pv 0) pe_int (fun _ _ => rfl))), ?_⟩
    exact ⟨_, rfl, p, _, _, _, rfl, rfl, SqT.of hp, at_of (j := 0) rfl rfl, k⟩
noncomputable def spLW : Sp := fun vs H Q _ => ∃ (k c o : Addr) (rows : List (List Int)) (cs : List Nat) (costs : List Int), vs = [.ref k, .ref c, .ref o] ∧ LRows H k rows ∧ H c = some (.tup (nats cs)) ∧ rows.length = cs.length ∧ (∀ r ∈ rows, r.length = cs.length) ∧ cs.length ≤ 1000 ∧ (∀ x ∈ cs, x ≤ 8) ∧
  H o = some (.lst (costs.map V.int)) ∧ 0 < costs.length ∧
  ∀ p H' (v : Nat) (z : Int), Same H H' → costs[v]? = some z → (∀ (i : Nat) y, costs[i]? = some y → z ≤ y ∧ (i < v → z < y)) → H' p = some (.tup [.int (z + kaI rows cs), .ref c, .int (v : Nat)]) → Q (.ref p) H'
theorem scLW : FnScope ["males_kin", "counts", "costs", "least"] ["males_kin", "counts", "costs"] (defScope sleast_of_ways) := ⟨rfl, rfl, rfl, by decide +kernel, rfl, by decide +kernel, by decide +kernel⟩
theorem first_place {z : Int} : ∀ {l : List Int}, z ∈ l → ∃ v : Nat, l[v]? = some z ∧ ∀ (i : Nat) y, i < v → l[i]? = some y → y ≠ z
  | [], h => (nomatch h)
  | a :: l, h => by
    by_cases e : a = z
    · exact ⟨0, by rw [e]; rfl, fun i y hi => absurd hi (Nat.not_lt_zero _)⟩
    · have h' : z ∈ l := by
        rcases List.mem_cons.mp h with q | q
        · exact absurd q.symm e
        · exact q
      refine hid fun ng => ?_
      obtain ⟨v, h1, h2⟩ := first_place h'
      refine ng ?_
      clear ng
      refine ⟨v + 1, h1, fun i y hi hy => ?_⟩
      cases i with
      | zero =>
        have : a = y := Option.some.inj hy
        rw [← this]; exact e
      | succ i => exact h2 i y (by omega) hy
theorem ok_lw {t : Adr} (T : Top K mg t) : Ok P w K mg base 3 t.fleast_of_ways ["males_kin", "counts", "costs"] spLW := by
  refine hid fun ng => ?_
  obtain ⟨fd, F, bd⟩ := T.fnleast_of_ways
  refine ng ?_
  clear ng
  refine ⟨fd, bd, ?_⟩
  refine hid fun ng => ?_
  obtain ⟨fdA, bA, GA⟩ := ok_am (P := P) (w := w) (base := base) T
  refine ng ?_
  clear ng
  refine F.ok scLW (fun vs H Q E h => ?_) (fun cdv A outer s H vs Q E hr h => ?_)
  · refine hid fun ng => ?_
    obtain ⟨k, c, o, rows, cs, costs, rfl, _⟩ := h
    refine ng ?_
    clear ng
    rfl
  · refine hid fun ng => ?_
    obtain ⟨ka, c, o, rows, cs, costs, rfl, hk, hc, hlen, hrl, h1000, h8, ho, hpos, k⟩ := h
    refine ng ?_
    clear ng
    refine ⟨_, pss_cons (ps_set (i := 3) scLW.nd rfl (Or.inl rfl) (pe_callB (cr_min rfl) (by rfl) T.bmin boot_min6 (pa_cons (pv 2) pa_nil)))
      (pss_one (ps_ret (pe_tup (pa_cons (pe_op op_add (pv 3) (pe_call GA hr (by rfl) T.mgkin_among T.kpkin_among bA .nil pass0 (pa_cons (pv 0) (pa_cons (pv 1) pa_nil)))) (pa_cons (pv 1) (pa_cons (pe_bm PySem.F.plainAttrs_list PySem.F.slot_list_index PySem.F.type_list_index mt_index (pv 2) (pa_cons (pv 3) pa_nil)) pa_nil)))))), ?_⟩
    refine ⟨_, rfl, o, costs, rfl, SqL.of ho, hpos, fun z hz hle => ?_⟩
    refine ⟨_, rfl, _, rfl, _, rfl, ka, c, rows, cs, rfl, hk, hc, hlen, hrl, h1000, h8, fun H2 s2 => ?_⟩
    refine hid fun ng => ?_
    obtain ⟨v, hv1, hv2⟩ := first_place hz
    refine ng ?_
    clear ng
    have ho2 := s2 _ _ ho
    refine ⟨_, _, rfl, rfl, _, rfl, _, rfl, .inl ⟨rfl, _, SqL.of ho2⟩, _, rfl, o, _, _, v, .int z, rfl, rfl, SqL.of ho2, rfl, ?_, by rw [List.getElem?_map, hv1]; rfl, ?_, fun m y hm hy => ?_, by show 3 ≤ sizeLine; decide, fun p hp => ?_⟩
    · rw [List.all_map]
      exact List.all_eq_true.mpr fun x _ => rfl
    · show (z == z) = true
      exact beq_self_eq_true z
    · refine hid fun ng => ?_
      obtain ⟨u, hu, rfl⟩ := ints_get hy
      refine ng ?_
      clear ng
      show (u == z) = false
      exact beq_eq_false_iff_ne.mpr (hv2 m u hm hu)
    · refine k p _ v z (s2.trans (Same.upd hp)) hv1 (fun i y hy => ⟨hle y (List.mem_of_getElem? hy), fun hi => ?_⟩) upd_same
      have e1 := hle y (List.mem_of_getElem? hy)
      have e2 := hv2 i y hi hy
      omega
end
end Hp
end
section
set_option Elab.async false
set_option linter.all false
set_option maxRecDepth 100000
namespace Hp
open PySem L2
noncomputable def tot (MK : List (List Int)) : List (List Int) → List Nat → List Int → List Nat → Nat → Int
  | [], counts, costs, r, v => costs.getD v 0 + kaI MK (counts ++ r)
  | mv :: ms, counts, costs, r, v => tot MK ms (counts ++ [r.headD 0]) (addV costs (r.headD 0 : Nat) mv) r.tail v
noncomputable def rCatX (K : PySem.W.Frag) : R2 := fun x y H Q => rCatT K x y H Q ∨ rCat0 K x y H Q
theorem catX {K : PySem.W.Frag} {H : Hp} {a b : Addr} {xs ys : List V} {Q : VK} (ha : H a = some (.tup xs)) (hb : H b = some (.tup ys)) (hy : ys ≠ []) (hl : xs.length + ys.length ≤ 1000) (q : ∀ p H', Same H H' → H' p = some (.tup (xs ++ ys)) → Q (.ref p) H') : rCatX K (.ref a) (.ref b) H Q := by
  by_cases hx : xs = []
  · subst hx
    exact .inr ⟨a, b, ys, rfl, rfl, SqT.of ha, SqT.of hb, q b H (Same.refl _) hb⟩
  · exact .inl ⟨a, b, xs, ys, rfl, rfl, SqT.of ha, SqT.of hb, hx, line1000 hl, fun z => absurd z hy, fun _ p hp => q p _ (Same.upd hp) upd_same⟩
theorem nats_append (a b : List Nat) : nats a ++ nats b = nats (a ++ b) := by
  unfold nats
  rw [List.map_append]
theorem nats_len (a : List Nat) : (nats a).length = a.length := by
  unfold nats
  rw [List.length_map]
structure LFin (H : Hp) (mk mv cs co : Addr) (MK MV : List (List Int)) (counts : List Nat) (left : Nat) (costs : List Int) (j : Nat) : Prop where
  km : LRows H mk MK
  mv : LRows H mv MV
  cs : H cs = some (.tup (nats counts))
  co : H co = some (.lst (costs.map V.int))
  pos : 0 < costs.length
  few : costs.length ≤ 10000
  wid : ∀ r ∈ MV, r.length = costs.length
  len : MV.length = counts.length + j
  three : MV.length ≤ 3
  sq : MK.length = MV.length + 1
  sqr : ∀ r ∈ MK, r.length = MV.length + 1
  l8 : left ≤ 8
  c8 : ∀ x ∈ counts, x ≤ 8
noncomputable def spLF (j : Nat) : Sp := fun vs H Q _ => ∃ (mk mv cs co : Addr) (MK MV : List (List Int)) (counts : List Nat) (left : Nat) (costs : List Int), vs = [.ref mk, .ref mv, .ref cs, .int (left : Nat), .ref co] ∧ LFin H mk mv cs co MK MV counts left costs j ∧
  ∀ p c' H' (r : List Nat) (v : Nat) (z : Int), Same H H' → H' p = some (.tup [.int z, .ref c', .int (v : Nat)]) → H' c' = some (.tup (nats (counts ++ r))) → z = tot MK (MV.drop counts.length) counts costs r v →
    Hw.FL (fun x => tot MK (MV.drop counts.length) counts costs x.1 x.2) (Hw.pairs (j + 1) left costs.length) (r, v) → Q (.ref p) H'
section
variable {P : Program} {w : World} {K : PySem.W.Frag} {mg : Str → Option Value} {base : Heap}
theorem scLF : FnScope ["males_kin", "moves", "counts", "left", "costs", "male", "found", "count", "moved"] ["males_kin", "moves", "counts", "left", "costs"] (defScope sleast_from) := ⟨rfl, rfl, rfl, by decide +kernel, rfl, by decide +kernel, by decide +kernel⟩
theorem LRows.lst {H : Hp} {p : Addr} {rows : List (List Int)} (h : LRows H p rows) : ∃ qs : List Addr, H p = some (.lst (qs.map V.ref)) ∧ qs.length = rows.length ∧ Paired (fun row q => H q = some (.lst (row.map V.int))) rows qs := by
  refine hid fun ng => ?_
  obtain ⟨qs, h1, h2⟩ := h
  refine ng ?_
  clear ng
  exact ⟨qs, h1, (Paired.length h2).symm, h2⟩
theorem ok_lf {t : Adr} (T : Top K mg t) : ∀ j, Ok P w K mg base (j + 4) t.fleast_from ["males_kin", "moves", "counts", "left", "costs"] (spLF j)
  | 0 => by
    refine hid fun ng => ?_
    obtain ⟨fd, F, bd⟩ := T.fnleast_from
    refine ng ?_
    clear ng
    refine ⟨fd, bd, ?_⟩
    refine hid fun ng => ?_
    obtain ⟨fdL, bL, GL⟩ := ok_lw (P := P) (w := w) (base := base) T
    refine ng ?_
    clear ng
    refine F.ok scLF (fun vs H Q E h => ?_) (fun cdv A outer s H vs Q E hr h => ?_)
    · refine hid fun ng => ?_
      obtain ⟨mk, mv, cs, co, MK, MV, counts, left, costs, rfl, _⟩ := h
      refine ng ?_
      clear ng
      rfl
    · refine hid fun ng => ?_
      obtain ⟨mk, mv, cs, co, MK, MV, counts, left, costs, rfl, I, k⟩ := h
      refine ng ?_
      clear ng
      refine ⟨_, pss_cons (ps_set (i := 5) scLF.nd rfl (Or.inl rfl) (pe_callB call_len_seq (by rfl) T.blen PySem.boot_len (pa_cons (pv 2) pa_nil)))
        (pss_cons (ps_if (pt_cmpR op_eq (pv 5) (pe_callB call_len_seq (by rfl) T.blen PySem.boot_len (pa_cons (pv 1) pa_nil)) (nomark _)) (pss_one (ps_ret (pe_call GL hr (by rfl) T.mgleast_of_ways T.kpleast_of_ways bL .nil pass0 (pa_cons (pv 0) (pa_cons (pe_op (op_catT.or op_cat0) (pv 2) (pe_tup (pa_cons (pv 3) pa_nil))) (pa_cons (pv 4) pa_nil)))))) pss_nil)
        pss_never), ?_⟩
      refine hid fun ng => ?_
      obtain ⟨ms, hm1, hm2, hm3⟩ := LRows.lst I.mv
      refine ng ?_
      clear ng
      have hlen := I.len
      have h3 := I.three
      refine ⟨_, rfl, cs, _, rfl, .inr (SqT.of I.cs), _, rfl, _, rfl, mv, _, rfl, .inl (SqL.of hm1), rfl, _, rfl, ?_⟩
      refine iteTb (show decide (V.int (((nats counts).length : Nat) : Int) = V.int (((ms.map V.ref).length : Nat) : Int)) = true from decide_eq_true (by rw [nats_len, List.length_map, hm2, hlen]; rfl)) ?_
      refine ⟨_, rfl, _, rfl, _, rfl, by show 1 ≤ sizeLine; decide, fun p1 hp1 => catX (K := K) (Same.upd hp1 _ _ I.cs) upd_same (by simp) (by rw [nats_len]; show _ + 1 ≤ 1000; omega) fun p2 H2 s2 hp2 => ?_⟩
      have s12 := (Same.upd hp1).trans s2
      have ecs : nats counts ++ [V.int (left : Nat)] = nats (counts ++ [left]) := nats_append counts [left]
      rw [ecs] at hp2
      refine ⟨_, rfl, mk, p2, co, MK, counts ++ [left], costs, rfl, I.km.same s12, hp2, ?_, fun r hr => ?_, ?_, fun x hx => ?_, s12 _ _ I.co, I.pos, fun p H3 v z s3 hv hmin hp => ?_⟩
      · rw [List.length_append, I.sq, hlen]; rfl
      · rw [List.length_append, I.sqr r hr, hlen]; rfl
      · rw [List.length_append]; show _ + 1 ≤ 1000; omega
      · rcases List.mem_append.mp hx with q | q
        · exact I.c8 x q
        · rw [List.mem_singleton.mp q]; exact I.l8
      · have hd : MV.drop counts.length = [] := List.drop_of_length_le (by omega)
        have et : ∀ v : Nat, tot MK [] counts costs [left] v = costs.getD v 0 + kaI MK (counts ++ [left]) := fun _ => rfl
        refine k p p2 H3 [left] v _ (s12.trans s3) hp (s3 _ _ hp2) ?_ ?_
        · rw [hd, et, List.getD_eq_getElem?_getD, hv]
          rfl
        · rw [hd, Hw.pairs_one]
          have hvl : v < costs.length := (List.getElem?_eq_some_iff.mp hv).1
          refine Hw.FL.map (g := fun v => ([left], v)) (Hw.FL.at_ (i := v) (List.getElem?_range hvl) fun i y hy => ?_)
          have hi : i < costs.length := by
            have := (List.getElem?_eq_some_iff.mp hy).1
            rw [List.length_range] at this
            exact this
          rw [List.getElem?_range hi] at hy
          have hy' : i = y := Option.some.inj hy
          subst hy'
          obtain ⟨m1, m2⟩ := hmin i _ (List.getElem?_eq_getElem hi)
          show tot MK [] counts costs [left] v ≤ tot MK [] counts costs [left] i ∧ (i < v → tot MK [] counts costs [left] v < tot MK [] counts costs [left] i)
          rw [et, et, List.getD_eq_getElem?_getD, hv, List.getD_eq_getElem?_getD, List.getElem?_eq_getElem hi]
          show z + _ ≤ costs[i] + _ ∧ (i < v → z + _ < costs[i] + _)
          exact ⟨by omega, fun q => by have := m2 q; omega⟩
  | j + 1 => by
    refine hid fun ng => ?_
    obtain ⟨fd, F, bd⟩ := T.fnleast_from
    refine ng ?_
    clear ng
    refine ⟨fd, bd, ?_⟩
    refine hid fun ng => ?_
    obtain ⟨fdL, bL, GL⟩ := ok_lf T j
    obtain ⟨fdV, bV, GV⟩ := (ok_av (P := P) (w := w) (base := base) T).lift (show 1 ≤ j + 4 by omega)
    obtain ⟨fdK, bK, GK⟩ := ok_ak (P := P) (w := w) (base := base) T
    refine ng ?_
    clear ng
    refine F.ok scLF (fun vs H Q E h => ?_) (fun cdv A outer s H vs Q E hr h => ?_)
    · refine hid fun ng => ?_
      obtain ⟨mk, mv, cs, co, MK, MV, counts, left, costs, rfl, _⟩ := h
      refine ng ?_
      clear ng
      rfl
    · refine hid fun ng => ?_
      obtain ⟨mk, mv, cs, co, MK, MV, counts, left, costs, rfl, I, k⟩ := h
      refine ng ?_
      clear ng
      refine ⟨_, pss_cons (ps_set (i := 5) scLF.nd rfl (Or.inl rfl) (pe_callB call_len_seq (by rfl) T.blen PySem.boot_len (pa_cons (pv 2) pa_nil)))
        (pss_cons (ps_if (pt_cmpR op_eq (pv 5) (pe_callB call_len_seq (by rfl) T.blen PySem.boot_len (pa_cons (pv 1) pa_nil)) (nomark _)) pss_never pss_nil)
        (pss_cons (ps_set (i := 6) scLF.nd rfl (Or.inl rfl) (pe_lst pa_nil))
        (pss_cons (ps_for PassesOwn.never rfl (pi_range3 (by rfl) T.brange (pa_cons (pv 3) (pa_cons (pe_un un_neg pe_int) (pa_cons (pe_un un_neg pe_int) pa_nil)))) (pg_name (i := 7) scLF.nd rfl (Or.inl rfl))
          (pss_cons (ps_set (i := 8) scLF.nd rfl (Or.inl rfl) (pe_call GV hr (by rfl) T.mgwith_added T.kpwith_added bV .nil pass0 (pa_cons (pv 4) (pa_cons (pv 7) (pa_cons (pe_ix ix_list (pv 1) (pv 5) (fun _ _ => rfl)) pa_nil)))))
          (pss_one (ps_expr (pe_bm PySem.F.plainAttrs_list PySem.F.slot_list_append PySem.F.type_list_append mt_append (pv 6) (pa_cons (pe_call GL hr (by rfl) T.mgleast_from T.kpleast_from bL .nil pass0
            (pa_cons (pv 0) (pa_cons (pv 1) (pa_cons (pe_op (op_catT.or op_cat0) (pv 2) (pe_tup (pa_cons (pv 7) pa_nil))) (pa_cons (pe_op op_sub (pv 3) (pv 7)) (pa_cons (pv 8) pa_nil)))))) pa_nil))))))
        (pss_one (ps_ret (pe_minKey GK (hr.mono (show 2 ≤ j + 4 by omega)) bK rfl (by rfl) T.bmin (by rfl) T.mgakin_in (pv 6))))))), ?_⟩
      refine hid fun ng => ?_
      obtain ⟨ms, hm1, hm2, hm3⟩ := LRows.lst I.mv
      refine ng ?_
      clear ng
      have hlen := I.len
      have h3 := I.three
      have l8 := I.l8
      have hcl : counts.length < MV.length := by omega
      have hrow : MV[counts.length]? = some MV[counts.length] := List.getElem?_eq_getElem hcl
      have hdrop : MV.drop counts.length = MV[counts.length] :: MV.drop (counts.length + 1) := List.drop_eq_getElem_cons hcl
      have hwid := I.wid _ (List.mem_of_getElem? hrow)
      generalize hR : MV[counts.length] = mrow at hrow hdrop hwid
      rw [hdrop] at k
      refine ⟨_, rfl, cs, _, rfl, .inr (SqT.of I.cs), _, rfl, _, rfl, mv, _, rfl, .inl (SqL.of hm1), rfl, _, rfl, ?_⟩
      refine iteFb (show decide (V.int (((nats counts).length : Nat) : Int) = V.int (((ms.map V.ref).length : Nat) : Int)) = false from decide_eq_false (by
        intro z
        injection z with z
        rw [nats_len, List.length_map, hm2, hlen] at z
        omega)) ?_
      refine ⟨Nat.zero_le _, fun f0 hf0 => ?_⟩
      refine ⟨_, rfl, _, rfl, _, rfl, _, _, _, _, rfl, RgC.neg (by omega) (by omega) (by decide) (by decide), ?_⟩
      rw [show (((left : Nat) : Int) - -1).toNat = left + 1 by omega]
      refine for_rangeC (fun i σ H2 => (∃ v7 v8, σ = [some (.ref mk), some (.ref mv), some (.ref cs), some (.int (left : Nat)), some (.ref co), some (.int (((nats counts).length : Nat) : Int)), some (.ref f0), v7, v8]) ∧ Same H H2 ∧
          ∃ ps : List Addr, H2 f0 = some (.lst (ps.map V.ref)) ∧ ps.length = i ∧ ∀ (m : Nat) p, ps[m]? = some p → ∃ (c' : Addr) (rv : List Nat × Nat), H2 p = some (.tup [.int (tot MK (MV.drop (counts.length + 1)) (counts ++ [left - m]) (addV costs (left - m : Nat) mrow) rv.1 rv.2), .ref c', .int (rv.2 : Nat)]) ∧
            H2 c' = some (.tup (nats (counts ++ (left - m) :: rv.1))) ∧ Hw.FL (fun x => tot MK (MV.drop (counts.length + 1)) (counts ++ [left - m]) (addV costs (left - m : Nat) mrow) x.1 x.2) (Hw.pairs (j + 1) (left - (left - m)) costs.length) rv)
        ⟨⟨none, none, rfl⟩, Same.upd hf0, [], upd_same, rfl, fun m p e => absurd e (by rw [List.getElem?_nil]; simp)⟩ (fun i σ H2 hi hI => ?_) (fun σ H2 hI => ?_)
      · refine hid fun ng => ?_
        obtain ⟨⟨v7, v8, rfl⟩, s2, ps, hf, hpl, hps⟩ := hI
        refine ng ?_
        clear ng
        have ef : ((left : Nat) : Int) + ((i : Nat) : Int) * (-1) = ((left - i : Nat) : Int) := by omega
        rw [ef]
        refine hid fun ng => ?_
        obtain ⟨q, eq1, eq2⟩ := Paired.get hm3 hrow
        refine ng ?_
        clear ng
        have ecl : (((nats counts).length : Nat) : Int) = ((counts.length : Nat) : Int) := by rw [nats_len]
        refine ⟨_, rfl, _, rfl, _, rfl, _, rfl, mv, _, _, _, rfl, rfl, SqL.of (s2 _ _ hm1), at_of (v := V.ref q) (j := counts.length) ecl (by rw [List.getElem?_map, eq1]; rfl), co, q, costs, mrow, _, rfl, s2 _ _ I.co, s2 _ _ eq2, hwid.symm, I.few, by omega, by omega, fun p3 H3 s3 hp3 hp3' => ?_⟩
        have s23 := s2.trans s3
        refine ⟨_, rfl, .inl ⟨rfl, _, SqL.of (s3 _ _ hf)⟩, _, rfl, _, rfl, _, rfl, _, rfl, by show 1 ≤ sizeLine; decide, fun p1 hp1 => catX (K := K) (Same.upd hp1 _ _ (s23 _ _ I.cs)) upd_same (by simp) (by rw [nats_len]; show _ + 1 ≤ 1000; omega) fun p2 H4 s4 hp2 => ?_⟩
        have s34 := (Same.upd hp1).trans s4
        have s24 := s23.trans s34
        have ecs : nats counts ++ [V.int ((left - i : Nat) : Int)] = nats (counts ++ [left - i]) := nats_append counts [left - i]
        rw [ecs] at hp2
        have es : ((left : Nat) : Int) - ((left - i : Nat) : Int) = ((left - (left - i) : Nat) : Int) := by omega
        refine ⟨_, rfl, _, rfl, _, _, rfl, rfl, _, rfl, mk, mv, p2, p3, MK, MV, counts ++ [left - i], left - (left - i), addV costs (left - i : Nat) mrow, by show [V.ref mk, V.ref mv, V.ref p2, V.int (((left : Nat) : Int) - ((left - i : Nat) : Int)), V.ref p3] = _; rw [es],
          ⟨I.km.same s24, I.mv.same s24, hp2, s34 _ _ hp3', by rw [addV_len _ hwid.symm]; exact I.pos, by rw [addV_len _ hwid.symm]; exact I.few, fun r hr => by rw [addV_len _ hwid.symm]; exact I.wid r hr, by rw [List.length_append]; show _ = _ + 1 + _; omega, h3, I.sq, I.sqr, by omega, fun x hx => ?_⟩, fun p c' H5 r v z s5 hp hc hz hfl => ?_⟩
        · rcases List.mem_append.mp hx with q | q
          · exact I.c8 x q
          · rw [List.mem_singleton.mp q]; omega
        · have s35 := s34.trans s5
          have s25 := s24.trans s5
          have ecl2 : (counts ++ [left - i]).length = counts.length + 1 := by rw [List.length_append]; rfl
          rw [ecl2] at hz hfl
          rw [addV_len _ hwid.symm] at hfl
          have nf : ∀ b xs, H5 b = some (.tup xs) → b ≠ f0 := fun b xs e => ne_of e (s35 _ _ (s3 _ _ hf)) (by intro z; cases z)
          refine ⟨f0, _, _, rfl, rfl, s35 _ _ (s3 _ _ hf), by rw [List.length_map, hpl]; exact small1000 (by omega), ⟨⟨_, _, rfl⟩, s25.upd' hf0, ps ++ [p], by rw [upd_same, List.map_append]; rfl, by rw [List.length_append, hpl]; rfl, fun m p' e => ?_⟩⟩
          by_cases hm : m < i
          · rw [List.getElem?_append_left (by rw [hpl]; exact hm)] at e
            refine hid fun ng => ?_
            obtain ⟨c2, rv, a1, a2, a3⟩ := hps m p' e
            refine ng ?_
            clear ng
            have b1 := s35 _ _ (s3 _ _ a1)
            have b2 := s35 _ _ (s3 _ _ a2)
            exact ⟨c2, rv, by rw [upd_ne (nf _ _ b1)]; exact b1, by rw [upd_ne (nf _ _ b2)]; exact b2, a3⟩
          · have em : m = i := by
              have := (List.getElem?_eq_some_iff.mp e).1
              rw [List.length_append, hpl] at this
              have : m < i + 1 := this
              omega
            subst em
            rw [List.getElem?_append_right (by rw [hpl]; exact Nat.le_refl _), hpl, Nat.sub_self] at e
            have e' : p = p' := Option.some.inj e
            subst e'
            refine ⟨c', (r, v), by rw [upd_ne (nf _ _ hp), hp, hz], ?_, hfl⟩
            rw [upd_ne (nf _ _ hc), hc, List.append_assoc]
            rfl
      · refine hid fun ng => ?_
        obtain ⟨⟨v7, v8, rfl⟩, s2, ps, hf, hpl, hps⟩ := hI
        refine ng ?_
        clear ng
        have ex : ∀ m : Nat, ∃ rv : List Nat × Nat, m < left + 1 → ∃ (p c' : Addr), ps[m]? = some p ∧ H2 p = some (.tup [.int (tot MK (MV.drop (counts.length + 1)) (counts ++ [left - m]) (addV costs (left - m : Nat) mrow) rv.1 rv.2), .ref c', .int (rv.2 : Nat)]) ∧
            H2 c' = some (.tup (nats (counts ++ (left - m) :: rv.1))) ∧ Hw.FL (fun x => tot MK (MV.drop (counts.length + 1)) (counts ++ [left - m]) (addV costs (left - m : Nat) mrow) x.1 x.2) (Hw.pairs (j + 1) (left - (left - m)) costs.length) rv := fun m => by
          by_cases hm : m < left + 1
          · have e : ps[m]? = some ps[m] := List.getElem?_eq_getElem (by omega)
            refine hid fun ng => ?_
            obtain ⟨c', rv, a1, a2, a3⟩ := hps m _ e
            refine ng ?_
            clear ng
            exact ⟨rv, fun _ => ⟨_, c', e, a1, a2, a3⟩⟩
          · exact ⟨([], 0), fun q => absurd q hm⟩
        obtain ⟨g, hg⟩ := Classical.axiomOfChoice ex
        have key : ∀ (i : Nat) p, ps[i]? = some p → i < left + 1 ∧ ∃ c', H2 p = some (.tup [.int (tot MK (MV.drop (counts.length + 1)) (counts ++ [left - i]) (addV costs (left - i : Nat) mrow) (g i).1 (g i).2), .ref c', .int ((g i).2 : Nat)]) ∧
            H2 c' = some (.tup (nats (counts ++ (left - i) :: (g i).1))) := fun i p e => by
          have hi : i < left + 1 := by
            have := (List.getElem?_eq_some_iff.mp e).1
            omega
          refine hid fun ng => ?_
          obtain ⟨p', c', e', a1, a2, _⟩ := hg i hi
          refine ng ?_
          clear ng
          rw [e] at e'
          have : p = p' := Option.some.inj e'
          subst this
          exact ⟨hi, c', a1, a2⟩
        refine ⟨_, rfl, f0, _, (fun i => tot MK (MV.drop (counts.length + 1)) (counts ++ [left - i]) (addV costs (left - i : Nat) mrow) (g i).1 (g i).2), rfl, SqL.of hf, by rw [List.length_map, hpl]; exact Nat.succ_pos _, fun i y hy R hR => ?_, fun i y hy hmin => ?_⟩
        · refine hid fun ng => ?_
          obtain ⟨p, ep, rfl⟩ := refs_get hy
          obtain ⟨hi, c', a1, a2⟩ := key i p ep
          refine ng ?_
          clear ng
          exact ⟨p, _, _, rfl, a1, hR⟩
        · refine hid fun ng => ?_
          obtain ⟨p, ep, rfl⟩ := refs_get hy
          obtain ⟨hi, c', a1, a2⟩ := key i p ep
          refine ng ?_
          clear ng
          have hll : (ps.map V.ref).length = left + 1 := by rw [List.length_map, hpl]
          refine k p c' H2 ((left - i) :: (g i).1) (g i).2 _ s2 a1 a2 rfl ?_
          rw [Hw.pairs_succ]
          have efl := Hw.FL.flat (f := fun x : List Nat × Nat => tot MK (mrow :: MV.drop (counts.length + 1)) counts costs x.1 x.2) (g := fun x => (Hw.pairs (j + 1) (left - x) costs.length).map fun p => (x :: p.1, p.2))
            (best := fun x => (x :: (g (left - x)).1, (g (left - x)).2)) (L := (List.range (left + 1)).reverse) (b := left - i) (Hw.FL.at_ (i := i) (rev_get hi) fun m y hy => ?_) (fun a ha => ?_)
          · have e : left - (left - i) = i := by omega
            rw [e] at efl
            exact efl
          · have hm : m < left + 1 := by
              have := (List.getElem?_eq_some_iff.mp hy).1
              rw [List.length_reverse, List.length_range] at this
              exact this
            rw [rev_get hm] at hy
            have hy' : left - m = y := Option.some.inj hy
            subst hy'
            have e1 : left - (left - i) = i := by omega
            have e2 : left - (left - m) = m := by omega
            rw [e1, e2]
            exact hmin m (by rw [hll]; exact hm)
          · have ha' : a < left + 1 := List.mem_range.mp (List.mem_reverse.mp ha)
            refine hid fun ng => ?_
            obtain ⟨_, _, _, _, _, a3⟩ := hg (left - a) (by omega)
            refine ng ?_
            clear ng
            have e2 : left - (left - a) = a := by omega
            rw [e2] at a3
            exact Hw.FL.map (g := fun p : List Nat × Nat => (a :: p.1, p.2)) a3
end
end Hp
end
section
set_option Elab.async false
set_option linter.all false
set_option maxRecDepth 100000
namespace Hp
open PySem L2
theorem putF_ne {f g : Str} {v w : V} {r : List (Str × V)} (h : ¬ g = f) : putF f v ((g, w) :: r) = (g, w) :: putF f v r := by
  show (if g = f then _ else _) = _
  rw [if_neg h]
theorem putF_eq {f : Str} {v w : V} {r : List (Str × V)} : putF f v ((f, w) :: r) = (f, v) :: r := by
  show (if f = f then _ else _) = _
  rw [if_pos rfl]
theorem lk_eq {f : Str} {v : V} {r : List (Str × V)} : ((f, v) :: r).lookup f = some v := by
  have hb : (f == f) = true := beq_iff_eq.mpr rfl
  simp only [List.lookup, hb]
theorem lk_ne {f g : Str} {v : V} {r : List (Str × V)} (h : ¬ g = f) : ((f, v) :: r).lookup g = r.lookup g := by
  have hb : (g == f) = false := beq_eq_false_iff_ne.mpr h
  simp only [List.lookup, hb]
noncomputable def shL (a m f : V) : List (Str × V) := [("akin", a), ("of_males", m), ("of_females", f)]
theorem sh_put (a m f : V) : putF "of_females" f (putF "of_males" m (putF "akin" a [])) = shL a m f := by
  show putF "of_females" f (putF "of_males" m [("akin", a)]) = _
  rw [putF_ne (by decide +kernel)]
  show putF "of_females" f [("akin", a), ("of_males", m)] = _
  rw [putF_ne (by decide +kernel), putF_ne (by decide +kernel)]
  rfl
theorem sh_akin (a m f : V) : (shL a m f).lookup ("akin" : Str) = some a := lk_eq
theorem sh_males (a m f : V) : (shL a m f).lookup ("of_males" : Str) = some m := by
  unfold shL
  rw [lk_ne (by decide +kernel), lk_eq]
theorem sh_females (a m f : V) : (shL a m f).lookup ("of_females" : Str) = some f := by
  unfold shL
  rw [lk_ne (by decide +kernel), lk_ne (by decide +kernel), lk_eq]
noncomputable def spSh (C : Addr) : Sp := fun vs H Q _ => ∃ (p dx : Addr) (a m f : V), vs = [.ref p, a, m, f] ∧ H p = some (.ins C dx []) ∧
  ∀ H' : Hp, H' p = some (.ins C dx (shL a m f)) → (∀ b o, H b = some o → b ≠ p → H' b = some o) → Q .non H'
noncomputable def pullsI (AC : List (List Int)) (ways : List (List Nat)) : List (List Int) := AC.map fun row => pullI row ways
noncomputable def lastI (AC : List (List Int)) (ways : List (List Nat)) : List Int := (pullsI AC ways).getLastD []
noncomputable def costsI (FK AC : List (List Int)) (ways : List (List Nat)) (y : Nat) : List Int := addV (ways.map (kaI FK)) (y : Nat) (lastI AC ways)
noncomputable def movesI (AC : List (List Int)) (ways : List (List Nat)) : List (List Int) := (pullsI AC ways).dropLast.map fun p => addV p (-1) (lastI AC ways)
noncomputable def waysN (f y : Nat) : List (List Nat) := Km255.rows (List.replicate f y) y
structure LSin (H : Hp) (mk fk ac : Addr) (MK FK AC : List (List Int)) (y : Nat) : Prop where
  km : LRows H mk MK
  kf : LRows H fk FK
  ka : LRows H ac AC
  m1 : 1 ≤ MK.length
  m4 : MK.length ≤ 4
  f1 : 1 ≤ FK.length
  f4 : FK.length ≤ 4
  mr : ∀ r ∈ MK, r.length = MK.length
  fr : ∀ r ∈ FK, r.length = FK.length
  al : AC.length = MK.length
  ar : ∀ r ∈ AC, r.length = FK.length
  y8 : y ≤ 8
noncomputable def spLS (C : Addr) : Sp := fun vs H Q _ => ∃ (mk fk ac : Addr) (MK FK AC : List (List Int)) (y : Nat), vs = [.ref mk, .ref fk, .ref ac, .int (y : Nat)] ∧ LSin H mk fk ac MK FK AC y ∧
  ∀ p dx cm cf H' (r fw : List Nat) (v : Nat) (z : Int), Same H H' → H' p = some (.ins C dx (shL (.int z) (.ref cm) (.ref cf))) → H' cm = some (.tup (nats r)) → H' cf = some (.tup (nats fw)) → (waysN FK.length y)[v]? = some fw →
    z = tot MK (movesI AC (waysN FK.length y)) [] (costsI FK AC (waysN FK.length y) y) r v →
    Hw.FL (fun x => tot MK (movesI AC (waysN FK.length y)) [] (costsI FK AC (waysN FK.length y) y) x.1 x.2) (Hw.pairs MK.length y (waysN FK.length y).length) (r, v) → Q (.ref p) H'
section
variable {P : Program} {w : World} {K : PySem.W.Frag} {mg : Str → Option Value} {base : Heap}
theorem scSh : FnScope ["self", "akin", "of_males", "of_females"] ["self", "akin", "of_males", "of_females"] (defScope sShare_init) := ⟨rfl, rfl, rfl, by decide +kernel, rfl, by decide +kernel, by decide +kernel⟩
theorem ok_sh {t : Adr} (T : Top K mg t) : Ok P w K mg base 1 t.fShare_init ["self", "akin", "of_males", "of_females"] (spSh t.cShare) := by
  refine hid fun ng => ?_
  obtain ⟨fd, F, bd⟩ := T.fnShare_init
  refine ng ?_
  clear ng
  refine ⟨fd, bd, ?_⟩
  refine F.ok scSh (fun vs H Q E h => ?_) (fun cdv A outer s H vs Q E hr h => ?_)
  · refine hid fun ng => ?_
    obtain ⟨p, dx, a, m, f, rfl, _⟩ := h
    refine ng ?_
    clear ng
    rfl
  · refine hid fun ng => ?_
    obtain ⟨p, dx, a, m, f, rfl, hp, k⟩ := h
    refine ng ?_
    clear ng
    refine ⟨_, pss_cons (ps_fld (pv 0) (pv 1) rfl) (pss_cons (ps_fld (pv 0) (pv 2) rfl) (pss_one (ps_fld (pv 0) (pv 3) rfl))), ?_⟩
    refine ⟨_, rfl, _, rfl, p, _, dx, [], rfl, hp, T.clShare, T.noShare_akin, (by show 0 < 1000; decide), ?_⟩
    refine ⟨_, rfl, _, rfl, p, _, dx, _, rfl, upd_same, T.clShare, T.noShare_of_males, (by show 1 < 1000; decide), ?_⟩
    refine ⟨_, rfl, _, rfl, p, _, dx, _, rfl, upd_same, T.clShare, T.noShare_of_females, Nat.lt_of_le_of_lt (length_putF _ _ _) (by show 2 < 1000; decide), ?_⟩
    refine k _ (Eq.trans upd_same (congrArg (fun q => some (HO.ins _ dx q)) (sh_put _ _ _))) fun b o e hb => ?_
    rw [upd_ne hb, upd_ne hb, upd_ne hb]
    exact e
theorem cut_init (xs : List V) : cutV xs none (some (-1)) = xs.dropLast := by
  unfold cutV
  rw [HT.sIx_none, List.drop_zero, Nat.sub_zero]
  have e : HT.sIx xs.length xs.length (some (-1)) = xs.length - 1 := by
    show (if (-1 : Int) < 0 then ((-1 : Int) + (xs.length : Int)).toNat else min (-1 : Int).toNat xs.length) = _
    rw [if_pos (by decide)]
    omega
  rw [e, List.dropLast_eq_take]
theorem waysN_few {f y : Nat} (hf : f ≤ 4) (hy : y ≤ 8) : (waysN f y).length ≤ 6561 := by
  have h := Hw.rows55_few (List.replicate f y) y (fun z hz => by rw [(List.mem_replicate.mp hz).2]; exact hy)
  rw [List.length_replicate] at h
  exact Nat.le_trans h (Nat.le_trans (Nat.pow_le_pow_right (by decide) hf) (by decide))
theorem waysN_mem {f y : Nat} {u : List Nat} (h : u ∈ waysN f y) : u.length = f ∧ u.sum = y ∧ ∀ x ∈ u, x ≤ y := by
  refine hid fun ng => ?_
  obtain ⟨h1, h2, h3⟩ := (Hw.rows55_mem _ _ _).mp h
  refine ng ?_
  clear ng
  rw [List.length_replicate] at h1
  refine ⟨h1, h2, fun x hx => ?_⟩
  obtain ⟨j, hj⟩ := List.mem_iff_getElem?.mp hx
  have hjf : j < f := by rw [← h1]; exact (List.getElem?_eq_some_iff.mp hj).1
  have e := h3 j
  rw [List.getD_eq_getElem?_getD, hj, List.getD_eq_getElem?_getD, List.getElem?_replicate, if_pos hjf] at e
  exact e
theorem waysN_pos {f y : Nat} (hf : 1 ≤ f) : 0 < (waysN f y).length := by
  refine List.length_pos_iff.mpr (Hw.rows55_ne _ _ ?_)
  obtain ⟨g, rfl⟩ : ∃ g, f = g + 1 := ⟨f - 1, by omega⟩
  rw [List.replicate_succ, List.sum_cons]
  omega
theorem paired_of {α β : Type} {F : α → β → Prop} : ∀ (l : List α) (m : List β), l.length = m.length → (∀ (i : Nat) x, l[i]? = some x → ∃ y, m[i]? = some y ∧ F x y) → Paired F l m
  | [], [], _, _ => .nil
  | x :: l, y :: m, h, f => by
    refine hid fun ng => ?_
    obtain ⟨z, e, hz⟩ := f 0 x rfl
    refine ng ?_
    clear ng
    have : y = z := Option.some.inj e
    subst this
    exact .cons hz (paired_of l m (by simpa using h) fun i x e => f (i + 1) x e)
  | [], _ :: _, h, _ => by simp at h
  | _ :: _, [], h, _ => by simp at h
noncomputable def RowR (D : Addr) (rows : List (List Int)) (i : Nat) (y : V) (H : Hp) : Prop := ∃ q, y = V.ref q ∧ q ≠ D ∧ H q = some (.lst ((rows.getD i []).map V.int))
theorem RowR.st (D : Addr) (rows : List (List Int)) : ∀ i y H H', But D H H' → RowR D rows i y H → RowR D rows i y H' := fun i y H H' b h => by
  refine hid fun ng => ?_
  obtain ⟨q, e, n, hq⟩ := h
  refine ng ?_
  clear ng
  exact ⟨q, e, n, b _ _ n hq⟩
theorem lrows_of {H : Hp} {D : Addr} {rows : List (List Int)} {acc : List V} {n : Nat} (hn : rows.length = n) (hacc : H D = some (.lst acc)) (h : Paired (fun i y => RowR D rows i y H) ((List.range n).filter fun _ => true) acc) : LRows H D rows := by
  rw [filter_true] at h
  refine hid fun ng => ?_
  obtain ⟨qs, rfl, hq⟩ := refs_of (n := n) (O := fun i => .lst ((rows.getD i []).map V.int)) h
  refine ng ?_
  clear ng
  have hl : n = qs.length := by
    have e := Paired.length hq
    rw [List.length_range] at e
    exact e
  refine ⟨qs, hacc, paired_of rows qs (by omega) fun i r hr => ?_⟩
  have hi : i < n := by
    have := (List.getElem?_eq_some_iff.mp hr).1
    omega
  refine hid fun ng => ?_
  obtain ⟨q, e1, _, e2⟩ := Paired.get hq (List.getElem?_range hi)
  refine ng ?_
  clear ng
  rw [List.getD_eq_getElem?_getD, hr] at e2
  exact ⟨q, e1, e2⟩
theorem rep_nats (f y : Nat) : (List.replicate f [V.int (y : Nat)]).flatten = nats (List.replicate f y) := by
  rw [rep_one]
  unfold nats
  rw [List.map_replicate]
theorem scLS : FnScope ["males_kin", "females_kin", "across", "young", "females_ways", "pulls", "costs", "moves", "least", "row", "way", "pull"] ["males_kin", "females_kin", "across", "young"] (defScope sleast_share) := ⟨rfl, rfl, rfl, by decide +kernel, rfl, by decide +kernel, by decide +kernel⟩
theorem ok_ls {t : Adr} (T : Top K mg t) : Ok P w K mg base 9 t.fleast_share ["males_kin", "females_kin", "across", "young"] (spLS t.cShare) := by
  refine hid fun ng => ?_
  obtain ⟨fd, F, bd⟩ := T.fnleast_share
  refine ng ?_
  clear ng
  refine ⟨fd, bd, ?_⟩
  refine hid fun ng => ?_
  obtain ⟨fdP, bP, GP⟩ := (ok_pu (P := P) (w := w) (base := base) T).lift (show 2 ≤ 8 by decide)
  obtain ⟨fdA, bA, GA⟩ := (ok_am (P := P) (w := w) (base := base) T).lift (show 2 ≤ 8 by decide)
  obtain ⟨fdV, bV, GV⟩ := (ok_av (P := P) (w := w) (base := base) T).lift (show 1 ≤ 8 by decide)
  obtain ⟨fdS, bS, GS⟩ := (ok_sh (P := P) (w := w) (base := base) T).lift (show 1 ≤ 7 by decide)
  refine ng ?_
  clear ng
  refine F.ok scLS (fun vs H Q E h => ?_) (fun cdv A outer s H vs Q E hr h => ?_)
  · refine hid fun ng => ?_
    obtain ⟨mk, fk, ac, MK, FK, AC, y, rfl, _⟩ := h
    refine ng ?_
    clear ng
    rfl
  · refine hid fun ng => ?_
    obtain ⟨mk, fk, ac, MK, FK, AC, y, rfl, I, k⟩ := h
    obtain ⟨km, kf, ka, m1, m4, f1, f4, mr, fr, al, ar, y8⟩ := I
    obtain ⟨fdW, bW, GW⟩ := (ok_ways (P := P) (w := w) (base := base) T (FK.length - 1)).lift (show FK.length - 1 + 1 ≤ 8 by omega)
    obtain ⟨fdL, bL, GL⟩ := (ok_lf (P := P) (w := w) (base := base) T (MK.length - 1)).lift (show MK.length - 1 + 4 ≤ 8 by omega)
    refine ng ?_
    clear ng
    refine ⟨_, pss_cons (ps_set (i := 4) scLS.nd rfl (Or.inr rfl) (pe_call GW hr (by rfl) T.mgways_to_share T.kpways_to_share bW .nil pass0 (pa_cons (pv 3) (pa_cons (pe_op op_rep (pe_lst (pa_cons (pv 3) pa_nil)) (pe_callB call_len_seq (by rfl) T.blen PySem.boot_len (pa_cons (pv 1) pa_nil))) pa_nil))))
      (pss_cons (ps_set (i := 5) scLS.nd rfl (Or.inr rfl) (pe_lc (own := [("row", 9)]) rfl scLS.nd (pi_list (pv 2)) (blkOk_by (N := ["males_kin", "females_kin", "across", "young", "females_ways", "pulls", "costs", "moves", "least", "row", "way", "pull"]) (sc := defScope sleast_share) (by decide +kernel))
        (fun _ _ _ _ _ => pg_name (i := 9) scLS.nd rfl (Or.inl rfl)) (fun _ _ _ _ _ => pts_nil)
        (fun _ _ _ _ _ => pe_call GP hr (by rfl) T.mgpull_of_male T.kppull_of_male bP .nil pass0 (pa_cons (pv 9) (pa_cons (pv 4) pa_nil)))))
      (pss_cons (ps_setLc (i := 6) (own := [("way", 10)]) rfl scLS.nd rfl rfl (sw_true rfl rfl rfl (by decide +kernel)) (pi_list (pv 4)) (blkOk_by (N := ["males_kin", "females_kin", "across", "young", "females_ways", "pulls", "costs", "moves", "least", "row", "way", "pull"]) (sc := defScope sleast_share) (by decide +kernel))
        (fun _ _ _ _ _ => pg_name (i := 10) scLS.nd rfl (Or.inl rfl)) (fun _ _ _ _ _ => pts_nil)
        (fun _ _ _ _ _ => pe_call GA hr (by rfl) T.mgkin_among T.kpkin_among bA .nil pass0 (pa_cons (pv 1) (pa_cons (pv 10) pa_nil))))
      (pss_cons (ps_set (i := 6) scLS.nd rfl (Or.inl rfl) (pe_call GV hr (by rfl) T.mgwith_added T.kpwith_added bV .nil pass0 (pa_cons (pv 6) (pa_cons (pv 3) (pa_cons (pe_ix ix_list (pv 5) (pe_un un_neg pe_int) (fun _ _ => rfl)) pa_nil)))))
      (pss_cons (ps_setLc (i := 7) (own := [("pull", 11)]) rfl scLS.nd rfl rfl (sw_true rfl rfl rfl (by decide +kernel)) (pi_list (pe_slice sl_list (pv 5) po_none (po_some (pe_un un_neg pe_int)))) (blkOk_by (N := ["males_kin", "females_kin", "across", "young", "females_ways", "pulls", "costs", "moves", "least", "row", "way", "pull"]) (sc := defScope sleast_share) (by decide +kernel))
        (fun _ _ _ _ _ => pg_name (i := 11) scLS.nd rfl (Or.inl rfl)) (fun _ _ _ _ _ => pts_nil)
        (fun _ _ _ _ _ => pe_call GV hr (by rfl) T.mgwith_added T.kpwith_added bV .nil pass0 (pa_cons (pv 11) (pa_cons (pe_un un_neg pe_int) (pa_cons (pe_ix (r := rIxL K) ix_list (pv 5) (pe_un un_neg pe_int) (fun _ _ => rfl)) pa_nil)))))
      (pss_cons (ps_set (i := 8) scLS.nd rfl (Or.inl rfl) (pe_call GL hr (by rfl) T.mgleast_from T.kpleast_from bL .nil pass0 (pa_cons (pv 0) (pa_cons (pv 7) (pa_cons (pe_tup pa_nil) (pa_cons (pv 3) (pa_cons (pv 6) pa_nil)))))))
      (pss_one (ps_ret (pe_make T.mkShare GS hr (by rfl) T.mgShare bS .nil pass0 (pa_cons (pe_ix ix_tup (pv 8) pe_int (fun _ _ => rfl)) (pa_cons (pe_ix ix_tup (pv 8) pe_int (fun _ _ => rfl)) (pa_cons (pe_ix ix_list (pv 4) (pe_ix ix_tup (pv 8) pe_int (fun _ _ => rfl)) (fun _ _ => rfl)) pa_nil))))))))))), ?_⟩
    have y64 : (y : Int) ≤ 8 := by omega
    refine hid fun ng => ?_
    obtain ⟨fqs, hf1, hf2, hf3⟩ := LRows.lst kf
    obtain ⟨aqs, ha1, ha2, ha3⟩ := LRows.lst ka
    refine ng ?_
    clear ng
    have efl : (((fqs.map V.ref).length : Nat) : Int).toNat = FK.length := by rw [List.length_map, hf2]; rfl
    refine ⟨_, rfl, _, rfl, by show 1 ≤ sizeLine; decide, fun l1 hl1 => ⟨_, rfl, fk, _, rfl, .inl (SqL.of (Same.upd hl1 _ _ hf1)), l1, _, _, rfl, rfl, upd_same, by omega, by rw [List.length_map, hf2]; omega, by rw [efl]; show 1 * _ ≤ sizeLine; rw [Nat.one_mul]; exact line1000 (by omega), fun l2 hl2 => ?_⟩⟩
    rw [efl, rep_nats]
    have s0 := (Same.upd (o := HO.lst [V.int (y : Nat)]) hl1).trans (Same.upd (o := HO.lst (nats (List.replicate FK.length y))) hl2)
    refine ⟨l2, y, List.replicate FK.length y, rfl, .inl upd_same, by rw [List.length_replicate]; omega, by omega, y8, fun z hz => by rw [(List.mem_replicate.mp hz).2]; exact y8, fun pw H1 s1 hpw LT => ?_⟩
    have s01 := s0.trans s1
    have hways : LTups H1 pw ((waysN FK.length y).map castL) := LT
    refine hid fun ng => ?_
    obtain ⟨wqs, hw1, hw2⟩ := hways
    refine ng ?_
    clear ng
    have hwl : wqs.length = (waysN FK.length y).length := by rw [← Paired.length hw2, List.length_map]
    have hfew := waysN_few f4 y8
    have hpos : 0 < (waysN FK.length y).length := waysN_pos f1
    refine ⟨_, rfl, ac, rfl, ⟨_, SqL.of (s01 _ _ ha1)⟩, fun D1 hD1 => ?_⟩
    refine lcf_list (fun _ => true) (RowR D1 (pullsI AC (waysN FK.length y))) hD1 (SqL.of (s01 _ _ ha1)) (by rw [List.length_map, ha2]; exact line1000 (by omega)) (RowR.st _ _) (fun j x H2 Q2 N hx s2 hacc0 hQ _ => ?_) (fun H2 acc s2 hacc hp => ?_)
    · refine hid fun ng => ?_
      obtain ⟨q, hqj, rfl⟩ := refs_get hx
      obtain ⟨row, er, hrow⟩ := Paired.get' ha3 hqj
      refine ng ?_
      clear ng
      refine ⟨rfl, yes_go ?_⟩
      refine ⟨_, rfl, _, rfl, q, pw, row, waysN FK.length y, rfl, s2 _ _ (s01 _ _ hrow), LTups.same ⟨wqs, hw1, hw2⟩ s2, fun u hu => ?_, by rw [ar row (List.mem_of_getElem? er)]; omega, by omega, fun p3 H3 s3 hp3 hp3' => ?_⟩
      · refine hid fun ng => ?_
        obtain ⟨u1, _, u3⟩ := waysN_mem hu
        refine ng ?_
        clear ng
        exact ⟨by rw [u1, ar row (List.mem_of_getElem? er)], fun x hx => Nat.le_trans (u3 x hx) y8⟩
      · refine hQ rfl _ _ s3 ⟨p3, rfl, fun z => ?_, ?_⟩
        · obtain ⟨acc, ha⟩ := hacc0
          rw [z, ha] at hp3
          cases hp3
        · rw [hp3']
          unfold pullsI
          rw [List.getD_eq_getElem?_getD, List.getElem?_map, er]
          rfl
    have hpl : LRows H2 D1 (pullsI AC (waysN FK.length y)) := lrows_of (n := AC.length) (by unfold pullsI; rw [List.length_map]) hacc (by rw [List.length_map, ha2] at hp; exact hp)
    clear hp hacc
    have s02 := s01.trans s2
    refine ⟨_, rfl, pw, rfl, ⟨_, SqL.of (s2 _ _ hw1)⟩, fun D2 hD2 => ?_⟩
    refine lcf_list (fun _ => true) (fun j y' _ => ∃ z, ((waysN FK.length y).map (kaI FK))[j]? = some z ∧ y' = V.int z) hD2 (SqL.of (s2 _ _ hw1)) (by rw [List.length_map, hwl]; exact line10000 (by omega)) (fun _ _ _ _ _ h => h) (fun j x H3 Q2 N hx s3 hacc0 hQ _ => ?_) (fun H3 acc2 s3 hacc hp => ?_)
    · refine hid fun ng => ?_
      obtain ⟨q, hqj, rfl⟩ := refs_get hx
      obtain ⟨way', er, hrow⟩ := Paired.get' hw2 hqj
      refine ng ?_
      clear ng
      rw [List.getElem?_map] at er
      cases er2 : (waysN FK.length y)[j]? with
      | none => rw [er2] at er; cases er
      | some way =>
        rw [er2] at er
        have er3 : castL way = way' := Option.some.inj er
        subst er3
        refine hid fun ng => ?_
        obtain ⟨u1, _, u3⟩ := waysN_mem (List.mem_of_getElem? er2)
        refine ng ?_
        clear ng
        refine ⟨rfl, yes_go ?_⟩
        refine ⟨_, rfl, _, rfl, fk, q, FK, way, rfl, LRows.same ⟨fqs, hf1, hf3⟩ (s02.trans s3), by rw [nats_cast]; exact s3 _ _ (s2 _ _ hrow), u1.symm, fun r hr => by rw [u1]; exact fr r hr, by omega, fun x hx => Nat.le_trans (u3 x hx) y8, fun H4 s4 => ?_⟩
        exact hQ rfl _ _ s4 ⟨_, by rw [List.getElem?_map, er2]; rfl, rfl⟩
    have hco : H3 D2 = some (.lst (((waysN FK.length y).map (kaI FK)).map V.int)) := by
      rw [List.length_map, hwl] at hp
      rw [hacc, ints_of (H := H3) (by rw [List.length_map]) hp]
    clear hp hacc
    have s03 := s02.trans s3
    -- the last pull
    have hal : AC ≠ [] := fun z => by rw [z] at al; simp at al; omega
    refine hid fun ng => ?_
    obtain ⟨pqs, hp1, hp2, hp3⟩ := LRows.lst (hpl.same s3)
    refine ng ?_
    clear ng
    have hpn : (pullsI AC (waysN FK.length y)).length = AC.length := by unfold pullsI; rw [List.length_map]
    have hlast : ∃ q, atI (pqs.map V.ref) (-1) = some (V.ref q) ∧ H3 q = some (.lst ((lastI AC (waysN FK.length y)).map V.int)) ∧ (lastI AC (waysN FK.length y)).length = (waysN FK.length y).length := by
      obtain ⟨A0, a, rfl⟩ : ∃ A0 a, AC = A0 ++ [a] := ⟨AC.dropLast, AC.getLast hal, (List.dropLast_concat_getLast hal).symm⟩
      have e1 : pullsI (A0 ++ [a]) (waysN FK.length y) = pullsI A0 (waysN FK.length y) ++ [pullI a (waysN FK.length y)] := by
        unfold pullsI
        rw [List.map_append]
        rfl
      have e2 : lastI (A0 ++ [a]) (waysN FK.length y) = pullI a (waysN FK.length y) := by
        unfold lastI
        rw [e1, List.getLastD_eq_getLast?, List.getLast?_append]
        rfl
      have e3 : (pullsI (A0 ++ [a]) (waysN FK.length y))[A0.length]? = some (pullI a (waysN FK.length y)) := by
        rw [e1, List.getElem?_append_right (by unfold pullsI; rw [List.length_map]; exact Nat.le_refl _)]
        unfold pullsI
        rw [List.length_map, Nat.sub_self]
        rfl
      refine hid fun ng => ?_
      obtain ⟨q, b1, b2⟩ := Paired.get hp3 e3
      refine ng ?_
      clear ng
      have hpq : pqs.length = A0.length + 1 := by rw [hp2, hpn, List.length_append]; rfl
      have e4 : pqs = pqs.dropLast ++ [q] := by
        have hne : pqs ≠ [] := fun z => by rw [z] at hpq; simp at hpq
        have e5 := List.dropLast_concat_getLast hne
        have e6 : pqs.getLast hne = q := by
          rw [List.getLast_eq_getElem]
          have := (List.getElem?_eq_some_iff.mp b1).2
          rw [← this]
          congr 1
          omega
        rw [e6] at e5
        exact e5.symm
      refine ⟨q, ?_, by rw [e2]; exact b2, by rw [e2]; unfold pullI; rw [List.length_map]⟩
      rw [e4, List.map_append]
      exact atI_last _ _
    refine hid fun ng => ?_
    obtain ⟨lq, hl1', hl2', hl3'⟩ := hlast
    refine ng ?_
    clear ng
    have hcl : ((waysN FK.length y).map (kaI FK)).length = (lastI AC (waysN FK.length y)).length := by rw [List.length_map, hl3']
    refine ⟨_, rfl, _, rfl, _, rfl, _, rfl, D1, _, _, _, rfl, rfl, SqL.of hp1, hl1', D2, lq, _, _, _, rfl, hco, hl2', hcl, by rw [List.length_map]; omega, by omega, by omega, fun p4 H4 s4 hp4 hco4 => ?_⟩
    have s04 := s03.trans s4
    refine ⟨_, rfl, _, rfl, _, rfl, D1, _, rfl, SqL.of (s4 _ _ hp1), fun p5 hp5 => ?_⟩
    rw [cut_init]
    have s45 : Same H4 (upd H4 p5 (.lst (pqs.map V.ref).dropLast)) := Same.upd hp5
    refine ⟨p5, rfl, ⟨_, SqL.of upd_same⟩, fun D3 hD3 => ?_⟩
    have hdl : (pqs.map V.ref).dropLast = pqs.dropLast.map V.ref := by rw [List.map_dropLast]
    refine lcf_list (xs := (pqs.map V.ref).dropLast) (fun _ => true) (RowR D3 (movesI AC (waysN FK.length y))) hD3 (SqL.of upd_same) (by rw [List.length_dropLast, List.length_map, hp2, hpn]; exact line1000 (by omega)) (RowR.st _ _) (fun j x H5 Q2 N hx s5 hacc0 hQ _ => ?_) (fun H5 acc3 s5 hacc hp => ?_)
    · rw [hdl] at hx
      refine hid fun ng => ?_
      obtain ⟨q, hqj, rfl⟩ := refs_get hx
      refine ng ?_
      clear ng
      have hj : j < pqs.length - 1 := by
        have := (List.getElem?_eq_some_iff.mp hqj).1
        rw [List.length_dropLast] at this
        exact this
      have hqj' : pqs[j]? = some q := by
        rw [List.getElem?_dropLast, if_pos hj] at hqj
        exact hqj
      refine hid fun ng => ?_
      obtain ⟨pl, er, hrow⟩ := Paired.get' hp3 hqj'
      refine ng ?_
      clear ng
      have s35 := (s4.trans s45).trans s5
      have hpll : pl.length = (lastI AC (waysN FK.length y)).length := by
        unfold pullsI at er
        rw [List.getElem?_map] at er
        cases ea : AC[j]? with
        | none => rw [ea] at er; cases er
        | some a =>
          rw [ea] at er
          have : pullI a (waysN FK.length y) = pl := Option.some.inj er
          rw [← this, hl3']
          unfold pullI
          rw [List.length_map]
      refine ⟨rfl, yes_go ?_⟩
      refine ⟨_, rfl, _, rfl, _, rfl, _, rfl, D1, _, _, _, rfl, rfl, SqL.of (s35 _ _ hp1), hl1', q, lq, pl, _, -1, rfl, s35 _ _ hrow, s35 _ _ hl2', hpll, by rw [hpll, hl3']; omega, by decide, by decide, fun p6 H6 s6 hp6 hp6' => ?_⟩
      refine hQ rfl _ _ s6 ⟨p6, rfl, fun z => ?_, ?_⟩
      · obtain ⟨acc, ha⟩ := hacc0
        rcases hp6 with e | e
        · have hq4 : (upd H4 p5 (.lst (pqs.map V.ref).dropLast)) q = some (.lst (pl.map V.int)) := s45 _ _ (s4 _ _ hrow)
          rw [← e, z, hD3] at hq4
          cases hq4
        · rw [z, ha] at e
          cases e
      · rw [hp6']
        have em : (movesI AC (waysN FK.length y))[j]? = some (addV pl (-1) (lastI AC (waysN FK.length y))) := by
          unfold movesI
          rw [List.getElem?_map, List.getElem?_dropLast, if_pos (by rw [hpn, ← hpn, ← hp2]; exact hj), er]
          rfl
        rw [List.getD_eq_getElem?_getD, em]
        rfl
    have hmn : (movesI AC (waysN FK.length y)).length = AC.length - 1 := by unfold movesI; rw [List.length_map, List.length_dropLast, hpn]
    have hmv : LRows H5 D3 (movesI AC (waysN FK.length y)) := lrows_of (n := AC.length - 1) hmn hacc (by rw [List.length_dropLast, List.length_map, hp2, hpn] at hp; exact hp)
    clear hp hacc
    have s35 := (s4.trans s45).trans s5
    have s05 := s03.trans s35
    have s45' := s45.trans s5
    have hcoI : costsI FK AC (waysN FK.length y) y = addV ((waysN FK.length y).map (kaI FK)) (y : Nat) (lastI AC (waysN FK.length y)) := rfl
    have hcoL : (costsI FK AC (waysN FK.length y) y).length = (waysN FK.length y).length := by
      rw [hcoI, addV_len _ hcl, List.length_map]
    refine ⟨_, rfl, _, rfl, Nat.zero_le _, fun p7 hp7 => ?_⟩
    have s57 : Same H5 (upd H5 p7 (.tup [])) := Same.upd hp7
    refine ⟨_, rfl, _, rfl, mk, D3, p7, p4, MK, movesI AC (waysN FK.length y), [], y, costsI FK AC (waysN FK.length y) y, rfl, ⟨km.same (s05.trans s57), hmv.same s57, upd_same, s57 _ _ (s45' _ _ hco4), by rw [hcoL]; exact hpos, by rw [hcoL]; omega, fun r hr => ?_, by rw [hmn, al]; show _ = 0 + _; omega, by rw [hmn, al]; omega, by rw [hmn, al]; omega, fun r hr => by rw [hmn, al, mr r hr]; omega, y8, fun x hx => (nomatch hx)⟩, fun p8 c8 H8 r v z s8 hp8 hc8 hz hfl => ?_⟩
    · unfold movesI at hr
      refine hid fun ng => ?_
      obtain ⟨pl, hpl', rfl⟩ := List.mem_map.mp hr
      refine ng ?_
      clear ng
      have hpm := (List.dropLast_sublist _).subset hpl'
      unfold pullsI at hpm
      refine hid fun ng => ?_
      obtain ⟨a, _, rfl⟩ := List.mem_map.mp hpm
      refine ng ?_
      clear ng
      have e : (pullI a (waysN FK.length y)).length = (lastI AC (waysN FK.length y)).length := by
        rw [hl3']
        unfold pullI
        rw [List.length_map]
      rw [addV_len _ e, e, hl3', hcoL]
    · have s08 := (s05.trans s57).trans s8
      have s18 := (((s2.trans s3).trans s35).trans s57).trans s8
      have em1 : MK.length - 1 + 1 = MK.length := by omega
      rw [em1, hcoL] at hfl
      have hv : v < (waysN FK.length y).length := by
        refine hid fun ng => ?_
        obtain ⟨_, hm⟩ := List.mem_flatMap.mp (show (r, v) ∈ (Km254.rows MK.length y).flatMap _ from hfl.mem)
        obtain ⟨v', hv', e⟩ := List.mem_map.mp hm.2
        refine ng ?_
        clear ng
        injection e with _ e2
        rw [← e2]
        exact List.mem_range.mp hv'
      have hwv : ((waysN FK.length y).map castL)[v]? = some (castL (waysN FK.length y)[v]) := by
        rw [List.getElem?_map, List.getElem?_eq_getElem hv]
        rfl
      refine hid fun ng => ?_
      obtain ⟨wq, e1, e2⟩ := Paired.get hw2 hwv
      refine ng ?_
      clear ng
      refine ⟨_, rfl, p8, _, _, _, rfl, rfl, SqT.of hp8, at_of (j := 0) rfl rfl, _, rfl, p8, _, _, _, rfl, rfl, SqT.of hp8, at_of (j := 1) rfl rfl, _, rfl, _, rfl, p8, _, _, _, rfl, rfl, SqT.of hp8, at_of (j := 2) rfl rfl, pw, _, _, _, rfl, rfl, SqL.of (s18 _ _ hw1), atI_nat (v := V.ref wq) (by rw [List.getElem?_map, e1]; rfl), ?_⟩
      intro x dx nx ndx nex
      refine ⟨x, dx, _, _, _, rfl, upd_same, fun H9 h9 k9 => ⟨rfl, ?_⟩⟩
      have s89 : Same H8 H9 := Same.made nx ndx k9
      refine k x dx c8 wq H9 r (waysN FK.length y)[v] v z (s08.trans s89) h9 (s89 _ _ hc8) (by rw [nats_cast]; exact s89 _ _ (s18 _ _ e2)) (List.getElem?_eq_getElem hv) hz hfl
end
end Hp
end
section
set_option Elab.async false
set_option linter.all false
set_option maxRecDepth 100000
namespace Hp
open PySem L2
noncomputable def maL (c r : V) : List (Str × V) := [("cost", c), ("rows", r)]
theorem ma_put (c r : V) : putF "rows" r (putF "cost" c []) = maL c r := by
  show putF "rows" r [("cost", c)] = _
  rw [putF_ne (by decide +kernel)]
  rfl
theorem ma_cost (c r : V) : (maL c r).lookup ("cost" : Str) = some c := lk_eq
theorem ma_rows (c r : V) : (maL c r).lookup ("rows" : Str) = some r := by
  unfold maL
  rw [lk_ne (by decide +kernel), lk_eq]
noncomputable def spMa (C : Addr) : Sp := fun vs H Q _ => ∃ (p dx : Addr) (c r : V), vs = [.ref p, c, r] ∧ H p = some (.ins C dx []) ∧
  ∀ H' : Hp, H' p = some (.ins C dx (maL c r)) → (∀ b o, H b = some o → b ≠ p → H' b = some o) → Q .non H'
noncomputable def spCo (C : Addr) : Sp := fun vs H Q _ => ∃ (p dx : Addr) (c r : V), vs = [.ref p] ∧ H p = some (.ins C dx (maL c r)) ∧ Q c H
noncomputable def spLe : Sp := fun vs H Q _ => ∃ (a b : Addr) (left r : List Nat), vs = [.ref a, .ref b] ∧ H a = some (.tup (nats left)) ∧ H b = some (.tup (nats r)) ∧ r.length = left.length ∧ (∀ j, r.getD j 0 ≤ left.getD j 0) ∧ left.length ≤ 1000 ∧
  ∀ p H', Same H H' → H' p = some (.tup (nats (Hw.less55 left r))) → Q (.ref p) H'
section
variable {P : Program} {w : World} {K : PySem.W.Frag} {mg : Str → Option Value} {base : Heap}
theorem scMa : FnScope ["self", "cost", "rows"] ["self", "cost", "rows"] (defScope sMating_init) := ⟨rfl, rfl, rfl, by decide +kernel, rfl, by decide +kernel, by decide +kernel⟩
theorem ok_ma {t : Adr} (T : Top K mg t) : Ok P w K mg base 1 t.fMating_init ["self", "cost", "rows"] (spMa t.cMating) := by
  refine hid fun ng => ?_
  obtain ⟨fd, F, bd⟩ := T.fnMating_init
  refine ng ?_
  clear ng
  refine ⟨fd, bd, ?_⟩
  refine F.ok scMa (fun vs H Q E h => ?_) (fun cdv A outer s H vs Q E hr h => ?_)
  · refine hid fun ng => ?_
    obtain ⟨p, dx, c, r, rfl, _⟩ := h
    refine ng ?_
    clear ng
    rfl
  · refine hid fun ng => ?_
    obtain ⟨p, dx, c, r, rfl, hp, k⟩ := h
    refine ng ?_
    clear ng
    refine ⟨_, pss_cons (ps_fld (pv 0) (pv 1) rfl) (pss_one (ps_fld (pv 0) (pv 2) rfl)), ?_⟩
    refine ⟨_, rfl, _, rfl, p, _, dx, [], rfl, hp, T.clMating, T.noMating_cost, (by show 0 < 1000; decide), ?_⟩
    refine ⟨_, rfl, _, rfl, p, _, dx, _, rfl, upd_same, T.clMating, T.noMating_rows, (by show 1 < 1000; decide), ?_⟩
    refine k _ (Eq.trans upd_same (congrArg (fun q => some (HO.ins _ dx q)) (ma_put _ _))) fun b o e hb => ?_
    rw [upd_ne hb, upd_ne hb]
    exact e
theorem scCo : FnScope ["mating"] ["mating"] (defScope scost_of) := ⟨rfl, rfl, rfl, by decide +kernel, rfl, by decide +kernel, by decide +kernel⟩
theorem ok_co {t : Adr} (T : Top K mg t) : Ok P w K mg base 1 t.fcost_of ["mating"] (spCo t.cMating) := by
  refine hid fun ng => ?_
  obtain ⟨fd, F, bd⟩ := T.fncost_of
  refine ng ?_
  clear ng
  refine ⟨fd, bd, ?_⟩
  refine F.ok scCo (fun vs H Q E h => ?_) (fun cdv A outer s H vs Q E hr h => ?_)
  · refine hid fun ng => ?_
    obtain ⟨p, dx, c, r, rfl, _⟩ := h
    refine ng ?_
    clear ng
    rfl
  · refine hid fun ng => ?_
    obtain ⟨p, dx, c, r, rfl, hp, k⟩ := h
    refine ng ?_
    clear ng
    refine ⟨_, pss_one (ps_ret (pe_fld (pv 0) rfl)), ?_⟩
    exact ⟨_, rfl, p, _, dx, _, _, rfl, hp, T.clMating, T.noMating_cost, ma_cost _ _, k⟩
theorem scRC : FnScope ["kin", "row", "number", "count"] ["kin", "row"] (defScope srow_cost) := ⟨rfl, rfl, rfl, by decide +kernel, rfl, by decide +kernel, by decide +kernel⟩
theorem ok_rc {t : Adr} (T : Top K mg t) : Ok P w K mg base 1 t.frow_cost ["kin", "row"] spWe := by
  refine hid fun ng => ?_
  obtain ⟨fd, F, bd⟩ := T.fnrow_cost
  refine ng ?_
  clear ng
  refine ⟨fd, bd, ?_⟩
  refine F.ok scRC (fun vs H Q E h => ?_) (fun cdv A outer s H vs Q E hr h => ?_)
  · refine hid fun ng => ?_
    obtain ⟨a, c, xs, cs, rfl, _⟩ := h
    refine ng ?_
    clear ng
    rfl
  · refine hid fun ng => ?_
    obtain ⟨a, c, xs, cs, rfl, ha, hc, hlen, h1000, h8, k⟩ := h
    refine ng ?_
    clear ng
    refine ⟨_, pss_one (ps_ret (pe_callB (cr_sum rfl) (by rfl) T.bsum boot_sum6 (pa_cons (pe_lc (own := [("number", 2), ("count", 3)]) rfl scRC.nd (pi_zq (by rfl) T.bzip (pa_cons (pv 0) (pa_cons (pv 1) pa_nil))) (blkOk_by (N := ["kin", "row", "number", "count"]) (sc := defScope srow_cost) (by decide +kernel))
      (fun _ _ _ _ _ => pg_pair (K := K) rfl rfl (pgs_cons (pg_name (i := 2) scRC.nd rfl (Or.inl rfl) (Or.inr rfl)) (pgs_cons (pg_name (i := 3) scRC.nd rfl (Or.inl rfl) (Or.inr rfl)) pgs_nil)) rfl rfl) (fun _ _ _ _ _ => pts_nil)
      (fun _ _ _ _ _ => pe_op op_mul (pv 2) (pv 3))) pa_nil))), ?_⟩
    refine ⟨_, rfl, _, rfl, false, true, a, c, _, _, rfl, SqX.l ha, SqX.t hc, fun D hD => ?_⟩
    have hlz : xs.length = (List.zipWith (fun a c => a * c) xs (castL cs)).length := by
      rw [List.length_zipWith]
      unfold castL
      rw [List.length_map]
      omega
    refine lcf_zip (fun _ => true) (fun j y _ => ∃ z, (List.zipWith (fun a c => a * c) xs (castL cs))[j]? = some z ∧ y = V.int z) hD (SqX.l ha) (SqX.t hc) (by unfold nats; rw [List.length_map, List.length_map]; exact hlen) (by rw [List.length_map, hlen]; exact line1000 h1000) (fun _ _ _ _ _ h => h) (fun j x y T2 H2 Q2 N hx hy hT s2 _ hQ _ => ?_) (fun H2 acc s2 hacc hp => ?_)
    · refine hid fun ng => ?_
      obtain ⟨u, hu, rfl⟩ := ints_get hx
      obtain ⟨m, hm, rfl⟩ := nats_get hy
      refine ng ?_
      clear ng
      have hm8 := h8 m (List.mem_of_getElem? hm)
      refine ⟨T2, _, rfl, SqT.of hT, rfl, _, _, rfl, _, _, rfl, rfl, rfl, yes_go ?_⟩
      refine ⟨_, rfl, _, rfl, _, _, rfl, rfl, .inr ⟨by omega, by omega⟩, ?_⟩
      exact hQ rfl _ _ (Same.refl _) ⟨_, zw_get hu (y := (m : Int)) (by unfold castL; rw [List.getElem?_map, hm]; rfl), rfl⟩
    · rw [List.length_map] at hp
      have e := ints_of (H := H2) hlz.symm hp
      refine ⟨D, _, rfl, SqL.of (by rw [hacc, e]), ?_⟩
      exact k H2 s2
theorem scLe : FnScope ["counts", "row", "count", "taken"] ["counts", "row"] (defScope sless) := ⟨rfl, rfl, rfl, by decide +kernel, rfl, by decide +kernel, by decide +kernel⟩
theorem ok_le {t : Adr} (T : Top K mg t) : Ok P w K mg base 1 t.fless ["counts", "row"] spLe := by
  refine hid fun ng => ?_
  obtain ⟨fd, F, bd⟩ := T.fnless
  refine ng ?_
  clear ng
  refine ⟨fd, bd, ?_⟩
  refine F.ok scLe (fun vs H Q E h => ?_) (fun cdv A outer s H vs Q E hr h => ?_)
  · refine hid fun ng => ?_
    obtain ⟨a, b, left, r, rfl, _⟩ := h
    refine ng ?_
    clear ng
    rfl
  · refine hid fun ng => ?_
    obtain ⟨a, b, left, r, rfl, ha, hb, hlen, hle, h1000, k⟩ := h
    refine ng ?_
    clear ng
    refine ⟨_, pss_one (ps_ret (pe_callTy call_tuple_of (by rfl) T.btuple boot_tuple6 (pa_cons (pe_lc (own := [("count", 2), ("taken", 3)]) rfl scLe.nd (pi_zq (by rfl) T.bzip (pa_cons (pv 0) (pa_cons (pv 1) pa_nil))) (blkOk_by (N := ["counts", "row", "count", "taken"]) (sc := defScope sless) (by decide +kernel))
      (fun _ _ _ _ _ => pg_pair (K := K) rfl rfl (pgs_cons (pg_name (i := 2) scLe.nd rfl (Or.inl rfl) (Or.inr rfl)) (pgs_cons (pg_name (i := 3) scLe.nd rfl (Or.inl rfl) (Or.inr rfl)) pgs_nil)) rfl rfl) (fun _ _ _ _ _ => pts_nil)
      (fun _ _ _ _ _ => pe_op op_sub (pv 2) (pv 3))) pa_nil))), ?_⟩
    refine ⟨_, rfl, _, rfl, true, true, a, b, _, _, rfl, SqX.t ha, SqX.t hb, fun D hD => ?_⟩
    refine lcf_zip (fun _ => true) (fun j y _ => ∃ z, (castL (Hw.less55 left r))[j]? = some z ∧ y = V.int z) hD (SqX.t ha) (SqX.t hb) (by rw [nats_len, nats_len]; exact hlen.symm) (by rw [nats_len]; exact line1000 h1000) (fun _ _ _ _ _ h => h) (fun j x y T2 H2 Q2 N hx hy hT s2 _ hQ _ => ?_) (fun H2 acc s2 hacc hp => ?_)
    · refine hid fun ng => ?_
      obtain ⟨u, hu, rfl⟩ := nats_get hx
      obtain ⟨m, hm, rfl⟩ := nats_get hy
      refine ng ?_
      clear ng
      have hj : j < left.length := (List.getElem?_eq_some_iff.mp hu).1
      have hmu := hle j
      rw [List.getD_eq_getElem?_getD, hm, List.getD_eq_getElem?_getD, hu] at hmu
      have hmu : m ≤ u := hmu
      refine ⟨T2, _, rfl, SqT.of hT, rfl, _, _, rfl, _, _, rfl, rfl, rfl, yes_go ?_⟩
      refine ⟨_, rfl, _, rfl, _, _, rfl, rfl, ?_⟩
      refine hQ rfl _ _ (Same.refl _) ⟨((u - m : Nat) : Int), ?_, ?_⟩
      · unfold castL Hw.less55
        rw [List.getElem?_map, List.getElem?_map, List.getElem?_range hj]
        show some (((left.getD j 0 - r.getD j 0 : Nat) : Int)) = _
        rw [List.getD_eq_getElem?_getD, hu, List.getD_eq_getElem?_getD, hm]
        rfl
      · exact congrArg V.int (by show ((u : Nat) : Int) - ((m : Nat) : Int) = _; omega)
    · rw [nats_len] at hp
      have e := ints_of (H := H2) (by unfold castL; rw [List.length_map, Hw.less55_len]) hp
      refine ⟨D, _, rfl, .inl ⟨SqL.of hacc, fun l hl => ?_⟩⟩
      refine k l _ (s2.trans (Same.upd hl)) ?_
      rw [upd_same, e, nats_cast]
end
end Hp
end
section
set_option Elab.async false
set_option linter.all false
set_option maxRecDepth 100000
namespace Hp
open PySem L2
noncomputable def mcost : List (List Int) → List (List Nat) → Int
  | k :: ks, r :: x => wsum k r + mcost ks x
  | _, _ => 0
noncomputable def MatAt (C : Addr) (H : Hp) (p : Addr) (cost : Int) (rows : List (List Nat)) : Prop := ∃ (dx l : Addr) (qs : List Addr), H p = some (.ins C dx (maL (.int cost) (.ref l))) ∧ H l = some (.lst (qs.map V.ref)) ∧ TupL H (rows.map castL) qs
theorem MatAt.same {C : Addr} {H H' : Hp} {p : Addr} {cost : Int} {rows : List (List Nat)} (h : MatAt C H p cost rows) (s : Same H H') : MatAt C H' p cost rows := by
  refine hid fun ng => ?_
  obtain ⟨dx, l, qs, h1, h2, h3⟩ := h
  refine ng ?_
  clear ng
  exact ⟨dx, l, qs, s _ _ h1, s _ _ h2, h3.same fun _ _ e => s _ _ e⟩
theorem MatAt.but {C kn : Addr} {H H' : Hp} {p : Addr} {cost : Int} {rows : List (List Nat)} {φ : Heap → Prop} (h : MatAt C H p cost rows) (hk : H kn = some (.ext φ)) (b : But kn H H') : MatAt C H' p cost rows := by
  refine hid fun ng => ?_
  obtain ⟨dx, l, qs, h1, h2, h3⟩ := h
  refine ng ?_
  clear ng
  exact ⟨dx, l, qs, b _ _ (ne_of h1 hk (by intro z; cases z)) h1, b _ _ (ne_of h2 hk (by intro z; cases z)) h2, h3.same fun c xs e => b _ _ (ne_of e hk (by intro z; cases z)) e⟩
theorem MatAt.push {C f0 : Addr} {H : Hp} {p : Addr} {cost : Int} {rows : List (List Nat)} {ps : List Addr} {o : List V} (h : MatAt C H p cost rows) (hr : rows ≠ []) (hf : H f0 = some (.lst (ps.map V.ref))) (hp : ∀ q ∈ ps, ∃ C dx fs, H q = some (.ins C dx fs)) : MatAt C (upd H f0 (.lst o)) p cost rows := by
  refine hid fun ng => ?_
  obtain ⟨dx, l, qs, h1, h2, h3⟩ := h
  refine ng ?_
  clear ng
  have nl : l ≠ f0 := fun z => by
    rw [z, hf] at h2
    have e := Option.some.inj h2
    injection e with e2
    cases rows with
    | nil => exact hr rfl
    | cons r x =>
      rw [List.map_cons] at h3
      cases h3 with
      | @cons _ q _ qs' hq ht =>
        cases ps with
        | nil => cases e2
        | cons p0 ps =>
          rw [List.map_cons, List.map_cons] at e2
          injection e2 with e3 _
          injection e3 with e4
          refine hid fun ng => ?_
          obtain ⟨C', dx', fs, hi⟩ := hp p0 (List.mem_cons_self ..)
          refine ng ?_
          clear ng
          rw [e4, hq] at hi
          cases hi
  exact ⟨dx, l, qs, by rw [upd_ne (ne_of h1 hf (by intro z; cases z))]; exact h1, by rw [upd_ne nl]; exact h2, h3.same (tup_upd hf)⟩
noncomputable def GoodM (AC : List (List Int)) (sums : List Nat) (m : Nat) (left : List Nat) (cost : Int) (rows : List (List Nat)) : Prop := cost = mcost (AC.drop m) rows ∧ Hw.FL (mcost (AC.drop m)) (Hw.allM (sums.drop m) left) rows
theorem GoodM.ne {AC : List (List Int)} {sums : List Nat} {m : Nat} {left : List Nat} {cost : Int} {rows : List (List Nat)} (h : GoodM AC sums m left cost rows) (hm : m < sums.length) : rows ≠ [] := by
  have e := h.2.mem
  rw [List.drop_eq_getElem_cons hm, Hw.allM_cons, List.mem_flatMap] at e
  refine hid fun ng => ?_
  obtain ⟨r, _, hr⟩ := e
  obtain ⟨x, _, rfl⟩ := List.mem_map.mp hr
  refine ng ?_
  clear ng
  simp
structure KN (P : Program) (w : World) (C : Addr) (H : Hp) (kn : Addr) (AC : List (List Int)) (sums : List Nat) (f : Nat) (kvs : List NEnt) : Prop where
  nd : ND P w H kn kvs
  ent : ∀ p ∈ kvs, ∃ (m : Nat) (left : List Nat) (a : Addr) (cost : Int) (rows : List (List Nat)), p.1 = (((m : Nat) : Int), castL left) ∧ p.2.2 = .ref a ∧ m < sums.length ∧ left.length = f ∧ (∀ x ∈ left, x ≤ 8) ∧ MatAt C H a cost rows ∧ GoodM AC sums m left cost rows
theorem castL_inj : ∀ {a b : List Nat}, castL a = castL b → a = b
  | [], [], _ => rfl
  | x :: a, y :: b, e => by
    unfold castL at e
    rw [List.map_cons, List.map_cons] at e
    injection e with e1 e2
    rw [castL_inj (a := a) (b := b) e2, Int.ofNat.inj e1]
  | [], _ :: _, e => by cases e
  | _ :: _, [], e => by cases e
section
variable {P : Program} {w : World} {C : Addr} {H H' : Hp} {kn : Addr} {AC : List (List Int)} {sums : List Nat} {f : Nat} {kvs : List NEnt}
theorem KN.same (h : KN P w C H kn AC sums f kvs) (s : Same H H') : KN P w C H' kn AC sums f kvs :=
  ⟨h.nd.same s, fun p hp => by
    refine hid fun ng => ?_
    obtain ⟨m, left, a, cost, rows, e1, e2, e3, e4, e5, e6, e7⟩ := h.ent p hp
    refine ng ?_
    clear ng
    exact ⟨m, left, a, cost, rows, e1, e2, e3, e4, e5, e6.same s, e7⟩⟩
theorem KN.push {f0 : Addr} {ps : List Addr} {o : List V} (h : KN P w C H kn AC sums f kvs) (hf : H f0 = some (.lst (ps.map V.ref))) (hp : ∀ q ∈ ps, ∃ C dx fs, H q = some (.ins C dx fs)) : KN P w C (upd H f0 (.lst o)) kn AC sums f kvs := by
  refine ⟨⟨?_, h.nd.nd, fun p hp' => (h.nd.key p hp').same (tup_upd hf)⟩, fun p hp' => ?_⟩
  · rw [upd_ne (ne_of h.nd.at_ hf (by intro z; cases z))]
    exact h.nd.at_
  · refine hid fun ng => ?_
    obtain ⟨m, left, a, cost, rows, e1, e2, e3, e4, e5, e6, e7⟩ := h.ent p hp'
    refine ng ?_
    clear ng
    exact ⟨m, left, a, cost, rows, e1, e2, e3, e4, e5, e6.push (e7.ne e3) hf hp, e7⟩
theorem KN.few (h : KN P w C H kn AC sums f kvs) (hs : sums.length ≤ 4) (hf : f ≤ 4) : kvs.length ≤ 26244 := by
  have e1 := Hw.nodup_map_on (f := fun k : NK => Hw.code k.1.toNat (k.2.map Int.toNat)) h.nd.nd fun x hx y hy e => by
    refine hid fun ng => ?_
    obtain ⟨p, hp, rfl⟩ := List.mem_map.mp hx
    obtain ⟨q, hq, rfl⟩ := List.mem_map.mp hy
    obtain ⟨m, left, _, _, _, a1, _, _, a4, a5, _⟩ := h.ent p hp
    obtain ⟨m', left', _, _, _, b1, _, _, b4, b5, _⟩ := h.ent q hq
    refine ng ?_
    clear ng
    have tn : ∀ l : List Nat, (castL l).map Int.toNat = l := fun l => by
      unfold castL
      rw [List.map_map]
      exact List.map_id _
    rw [a1, b1] at e ⊢
    have e : Hw.code ((m : Nat) : Int).toNat ((castL left).map Int.toNat) = Hw.code ((m' : Nat) : Int).toNat ((castL left').map Int.toNat) := e
    rw [tn, tn] at e
    obtain ⟨z1, z2⟩ := Hw.code_inj left left' _ _ (by rw [a4, b4]) a5 b5 e
    have z1 : m = m' := z1
    rw [z1, z2]
  have e2 := Hw.nodup_bound 26244 _ e1 fun x hx => by
    refine hid fun ng => ?_
    obtain ⟨k, hk, rfl⟩ := List.mem_map.mp hx
    obtain ⟨p, hp, rfl⟩ := List.mem_map.mp hk
    obtain ⟨m, left, _, _, _, a1, _, a3, a4, a5, _⟩ := h.ent p hp
    refine ng ?_
    clear ng
    rw [a1]
    show Hw.code ((m : Nat) : Int).toNat ((castL left).map Int.toNat) < 26244
    have tn : (castL left).map Int.toNat = left := by
      unfold castL
      rw [List.map_map]
      exact List.map_id _
    rw [tn]
    have e := Hw.code_lt left m 4 (by omega) a5
    rw [a4] at e
    have e3 : 4 * 9 ^ f ≤ 4 * 9 ^ 4 := Nat.mul_le_mul_left _ (Nat.pow_le_pow_right (by decide) hf)
    have e4 : 4 * 9 ^ 4 = 26244 := by decide
    have e5 : Hw.code ((m : Nat) : Int).toNat left = Hw.code m left := rfl
    omega
  rw [List.length_map, List.length_map] at e2
  exact e2
theorem KN.get (h : KN P w C H kn AC sums f kvs) {m : Nat} {left : List Nat} {v : V} (e : getN kvs (((m : Nat) : Int), castL left) = some v) : ∃ (a : Addr) (cost : Int) (rows : List (List Nat)), v = .ref a ∧ MatAt C H a cost rows ∧ GoodM AC sums m left cost rows := by
  refine hid fun ng => ?_
  obtain ⟨b, hb⟩ := getN_mem e
  obtain ⟨m', left', a, cost, rows, e1, e2, e3, e4, e5, e6, e7⟩ := h.ent _ hb
  refine ng ?_
  clear ng
  have e1 : (((m : Nat) : Int), castL left) = (((m' : Nat) : Int), castL left') := e1
  injection e1 with z1 z2
  have z1 := Int.ofNat.inj z1
  have z2 := castL_inj z2
  subst z1 z2
  exact ⟨a, cost, rows, e2, e6, e7⟩
end
structure LRin (P : Program) (w : World) (C : Addr) (H : Hp) (ac om lf kn : Addr) (AC : List (List Int)) (sums : List Nat) (m : Nat) (left : List Nat) (kvs : List NEnt) (j : Nat) : Prop where
  ka : LRows H ac AC
  om : H om = some (.tup (nats sums))
  lf : H lf = some (.tup (nats left))
  kn : KN P w C H kn AC sums left.length kvs
  mj : m + j = sums.length
  s4 : sums.length ≤ 4
  al : AC.length = sums.length
  ar : ∀ r ∈ AC, r.length = left.length
  f1 : 1 ≤ left.length
  f4 : left.length ≤ 4
  l8 : ∀ x ∈ left, x ≤ 8
  s8 : ∀ x ∈ sums, x ≤ 8
  sum : left.sum = (sums.drop m).sum
noncomputable def spLR (P : Program) (w : World) (C : Addr) (j : Nat) : Sp := fun vs H Q _ => ∃ (ac om lf kn : Addr) (AC : List (List Int)) (sums : List Nat) (m : Nat) (left : List Nat) (kvs : List NEnt), vs = [.ref ac, .ref om, .int (m : Nat), .ref lf, .ref kn] ∧ LRin P w C H ac om lf kn AC sums m left kvs j ∧
  ∀ p H' kvs' cost rows, But kn H H' → KN P w C H' kn AC sums left.length kvs' → MatAt C H' p cost rows → GoodM AC sums m left cost rows → Q (.ref p) H'
section
variable {P : Program} {w : World} {K : PySem.W.Frag} {mg : Str → Option Value} {base : Heap}
theorem scLR : FnScope ["across", "of_males", "male", "left", "known", "found", "row", "rest"] ["across", "of_males", "male", "left", "known"] (defScope sleast_rest) := ⟨rfl, rfl, rfl, by decide +kernel, rfl, by decide +kernel, by decide +kernel⟩
theorem ok_lr {t : Adr} (T : Top K mg t) : ∀ j, Ok P w K mg base (j + 6) t.fleast_rest ["across", "of_males", "male", "left", "known"] (spLR P w t.cMating j)
  | 0 => by
    refine hid fun ng => ?_
    obtain ⟨fd, F, bd⟩ := T.fnleast_rest
    refine ng ?_
    clear ng
    refine ⟨fd, bd, ?_⟩
    refine hid fun ng => ?_
    obtain ⟨fdM, bM, GM⟩ := (ok_ma (P := P) (w := w) (base := base) T).lift (show 1 ≤ 4 by decide)
    refine ng ?_
    clear ng
    refine F.ok scLR (fun vs H Q E h => ?_) (fun cdv A outer s H vs Q E hr h => ?_)
    · refine hid fun ng => ?_
      obtain ⟨ac, om, lf, kn, AC, sums, m, left, kvs, rfl, _⟩ := h
      refine ng ?_
      clear ng
      rfl
    · refine hid fun ng => ?_
      obtain ⟨ac, om, lf, kn, AC, sums, m, left, kvs, rfl, I, k⟩ := h
      refine ng ?_
      clear ng
      refine ⟨_, pss_cons (ps_if (pt_cmpR op_eq (pv 2) (pe_callB call_len_seq (by rfl) T.blen PySem.boot_len (pa_cons (pv 1) pa_nil)) (nomark _)) (pss_one (ps_ret (pe_make T.mkMating GM hr (by rfl) T.mgMating bM .nil pass0 (pa_cons pe_int (pa_cons (pe_lst pa_nil) pa_nil))))) pss_nil)
        pss_never, ?_⟩
      have hmj := I.mj
      refine ⟨_, rfl, _, rfl, om, _, rfl, .inr (SqT.of I.om), rfl, _, rfl, ?_⟩
      refine iteTb (show decide (V.int ((m : Nat) : Int) = V.int (((nats sums).length : Nat) : Int)) = true from decide_eq_true (by rw [nats_len, ← hmj]; rfl)) ?_
      refine ⟨Nat.zero_le _, fun l hl => ?_⟩
      intro x dx nx ndx nex
      refine ⟨x, dx, _, _, rfl, upd_same, fun H1 h1 k1 => ⟨rfl, ?_⟩⟩
      have s1 : Same (upd H l (.lst [])) H1 := Same.made nx ndx k1
      have s01 := (Same.upd (o := HO.lst []) hl).trans s1
      have hd : sums.drop m = [] := List.drop_of_length_le (by omega)
      have hda : AC.drop m = [] := List.drop_of_length_le (by rw [I.al]; omega)
      refine k x H1 kvs 0 [] (fun b o _ e => s01 b o e) (I.kn.same s01) ⟨dx, l, [], h1, s1 _ _ upd_same, .nil⟩ ⟨?_, ?_⟩
      · rw [hda]; rfl
      · rw [hd, Hw.allM_nil]
        exact Hw.FL.one _ _
  | j + 1 => by
    refine hid fun ng => ?_
    obtain ⟨fd, F, bd⟩ := T.fnleast_rest
    refine ng ?_
    clear ng
    refine ⟨fd, bd, ?_⟩
    refine hid fun ng => ?_
    obtain ⟨fdR, bR, GR⟩ := ok_lr T j
    obtain ⟨fdM, bM, GM⟩ := (ok_ma (P := P) (w := w) (base := base) T).lift (show 1 ≤ j + 5 by omega)
    obtain ⟨fdC, bC, GC⟩ := (ok_rc (P := P) (w := w) (base := base) T).lift (show 1 ≤ j + 6 by omega)
    obtain ⟨fdL, bL, GL⟩ := (ok_le (P := P) (w := w) (base := base) T).lift (show 1 ≤ j + 6 by omega)
    obtain ⟨fdK, bK, GK⟩ := ok_co (P := P) (w := w) (base := base) T
    refine ng ?_
    clear ng
    refine F.ok scLR (fun vs H Q E h => ?_) (fun cdv A outer s H vs Q E hr h => ?_)
    · refine hid fun ng => ?_
      obtain ⟨ac, om, lf, kn, AC, sums, m, left, kvs, rfl, _⟩ := h
      refine ng ?_
      clear ng
      rfl
    · refine hid fun ng => ?_
      obtain ⟨ac, om, lf, kn, AC, sums, m, left, kvs, rfl, I, k⟩ := h
      refine ng ?_
      clear ng
      have hu2 : A.units + 3 + 2 < cLine := by have q : A.units + 3 + 64 < cLine := hr.units; omega
      have f4 := I.f4
      have f1 := I.f1
      refine hid fun ng => ?_
      obtain ⟨fdW, bW, GW⟩ := (ok_ways (P := P) (w := w) (base := base) T (left.length - 1)).lift (show left.length - 1 + 1 ≤ j + 6 by omega)
      refine ng ?_
      clear ng
      refine ⟨_, pss_cons (ps_if (pt_cmpR op_eq (pv 2) (pe_callB call_len_seq (by rfl) T.blen PySem.boot_len (pa_cons (pv 1) pa_nil)) (nomark _)) pss_never pss_nil)
        (pss_cons (ps_if (pt_cmp (pc_nnotin hu2 (pe_tup (pa_cons (pv 2) (pa_cons (pv 3) pa_nil))) (pv 4)))
          (pss_cons (ps_set (i := 5) scLR.nd rfl (Or.inl rfl) (pe_lst pa_nil))
          (pss_cons (ps_for PassesOwn.never rfl (pi_list (pe_call GW hr (by rfl) T.mgways_to_share T.kpways_to_share bW .nil pass0 (pa_cons (pe_ix ix_tup (pv 1) (pv 2) (fun _ _ => rfl)) (pa_cons (pv 3) pa_nil)))) (pg_name (i := 6) scLR.nd rfl (Or.inl rfl))
            (pss_cons (ps_set (i := 7) scLR.nd rfl (Or.inl rfl) (pe_call GR hr (by rfl) T.mgleast_rest T.kpleast_rest bR .nil pass0 (pa_cons (pv 0) (pa_cons (pv 1) (pa_cons (pe_op op_add (pv 2) pe_int) (pa_cons (pe_call GL hr (by rfl) T.mgless T.kpless bL .nil pass0 (pa_cons (pv 3) (pa_cons (pv 6) pa_nil))) (pa_cons (pv 4) pa_nil)))))))
            (pss_one (ps_expr (pe_bm PySem.F.plainAttrs_list PySem.F.slot_list_append PySem.F.type_list_append mt_append (pv 5) (pa_cons (pe_make T.mkMating GM hr (by rfl) T.mgMating bM .nil pass0
              (pa_cons (pe_op op_add (pe_call GC hr (by rfl) T.mgrow_cost T.kprow_cost bC .nil pass0 (pa_cons (pe_ix ix_list (pv 0) (pv 2) (fun _ _ => rfl)) (pa_cons (pv 6) pa_nil))) (pe_fld (pv 7) rfl)) (pa_cons (pe_op op_cat (pe_lst (pa_cons (pv 6) pa_nil)) (pe_fld (pv 7) rfl)) pa_nil))) pa_nil))))))
          (pss_one (ps_nput hu2 (pv 4) (pe_tup (pa_cons (pv 2) (pa_cons (pv 3) pa_nil))) (pe_minKey GK (hr.mono (show 2 ≤ j + 6 by omega)) bK rfl (by rfl) T.bmin (by rfl) T.mgcost_of (pv 5)) (by rfl))))) pss_nil)
        (pss_one (ps_ret (pe_nget hu2 (pv 4) (pe_tup (pa_cons (pv 2) (pa_cons (pv 3) pa_nil))) (fun _ _ => rfl))))), ?_⟩
      refine hid fun ng => ?_
      obtain ⟨ka, om', lf', kn', mj, s4, al, ar, _, _, l8, s8, hsum⟩ := I
      refine ng ?_
      clear ng
      have hm : m < sums.length := by omega
      have hsd : sums.drop m = sums[m] :: sums.drop (m + 1) := List.drop_eq_getElem_cons hm
      have hsm : sums[m]? = some sums[m] := List.getElem?_eq_getElem hm
      have hma : m < AC.length := by omega
      have had : AC.drop m = AC[m] :: AC.drop (m + 1) := List.drop_eq_getElem_cons hma
      have ham : AC[m]? = some AC[m] := List.getElem?_eq_getElem hma
      generalize hs0 : sums[m] = s0 at hsd hsm
      generalize hk0 : AC[m] = k0 at had ham
      have hs08 : s0 ≤ 8 := s8 s0 (List.mem_of_getElem? hsm)
      have hk0l : k0.length = left.length := ar k0 (List.mem_of_getElem? ham)
      have hsum' : left.sum = s0 + (sums.drop (m + 1)).sum := by rw [hsum, hsd, List.sum_cons]
      have hknx := kn'.nd.at_
      refine ⟨_, rfl, _, rfl, om, _, rfl, .inr (SqT.of om'), rfl, _, rfl, ?_⟩
      refine iteFb (show decide (V.int ((m : Nat) : Int) = V.int (((nats sums).length : Nat) : Int)) = false from decide_eq_false (by
        intro z
        injection z with z
        rw [nats_len] at z
        omega)) ?_
      refine ⟨_, rfl, _, rfl, by show 2 ≤ sizeLine; decide, fun b1 hb1 => ?_⟩
      have s01 : Same H (upd H b1 (.tup [.int (m : Nat), .ref lf])) := Same.upd hb1
      generalize hH1 : upd H b1 (.tup [.int (m : Nat), .ref lf]) = H1 at s01
      have hb1' : H1 b1 = some (.tup [.int (m : Nat), .ref lf]) := by rw [← hH1]; exact upd_same
      have hlf1 : H1 lf = some (.tup ((castL left).map V.int)) := by rw [← nats_cast]; exact s01 _ _ lf'
      have kn1 := kn'.same s01
      refine ⟨_, rfl, kn, b1, kvs, (((m : Nat) : Int), castL left), rfl, rfl, kn1.nd, ⟨lf, hb1', hlf1⟩, _, rfl, ?_⟩
      cases hg0 : getN kvs (((m : Nat) : Int), castL left) with
      | some v =>
        refine iteF ?_
        refine ⟨_, rfl, _, rfl, _, rfl, by show 2 ≤ sizeLine; decide, fun b2 hb2 => ?_⟩
        have s12 : Same H1 (upd H1 b2 (.tup [.int (m : Nat), .ref lf])) := Same.upd hb2
        refine ⟨kn, b2, kvs, (((m : Nat) : Int), castL left), v, rfl, rfl, (kn1.same s12).nd, ⟨lf, upd_same, s12 _ _ hlf1⟩, hg0, ?_⟩
        refine hid fun ng => ?_
        obtain ⟨a, cost, rows, rfl, mat, good⟩ := (kn1.same s12).get hg0
        refine ng ?_
        clear ng
        exact k a _ kvs cost rows (fun b o _ e => s12 _ _ (s01 _ _ e)) (kn1.same s12) mat good
      | none =>
        refine iteT ?_
        refine ⟨Nat.zero_le _, fun f0 hf0 => ?_⟩
        have s12 : Same H1 (upd H1 f0 (.lst [])) := Same.upd hf0
        have s02 := s01.trans s12
        have hf0' : H f0 = none := s01.free hf0
        refine ⟨_, rfl, _, rfl, om, _, _, _, rfl, rfl, SqT.of (s02 _ _ om'), atI_nat (v := V.int (s0 : Nat)) (by unfold nats; rw [List.getElem?_map, hsm]; rfl), _, rfl, lf, s0, left, rfl, .inr (s02 _ _ lf'), by omega, by omega, hs08, l8, fun pw H3 s23 hpw LT => ?_⟩
        refine hid fun ng => ?_
        obtain ⟨ws, hw1, hw2⟩ := LT
        refine ng ?_
        clear ng
        have s03 := s02.trans s23
        have s13 := s12.trans s23
        have hf3 : H3 f0 = some (.lst []) := s23 _ _ upd_same
        have npf : pw ≠ f0 := fun z => by
          rw [z, upd_same] at hpw
          cases hpw
        have hwl : ws.length = (Km255.rows left s0).length := by rw [← Paired.length hw2, List.length_map]
        have hfew : (Km255.rows left s0).length ≤ 6561 := Nat.le_trans (Hw.rows55_few left s0 l8) (Nat.le_trans (Nat.pow_le_pow_right (by decide) f4) (by decide))
        have hline : (6561 : Nat) < sizeLine := by decide
        have kn3 := kn1.same s13
        have hkn3 := kn3.nd.at_
        have nkf : kn ≠ f0 := ne_of hkn3 hf3 (by intro z; cases z)
        have npk : pw ≠ kn := ne_of hw1 hkn3 (by intro z; cases z)
        refine ⟨pw, rfl, ⟨_, SqL.of hw1⟩, ?_⟩
        refine for_list (xs := ws.map V.ref) (fun i σ H5 => (∃ v6 v7, σ = [some (.ref ac), some (.ref om), some (.int (m : Nat)), some (.ref lf), some (.ref kn), some (.ref f0), v6, v7]) ∧ (∀ b o, b ≠ kn → b ≠ f0 → H3 b = some o → H5 b = some o) ∧ (∃ kvs5, KN P w t.cMating H5 kn AC sums left.length kvs5) ∧
            ∃ ps : List Addr, H5 f0 = some (.lst (ps.map V.ref)) ∧ ps.length = i ∧ ∀ (n : Nat) p, ps[n]? = some p → ∃ (row : List Nat) (cost : Int) (rows : List (List Nat)), (Km255.rows left s0)[n]? = some row ∧ MatAt t.cMating H5 p cost (row :: rows) ∧ cost = wsum k0 row + mcost (AC.drop (m + 1)) rows ∧ Hw.FL (mcost (AC.drop (m + 1))) (Hw.allM (sums.drop (m + 1)) (Hw.less55 left row)) rows)
          ⟨⟨none, none, rfl⟩, fun b o _ _ e => e, ⟨kvs, kn3⟩, [], hf3, rfl, fun n p e => absurd e (by rw [List.getElem?_nil]; simp)⟩ (fun i σ H5 _ hI => SqL.of (hI.2.1 _ _ npk npf hw1)) (fun i x σ H5 hx hI => ?_) (fun σ H5 hI => ?_)
        · refine hid fun ng => ?_
          obtain ⟨⟨v6, v7, rfl⟩, b5, ⟨kvs5, kn5⟩, ps, hf5, hpl, hps⟩ := hI
          obtain ⟨q, hqi, rfl⟩ := refs_get hx
          obtain ⟨row', er, hrow3⟩ := Paired.get' hw2 hqi
          refine ng ?_
          clear ng
          rw [List.getElem?_map] at er
          cases er2 : (Km255.rows left s0)[i]? with
          | none => rw [er2] at er; cases er
          | some row =>
            rw [er2] at er
            have er3 : castL row = row' := Option.some.inj er
            subst er3
            refine hid fun ng => ?_
            obtain ⟨r1, r2, r3⟩ := (Hw.rows55_mem left s0 row).mp (List.mem_of_getElem? er2)
            refine ng ?_
            clear ng
            have hrow8 : ∀ x ∈ row, x ≤ 8 := fun x hx => by
              obtain ⟨jj, hj⟩ := List.mem_iff_getElem?.mp hx
              have e := r3 jj
              have hjl : jj < left.length := by rw [← r1]; exact (List.getElem?_eq_some_iff.mp hj).1
              rw [List.getD_eq_getElem?_getD, hj, List.getD_eq_getElem?_getD, List.getElem?_eq_getElem hjl] at e
              exact Nat.le_trans e (l8 _ (List.getElem_mem hjl))
            have hkn5 := kn5.nd.at_
            -- what stands from the beginning on
            have up5 : ∀ b o, b ≠ kn → H b = some o → H5 b = some o := fun b o n e => b5 b o n (fun z => by rw [z, hf0'] at e; cases e) (s03 _ _ e)
            have nkn : ∀ b xs, H b = some (.tup xs) → b ≠ kn := fun b xs e => ne_of e hknx (by intro z; cases z)
            have nknl : ∀ b xs, H b = some (.lst xs) → b ≠ kn := fun b xs e => ne_of e hknx (by intro z; cases z)
            have ka5 : LRows H5 ac AC := by
              refine hid fun ng => ?_
              obtain ⟨aqs, a1, a2⟩ := ka
              refine ng ?_
              clear ng
              exact ⟨aqs, up5 _ _ (nknl _ _ a1) a1, Paired.mapP a2 fun _ _ e => up5 _ _ (nknl _ _ e) e⟩
            have hrow5 : H5 q = some (.tup (nats row)) := by
              rw [nats_cast]
              exact b5 _ _ (ne_of hrow3 hkn3 (by intro z; cases z)) (ne_of hrow3 hf3 (by intro z; cases z)) hrow3
            refine ⟨_, rfl, _, rfl, _, rfl, _, _, rfl, rfl, _, rfl, _, rfl, lf, q, left, row, rfl, up5 _ _ (nkn _ _ lf') lf', hrow5, r1, r3, by omega, fun p6 H6 s56 hp6 => ?_⟩
            have hl55 := Hw.less55_len left row
            refine ⟨_, rfl, ac, om, p6, kn, AC, sums, m + 1, Hw.less55 left row, kvs5, rfl, ⟨ka5.same s56, s56 _ _ (up5 _ _ (nkn _ _ om') om'), hp6, by rw [hl55]; exact kn5.same s56, by omega, s4, al, fun r hr => by rw [hl55]; exact ar r hr, by rw [hl55]; exact f1, by rw [hl55]; exact f4, fun x hx => ?_, s8, ?_⟩, fun pr H7 kvs7 cost7 rows7 bt7 kn7 mat7 good7 => ?_⟩
            · obtain ⟨jj, hj⟩ := List.mem_iff_getElem?.mp hx
              have hjl : jj < left.length := by rw [← hl55]; exact (List.getElem?_eq_some_iff.mp hj).1
              have e := Hw.less55_get left row jj
              rw [List.getD_eq_getElem?_getD, hj, List.getD_eq_getElem?_getD, List.getElem?_eq_getElem hjl] at e
              have e : x = left[jj] - row.getD jj 0 := e
              have := l8 _ (List.getElem_mem hjl)
              omega
            · have e := Hw.less55_sum left row r1 r3
              omega
            · rw [hl55] at kn7
              have hkn6 := s56 _ _ hkn5
              have hf7 : H7 f0 = some (.lst (ps.map V.ref)) := bt7 _ _ nkf.symm (s56 _ _ hf5)
              have up57 : ∀ b o, b ≠ kn → H5 b = some o → H7 b = some o := fun b o n e => bt7 b o n (s56 _ _ e)
              refine hid fun ng => ?_
              obtain ⟨dxr, lr, qs7, m1, m2, m3⟩ := mat7
              obtain ⟨aqs, a1, a2⟩ := ka5
              obtain ⟨kq, e1, e2⟩ := Paired.get a2 ham
              refine ng ?_
              clear ng
              have n5 : ∀ b xs, H5 b = some (.lst xs) → b ≠ kn := fun b xs e => ne_of e hkn5 (by intro z; cases z)
              have n5t : ∀ b xs, H5 b = some (.tup xs) → b ≠ kn := fun b xs e => ne_of e hkn5 (by intro z; cases z)
              refine ⟨_, rfl, .inl ⟨rfl, _, SqL.of hf7⟩, _, rfl, _, rfl, ac, _, _, _, rfl, rfl, SqL.of (up57 _ _ (n5 _ _ a1) a1), atI_nat (v := V.ref kq) (by rw [List.getElem?_map, e1]; rfl), _, rfl, kq, q, k0, row, rfl, up57 _ _ (n5 _ _ e2) e2, up57 _ _ (n5t _ _ hrow5) hrow5, by rw [hk0l, r1], by omega, hrow8, fun H8 s78 => ?_⟩
              refine ⟨_, rfl, pr, _, dxr, _, _, rfl, s78 _ _ m1, T.clMating, T.noMating_cost, ma_cost _ _, _, _, rfl, rfl, _, rfl, by show 1 ≤ sizeLine; decide, fun l9 hl9 => ?_⟩
              have s89 : Same H8 (upd H8 l9 (.lst [V.ref q])) := Same.upd hl9
              have hq7l : qs7.length ≤ 4 := by
                have e := Paired.length m3
                rw [List.length_map] at e
                have e2 := good7.2.mem
                rw [← Hw.all_allM ⟨[], 0, 0, [], [], 0⟩] at e2
                have e3 := (Hw.all55_shape _ _ _ _ e2).1
                rw [List.length_drop] at e3
                omega
              refine ⟨_, rfl, pr, _, dxr, _, _, rfl, s89 _ _ (s78 _ _ m1), T.clMating, T.noMating_rows, ma_rows _ _, l9, lr, _, _, rfl, rfl, upd_same, s89 _ _ (s78 _ _ m2), by rw [List.length_map]; exact line1000 (by show 1 + _ ≤ 1000; omega), fun l10 hl10 => ?_⟩
              have s910 : Same (upd H8 l9 (.lst [V.ref q])) (upd (upd H8 l9 (.lst [V.ref q])) l10 (.lst ([V.ref q] ++ qs7.map V.ref))) := Same.upd hl10
              generalize hH10 : upd (upd H8 l9 (.lst [V.ref q])) l10 (.lst ([V.ref q] ++ qs7.map V.ref)) = H10 at s910
              have hl10' : H10 l10 = some (.lst ([V.ref q] ++ qs7.map V.ref)) := by rw [← hH10]; exact upd_same
              have s710 := (s78.trans s89).trans s910
              intro x dx nx ndx nex
              refine ⟨x, dx, _, _, rfl, upd_same, fun H11 h11 k11 => ⟨rfl, ?_⟩⟩
              have s1011 : Same H10 H11 := Same.made nx ndx k11
              have s711 := s710.trans s1011
              have hf11 := s711 _ _ hf7
              have il : i < ws.length := (List.getElem?_eq_some_iff.mp hqi).1
              refine ⟨f0, _, _, rfl, rfl, hf11, by rw [List.length_map, hpl]; omega, ?_⟩
              have hq11 : H11 q = some (.tup ((castL row).map V.int)) := by rw [← nats_cast]; exact s711 _ _ (up57 _ _ (n5t _ _ hrow5) hrow5)
              have mat11 : MatAt t.cMating H11 x (wsum k0 row + cost7) (row :: rows7) := ⟨dx, l10, q :: qs7, h11, s1011 _ _ hl10', .cons hq11 (m3.same fun _ _ e => s711 _ _ e)⟩
              have old11 : ∀ (n : Nat) p, ps[n]? = some p → ∃ (row : List Nat) (cost : Int) (rows : List (List Nat)), (Km255.rows left s0)[n]? = some row ∧ MatAt t.cMating H11 p cost (row :: rows) ∧ cost = wsum k0 row + mcost (AC.drop (m + 1)) rows ∧ Hw.FL (mcost (AC.drop (m + 1))) (Hw.allM (sums.drop (m + 1)) (Hw.less55 left row)) rows := fun n p e => by
                refine hid fun ng => ?_
                obtain ⟨row, cost, rows, c1, c2, c3, c4⟩ := hps n p e
                refine ng ?_
                clear ng
                exact ⟨row, cost, rows, c1, ((c2.same s56).but hkn6 bt7).same s711, c3, c4⟩
              have ins11 : ∀ p ∈ ps, ∃ C dx fs, H11 p = some (.ins C dx fs) := fun p hp => by
                refine hid fun ng => ?_
                obtain ⟨n, hn⟩ := List.mem_iff_getElem?.mp hp
                obtain ⟨_, _, _, _, ⟨dx', _, _, c, _⟩, _⟩ := old11 n p hn
                refine ng ?_
                clear ng
                exact ⟨_, dx', _, c⟩
              refine ⟨⟨_, _, rfl⟩, fun b o n1 n2 e => ?_, ⟨kvs7, (kn7.same s711).push hf11 ins11⟩, ps ++ [x], by rw [upd_same, List.map_append]; rfl, by rw [List.length_append, hpl]; rfl, fun n p e => ?_⟩
              · rw [upd_ne n2]
                exact s711 _ _ (up57 _ _ n1 (b5 _ _ n1 n2 e))
              · by_cases hn : n < i
                · rw [List.getElem?_append_left (by rw [hpl]; exact hn)] at e
                  refine hid fun ng => ?_
                  obtain ⟨row2, cost2, rows2, c1, c2, c3, c4⟩ := old11 n p e
                  refine ng ?_
                  clear ng
                  exact ⟨row2, cost2, rows2, c1, c2.push (by simp) hf11 ins11, c3, c4⟩
                · have en : n = i := by
                    have := (List.getElem?_eq_some_iff.mp e).1
                    rw [List.length_append, hpl] at this
                    have : n < i + 1 := this
                    omega
                  subst en
                  rw [List.getElem?_append_right (by rw [hpl]; exact Nat.le_refl _), hpl, Nat.sub_self] at e
                  have e' : x = p := Option.some.inj e
                  subst e'
                  exact ⟨row, _, rows7, er2, mat11.push (by simp) hf11 ins11, by rw [good7.1], good7.2⟩
        · refine hid fun ng => ?_
          obtain ⟨⟨v6, v7, rfl⟩, b5, ⟨kvs5, kn5⟩, ps, hf5, hpl, hps⟩ := hI
          refine ng ?_
          clear ng
          rw [List.length_map, hwl] at hpl
          have hrne : 0 < (Km255.rows left s0).length := List.length_pos_iff.mpr (Hw.rows55_ne left s0 (by omega))
          have hkn5 := kn5.nd.at_
          have up5 : ∀ b o, b ≠ kn → H b = some o → H5 b = some o := fun b o n e => b5 b o n (fun z => by rw [z, hf0'] at e; cases e) (s03 _ _ e)
          have hlf5 : H5 lf = some (.tup (nats left)) := up5 _ _ (ne_of lf' hknx (by intro z; cases z)) lf'
          have ex : ∀ n : Nat, ∃ d : List Nat × Int × List (List Nat), n < (Km255.rows left s0).length → ∃ p, ps[n]? = some p ∧ (Km255.rows left s0)[n]? = some d.1 ∧ MatAt t.cMating H5 p d.2.1 (d.1 :: d.2.2) ∧ d.2.1 = wsum k0 d.1 + mcost (AC.drop (m + 1)) d.2.2 ∧ Hw.FL (mcost (AC.drop (m + 1))) (Hw.allM (sums.drop (m + 1)) (Hw.less55 left d.1)) d.2.2 := fun n => by
            by_cases hn : n < (Km255.rows left s0).length
            · have e : ps[n]? = some ps[n] := List.getElem?_eq_getElem (by omega)
              refine hid fun ng => ?_
              obtain ⟨row, cost, rows, c1, c2, c3, c4⟩ := hps n _ e
              refine ng ?_
              clear ng
              exact ⟨(row, cost, rows), fun _ => ⟨_, e, c1, c2, c3, c4⟩⟩
            · exact ⟨([], 0, []), fun q => absurd q hn⟩
          obtain ⟨g, hg⟩ := Classical.axiomOfChoice ex
          have key : ∀ (i : Nat) p, ps[i]? = some p → i < (Km255.rows left s0).length ∧ MatAt t.cMating H5 p (g i).2.1 ((g i).1 :: (g i).2.2) := fun i p e => by
            have hi : i < (Km255.rows left s0).length := by
              have := (List.getElem?_eq_some_iff.mp e).1
              omega
            refine hid fun ng => ?_
            obtain ⟨p', e', _, a1, _⟩ := hg i hi
            refine ng ?_
            clear ng
            rw [e] at e'
            have : p = p' := Option.some.inj e'
            subst this
            exact ⟨hi, a1⟩
          refine ⟨_, rfl, f0, _, (fun i => (g i).2.1), rfl, SqL.of hf5, by rw [List.length_map, hpl]; exact hrne, fun i y hy R hR => ?_, fun i y hy hmin => ?_⟩
          · refine hid fun ng => ?_
            obtain ⟨p, ep, rfl⟩ := refs_get hy
            obtain ⟨hi, dx, l, qs, a1, _⟩ := key i p ep
            refine ng ?_
            clear ng
            exact ⟨p, dx, _, _, rfl, a1, hR⟩
          · refine hid fun ng => ?_
            obtain ⟨p, ep, rfl⟩ := refs_get hy
            obtain ⟨hi, mat⟩ := key i p ep
            obtain ⟨_, _, hgi, _, hgc, hgf⟩ := hg i hi
            refine ng ?_
            clear ng
            have hll : (ps.map V.ref).length = (Km255.rows left s0).length := by rw [List.length_map, hpl]
            have good : GoodM AC sums m left (g i).2.1 ((g i).1 :: (g i).2.2) := by
              refine ⟨by rw [had, hgc]; rfl, ?_⟩
              rw [had, hsd, Hw.allM_cons, Hw.flatMap_range (Km255.rows left s0)]
              refine Hw.FL.flat (f := mcost (k0 :: AC.drop (m + 1))) (best := fun n => (g n).1 :: (g n).2.2) (L := List.range (Km255.rows left s0).length) (b := i) (Hw.FL.at_ (i := i) (List.getElem?_range hi) fun n y hy => ?_) (fun n hn => ?_)
              · have hn : n < (Km255.rows left s0).length := by
                  have := (List.getElem?_eq_some_iff.mp hy).1
                  rw [List.length_range] at this
                  exact this
                rw [List.getElem?_range hn] at hy
                have hy' : n = y := Option.some.inj hy
                subst hy'
                refine hid fun ng => ?_
                obtain ⟨_, _, _, _, hnc, _⟩ := hg n hn
                refine ng ?_
                clear ng
                have e := hmin n (by rw [hll]; exact hn)
                show wsum k0 (g i).1 + mcost (AC.drop (m + 1)) (g i).2.2 ≤ wsum k0 (g n).1 + mcost (AC.drop (m + 1)) (g n).2.2 ∧ (n < i → wsum k0 (g i).1 + mcost (AC.drop (m + 1)) (g i).2.2 < wsum k0 (g n).1 + mcost (AC.drop (m + 1)) (g n).2.2)
                rw [← hgc, ← hnc]
                exact e
              · have hn' := List.mem_range.mp hn
                refine hid fun ng => ?_
                obtain ⟨_, _, hni, _, _, hnf⟩ := hg n hn'
                refine ng ?_
                clear ng
                have eg : (Km255.rows left s0).getD n [] = (g n).1 := by rw [List.getD_eq_getElem?_getD, hni]; rfl
                rw [eg]
                exact Hw.FL.map (f := mcost (k0 :: AC.drop (m + 1))) (g := fun x => (g n).1 :: x) (Hw.FL.shift (wsum k0 (g n).1) hnf)
            refine ⟨_, rfl, _, rfl, _, rfl, by show 2 ≤ sizeLine; decide, fun b3 hb3 => ?_⟩
            have s56 : Same H5 (upd H5 b3 (.tup [.int (m : Nat), .ref lf])) := Same.upd hb3
            generalize hH6 : upd H5 b3 (.tup [.int (m : Nat), .ref lf]) = H6 at s56
            have hb3' : H6 b3 = some (.tup [.int (m : Nat), .ref lf]) := by rw [← hH6]; exact upd_same
            have hlf6 : H6 lf = some (.tup ((castL left).map V.int)) := by rw [← nats_cast]; exact s56 _ _ hlf5
            have kn6 := kn5.same s56
            have tk6 : TK H6 (((m : Nat) : Int), castL left) b3 := ⟨lf, hb3', hlf6⟩
            have few6 := kn6.few s4 f4
            refine ⟨kn, b3, kvs5, (((m : Nat) : Int), castL left), rfl, rfl, kn6.nd, tk6, Nat.le_trans few6 (by decide), ?_⟩
            have b67 : But kn H6 (upd H6 kn (.ext (NDf P w kn (putN kvs5 (((m : Nat) : Int), castL left) b3 (.ref p))))) := fun b o n e => by rw [upd_ne n]; exact e
            have nd7 := kn6.nd.put (v := V.ref p) tk6
            have kn7 : KN P w t.cMating (upd H6 kn (.ext (NDf P w kn (putN kvs5 (((m : Nat) : Int), castL left) b3 (.ref p))))) kn AC sums left.length (putN kvs5 (((m : Nat) : Int), castL left) b3 (.ref p)) := by
              refine ⟨nd7, fun pe hpe => ?_⟩
              rcases putN_mem hpe with z | ⟨z1, z2, _⟩
              · refine hid fun ng => ?_
                obtain ⟨m', left', a, cost, rows, d1, d2, d3, d4, d5, d6, d7⟩ := kn6.ent pe z
                refine ng ?_
                clear ng
                exact ⟨m', left', a, cost, rows, d1, d2, d3, d4, d5, d6.but kn6.nd.at_ b67, d7⟩
              · exact ⟨m, left, p, _, _, z1, z2, hm, rfl, l8, (mat.same s56).but kn6.nd.at_ b67, good⟩
            have hlf7 : (upd H6 kn (.ext (NDf P w kn (putN kvs5 (((m : Nat) : Int), castL left) b3 (.ref p))))) lf = some (.tup ((castL left).map V.int)) := b67 _ _ (ne_of hlf6 kn6.nd.at_ (by intro z; cases z)) hlf6
            refine ⟨_, rfl, _, rfl, _, rfl, by show 2 ≤ sizeLine; decide, fun b2 hb2 => ?_⟩
            have s78 : Same (upd H6 kn (.ext (NDf P w kn (putN kvs5 (((m : Nat) : Int), castL left) b3 (.ref p))))) (upd (upd H6 kn (.ext (NDf P w kn (putN kvs5 (((m : Nat) : Int), castL left) b3 (.ref p))))) b2 (.tup [.int (m : Nat), .ref lf])) := Same.upd hb2
            refine ⟨kn, b2, _, (((m : Nat) : Int), castL left), .ref p, rfl, rfl, (kn7.same s78).nd, ⟨lf, upd_same, s78 _ _ hlf7⟩, putN_get, ?_⟩
            refine hid fun ng => ?_
            obtain ⟨a, cost, rows, ea, mat8, good8⟩ := (kn7.same s78).get putN_get
            refine ng ?_
            clear ng
            injection ea with ea
            subst ea
            exact k p _ _ cost rows (fun b o n e => s78 _ _ (b67 _ _ n (s56 _ _ (up5 _ _ n e)))) (kn7.same s78) mat8 good8
end
end Hp
end
section
set_option Elab.async false
set_option linter.all false
set_option maxRecDepth 100000
namespace Hp
open PySem L2
noncomputable def spLM (C : Addr) : Sp := fun vs H Q _ => ∃ (ac om lf : Addr) (AC : List (List Int)) (sums left : List Nat), vs = [.ref ac, .ref om, .ref lf] ∧ LRows H ac AC ∧ H om = some (.tup (nats sums)) ∧ H lf = some (.tup (nats left)) ∧ sums.length ≤ 4 ∧ AC.length = sums.length ∧ (∀ r ∈ AC, r.length = left.length) ∧ 1 ≤ left.length ∧ left.length ≤ 4 ∧
  (∀ x ∈ left, x ≤ 8) ∧ (∀ x ∈ sums, x ≤ 8) ∧ left.sum = sums.sum ∧
  ∀ p H' cost rows, Same H H' → MatAt C H' p cost rows → GoodM AC sums 0 left cost rows → Q (.ref p) H'
noncomputable def spFi : Sp := fun vs H Q _ => ∃ (a : Addr) (b : V) (xs : List V), vs = [.ref a, b] ∧ Sq H a xs ∧ xs.length ≤ 4 ∧
  ∀ p H', Same H H' → H p = none → H' p = some (.lst (xs ++ List.replicate (4 - xs.length) b)) → Q (.ref p) H'
noncomputable def BrOf (M : Nat → Nat → Nat) (as hs br : List Nat) : Prop := ∃ ks : List Nat, ks.Perm as ∧ ks.Pairwise (fun x y => (hs.map (M x)).sum < (hs.map (M y)).sum ∨ ((hs.map (M x)).sum = (hs.map (M y)).sum ∧ x ≤ y)) ∧ br.Perm (ks.take 4) ∧ br.Pairwise (· ≤ ·)
noncomputable def spBr : Sp := fun vs H Q _ => ∃ (t a h : Addr) (rs : List Addr) (n : Nat) (M : Nat → Nat → Nat) (as hs : List Nat), vs = [.ref t, .ref a, .ref h] ∧ TabAt H t rs n M ∧ H a = some (.lst (nats as)) ∧ H h = some (.lst (nats hs)) ∧ (∀ j ∈ as, j < n) ∧ (∀ j ∈ hs, j < n) ∧ as.length ≤ 60 ∧ hs.length ≤ 60 ∧
  ∀ p H' br, Same H H' → H' p = some (.lst (nats br)) → BrOf M as hs br → Q (.ref p) H'
section
variable {P : Program} {w : World} {K : PySem.W.Frag} {mg : Str → Option Value} {base : Heap}
theorem scLM : FnScope ["across", "of_males", "of_females"] ["across", "of_males", "of_females"] (defScope sleast_mating) := ⟨rfl, rfl, rfl, by decide +kernel, rfl, by decide +kernel, by decide +kernel⟩
theorem ok_lm {t : Adr} (T : Top K mg t) : Ok P w K mg base 11 t.fleast_mating ["across", "of_males", "of_females"] (spLM t.cMating) := by
  refine hid fun ng => ?_
  obtain ⟨fd, F, bd⟩ := T.fnleast_mating
  refine ng ?_
  clear ng
  refine ⟨fd, bd, ?_⟩
  refine F.ok scLM (fun vs H Q E h => ?_) (fun cdv A outer s H vs Q E hr h => ?_)
  · refine hid fun ng => ?_
    obtain ⟨ac, om, lf, AC, sums, left, rfl, _⟩ := h
    refine ng ?_
    clear ng
    rfl
  · refine hid fun ng => ?_
    obtain ⟨ac, om, lf, AC, sums, left, rfl, ka, ho, hl, s4, al, ar, f1, f4, l8, s8, hsum, k⟩ := h
    obtain ⟨fdR, bR, GR⟩ := (ok_lr (P := P) (w := w) (base := base) T sums.length).lift (show sums.length + 6 ≤ 10 by omega)
    refine ng ?_
    clear ng
    refine ⟨_, pss_one (ps_ret (pe_call GR hr (by rfl) T.mgleast_rest T.kpleast_rest bR .nil pass0 (pa_cons (pv 0) (pa_cons (pv 1) (pa_cons pe_int (pa_cons (pv 2) (pa_cons pe_dnewN pa_nil))))))), ?_⟩
    refine ⟨_, rfl, _, rfl, _, rfl, fun kn hkn => ?_⟩
    have s1 : Same H (upd H kn (.ext (NDf P w kn []))) := Same.upd hkn
    refine ⟨ac, om, lf, kn, AC, sums, 0, left, [], rfl, ⟨ka.same s1, s1 _ _ ho, s1 _ _ hl, ⟨ND.new, fun p hp => (nomatch hp)⟩, by omega, s4, al, ar, f1, f4, l8, s8, hsum⟩, fun p H' kvs' cost rows b' kn' mat good => ?_⟩
    exact k p H' cost rows (fun b o e => b' b o (ne_of_none e hkn) (s1 _ _ e)) mat good
theorem scFi : FnScope ["values", "blank"] ["values", "blank"] (defScope sfilled_up) := ⟨rfl, rfl, rfl, by decide +kernel, rfl, by decide +kernel, by decide +kernel⟩
theorem ok_fi {t : Adr} (T : Top K mg t) : Ok P w K mg base 1 t.ffilled_up ["values", "blank"] spFi := by
  refine hid fun ng => ?_
  obtain ⟨fd, F, bd⟩ := T.fnfilled_up
  refine ng ?_
  clear ng
  refine ⟨fd, bd, ?_⟩
  obtain ⟨tm, hm⟩ := T.iMOST_OF_A_SEX
  refine F.ok scFi (fun vs H Q E h => ?_) (fun cdv A outer s H vs Q E hr h => ?_)
  · refine hid fun ng => ?_
    obtain ⟨a, b, xs, rfl, _⟩ := h
    refine ng ?_
    clear ng
    rfl
  · refine hid fun ng => ?_
    obtain ⟨a, b, xs, rfl, ha, h4, k⟩ := h
    refine ng ?_
    clear ng
    refine ⟨_, pss_one (ps_ret (pe_op op_cat (pe_callTy call_list_of (by rfl) T.blist boot_list6 (pa_cons (pv 0) pa_nil)) (pe_op op_rep (pe_lst (pa_cons (pv 1) pa_nil)) (pe_op op_sub (pe_glob (v := V.int 4) (by rfl) hm ⟨_, rfl⟩) (pe_callB call_len_seq (by rfl) T.blen PySem.boot_len (pa_cons (pv 0) pa_nil)))))), ?_⟩
    refine ⟨_, rfl, a, xs, rfl, ha.len, fun l1 hl1 => ?_⟩
    have s1 : Same H (upd H l1 (.lst xs)) := Same.upd hl1
    refine ⟨_, rfl, by show 1 ≤ sizeLine; decide, fun l2 hl2 => ?_⟩
    have s2 := s1.trans (Same.upd (o := HO.lst [b]) hl2)
    refine ⟨_, rfl, a, xs, rfl, (ha.same s2).len, _, _, rfl, rfl, l2, _, _, rfl, rfl, upd_same, ?_, ?_, ?_, fun l3 hl3 => ?_⟩
    · omega
    · omega
    · have : ((4 : Int) - ((xs.length : Nat) : Int)).toNat = 4 - xs.length := by omega
      rw [this]
      exact line1000 (by show 1 * (4 - xs.length) ≤ 1000; omega)
    · have s23 : Same (upd (upd H l1 (.lst xs)) l2 (.lst [b])) (upd (upd (upd H l1 (.lst xs)) l2 (.lst [b])) l3 (.lst (List.replicate ((4 : Int) - ((xs.length : Nat) : Int)).toNat [b]).flatten)) := Same.upd hl3
      have e1 : ((4 : Int) - ((xs.length : Nat) : Int)).toNat = 4 - xs.length := by omega
      refine ⟨l1, l3, _, _, rfl, rfl, s23 _ _ ((Same.upd hl2) _ _ upd_same), upd_same, ?_, fun p hp => ?_⟩
      · rw [e1, rep_one, List.length_replicate]
        exact line1000 (by omega)
      · refine k p _ ((s2.trans s23).trans (Same.upd hp)) ((s2.trans s23).free hp) ?_
        rw [upd_same, e1, rep_one]
theorem scBr : FnScope ["table", "animals", "herd", "ranked", "animal", "pair"] ["table", "animals", "herd"] (defScope sbreeders) := ⟨rfl, rfl, rfl, by decide +kernel, rfl, by decide +kernel, by decide +kernel⟩
noncomputable def pairIn (H : Hp) (q : Addr) : Int × Int := match H q with
  | some (.tup [.int a, .int b]) => (a, b)
  | _ => (0, 0)
theorem cut_four (xs : List V) : cutV xs none (some 4) = xs.take 4 := by
  unfold cutV
  rw [HT.sIx_none, List.drop_zero, Nat.sub_zero]
  have e := HT.sIx_nat xs.length xs.length 4
  rw [show (some (4 : Int)) = some ((4 : Nat) : Int) from rfl, e]
  by_cases h : 4 ≤ xs.length
  · rw [Nat.min_eq_left h]
  · rw [Nat.min_eq_right (by omega), List.take_of_length_le (Nat.le_refl _), List.take_of_length_le (by omega)]
theorem ok_br {t : Adr} (T : Top K mg t) : Ok P w K mg base 2 t.fbreeders ["table", "animals", "herd"] spBr := by
  refine hid fun ng => ?_
  obtain ⟨fd, F, bd⟩ := T.fnbreeders
  refine ng ?_
  clear ng
  refine ⟨fd, bd, ?_⟩
  refine hid fun ng => ?_
  obtain ⟨tm, hm⟩ := T.iMOST_OF_A_SEX
  obtain ⟨fdK, bK, GK⟩ := ok_ka (P := P) (w := w) (base := base) T
  refine ng ?_
  clear ng
  refine F.ok scBr (fun vs H Q E h => ?_) (fun cdv A outer s H vs Q E hr h => ?_)
  · refine hid fun ng => ?_
    obtain ⟨t, a, h, rs, n, M, as, hs, rfl, _⟩ := h
    refine ng ?_
    clear ng
    rfl
  · refine hid fun ng => ?_
    obtain ⟨ta, a, hh, rs, n, M, as, hs, rfl, TA, ha, hhs, has, hhn, la, lh, k⟩ := h
    refine ng ?_
    clear ng
    refine ⟨_, pss_cons (ps_set (i := 3) scBr.nd rfl (Or.inl rfl) (pe_callB cr_sortedP (by rfl) T.bsorted boot_sorted6 (pa_cons (pe_lc (own := [("animal", 4)]) rfl scBr.nd (pi_list (pv 1)) (blkOk_by (N := ["table", "animals", "herd", "ranked", "animal", "pair"]) (sc := defScope sbreeders) (by decide +kernel))
        (fun _ _ _ _ _ => pg_name (i := 4) scBr.nd rfl (Or.inl rfl)) (fun _ _ _ _ _ => pts_nil)
        (fun _ _ _ _ _ => pe_tup (pa_cons (pe_call GK hr (by rfl) T.mgkin_to_all T.kpkin_to_all bK .nil pass0 (pa_cons (pv 0) (pa_cons (pv 4) (pa_cons (pv 2) pa_nil)))) (pa_cons (pv 4) pa_nil)))) pa_nil)))
      (pss_one (ps_ret (pe_callB cr_sorted (by rfl) T.bsorted boot_sorted6 (pa_cons (pe_lc (own := [("pair", 5)]) rfl scBr.nd (pi_list (pe_slice sl_list (pv 3) po_none (po_some (pe_glob (v := V.int 4) (by rfl) hm ⟨_, rfl⟩)))) (blkOk_by (N := ["table", "animals", "herd", "ranked", "animal", "pair"]) (sc := defScope sbreeders) (by decide +kernel))
        (fun _ _ _ _ _ => pg_name (i := 5) scBr.nd rfl (Or.inl rfl)) (fun _ _ _ _ _ => pts_nil)
        (fun _ _ _ _ _ => pe_ix (r := rIxT K) ix_tup (pv 5) pe_int (fun _ _ => rfl))) pa_nil)))), ?_⟩
    refine ⟨_, rfl, a, rfl, ⟨_, SqL.of ha⟩, fun D hD => ?_⟩
    refine lcf_list (fun _ => true) (fun j y H => ∃ q, y = V.ref q ∧ q ≠ D ∧ H q = some (.tup [V.int (((hs.map (M (as.getD j 0))).sum : Nat) : Int), V.int ((as.getD j 0 : Nat) : Int)])) hD (SqL.of ha) (by rw [nats_len]; exact line1000 (by omega)) (fun i y H H' b h => by
        refine hid fun ng => ?_
        obtain ⟨q, e, n1, e2⟩ := h
        refine ng ?_
        clear ng
        exact ⟨q, e, n1, b _ _ n1 e2⟩) (fun j x H2 Q2 N hx s2 hacc0 hQ _ => ?_) (fun H2 acc s2 hacc hp => ?_)
    · refine hid fun ng => ?_
      obtain ⟨m, hm', rfl⟩ := nats_get hx
      refine ng ?_
      clear ng
      refine ⟨rfl, yes_go ?_⟩
      refine ⟨_, rfl, _, rfl, _, rfl, ta, hh, rs, n, M, m, hs, rfl, TA.same s2, has m (List.mem_of_getElem? hm'), s2 _ _ hhs, hhn, line1000 (by omega), fun H3 s3 => ⟨_, rfl, by show 2 ≤ sizeLine; decide, fun q hq => ?_⟩⟩
      refine hQ rfl _ _ (s3.trans (Same.upd hq)) ⟨q, rfl, fun z => ?_, ?_⟩
      · obtain ⟨acc, ha⟩ := hacc0
        rw [z, s3 _ _ ha] at hq
        cases hq
      · rw [upd_same, List.getD_eq_getElem?_getD, hm']
        rfl
    · rw [nats_len, filter_true] at hp
      refine hid fun ng => ?_
      obtain ⟨qs, rfl, hq⟩ := refs_of (n := as.length) (O := fun j => .tup [V.int (((hs.map (M (as.getD j 0))).sum : Nat) : Int), V.int ((as.getD j 0 : Nat) : Int)]) hp
      refine ng ?_
      clear ng
      have hql : qs.length = as.length := by
        have e := Paired.length hq
        rw [List.length_range] at e
        exact e.symm
      have hqk : ∀ (i : Nat) q, qs[i]? = some q → H2 q = some (.tup [V.int (((hs.map (M (as.getD i 0))).sum : Nat) : Int), V.int ((as.getD i 0 : Nat) : Int)]) ∧ i < as.length := fun i q e => by
        refine hid fun ng => ?_
        obtain ⟨i', e', _, e2⟩ := Paired.get' hq e
        refine ng ?_
        clear ng
        have hi : i < as.length := by rw [← hql]; exact (List.getElem?_eq_some_iff.mp e).1
        rw [List.getElem?_range hi] at e'
        have : i = i' := Option.some.inj e'
        subst this
        exact ⟨e2, hi⟩
      have hpi : ∀ q ∈ qs, ∃ x ∈ as, pairIn H2 q = ((((hs.map (M x)).sum : Nat) : Int), ((x : Nat) : Int)) ∧ H2 q = some (.tup [.int (pairIn H2 q).1, .int (pairIn H2 q).2]) := fun q hq => by
        refine hid fun ng => ?_
        obtain ⟨i, hi⟩ := List.mem_iff_getElem?.mp hq
        obtain ⟨e, hil⟩ := hqk i q hi
        refine ng ?_
        clear ng
        have ex : as.getD i 0 = as[i] := by rw [List.getD_eq_getElem?_getD, List.getElem?_eq_getElem hil]; rfl
        rw [ex] at e
        have ep : pairIn H2 q = ((((hs.map (M as[i])).sum : Nat) : Int), ((as[i] : Nat) : Int)) := by
          unfold pairIn
          rw [e]
        exact ⟨as[i], List.getElem_mem hil, ep, by rw [ep]; exact e⟩
      have hmapq : qs.map (fun q => (pairIn H2 q).2.toNat) = as := by
        refine List.ext_getElem? fun i => ?_
        rw [List.getElem?_map]
        by_cases hi : i < as.length
        · have e : qs[i]? = some qs[i] := List.getElem?_eq_getElem (by omega)
          have ex : as.getD i 0 = as[i] := by rw [List.getD_eq_getElem?_getD, List.getElem?_eq_getElem hi]; rfl
          have e2 := (hqk i _ e).1
          rw [ex] at e2
          rw [e, List.getElem?_eq_getElem hi]
          show some (pairIn H2 qs[i]).2.toNat = _
          unfold pairIn
          rw [e2]
          rfl
        · rw [List.getElem?_eq_none (by omega), List.getElem?_eq_none (by omega)]
          rfl
      refine ⟨D, qs, pairIn H2, rfl, SqL.of hacc, fun q hq => (hpi q hq).choose_spec.2.2, fun qs' p3 hperm hsrt hp3 => ?_⟩
      have s23 : Same H2 (upd H2 p3 (.lst (qs'.map V.ref))) := Same.upd hp3
      refine ⟨_, rfl, _, rfl, p3, _, rfl, SqL.of upd_same, fun p4 hp4 => ?_⟩
      rw [cut_four]
      have s34 : Same (upd H2 p3 (.lst (qs'.map V.ref))) (upd (upd H2 p3 (.lst (qs'.map V.ref))) p4 (.lst ((qs'.map V.ref).take 4))) := Same.upd hp4
      have s24 := s23.trans s34
      refine ⟨p4, rfl, ⟨_, SqL.of upd_same⟩, fun D2 hD2 => ?_⟩
      have etk : (qs'.map V.ref).take 4 = (qs'.take 4).map V.ref := by rw [List.map_take]
      refine lcf_list (xs := (qs'.map V.ref).take 4) (fun _ => true) (fun j y _ => ∃ z, ((qs'.take 4).map fun q => (pairIn H2 q).2)[j]? = some z ∧ y = V.int z) hD2 (SqL.of upd_same) (by rw [List.length_take]; exact line1000 (by omega)) (fun _ _ _ _ _ h => h) (fun j x H5 Q2 N hx s5 _ hQ _ => ?_) (fun H5 acc2 s5 hacc2 hp2 => ?_)
      · rw [etk] at hx
        refine hid fun ng => ?_
        obtain ⟨q, hqj, rfl⟩ := refs_get hx
        have hqm : q ∈ qs := hperm.mem_iff.mp (List.mem_of_mem_take (List.mem_of_getElem? hqj))
        obtain ⟨x, _, _, e⟩ := hpi q hqm
        refine ng ?_
        clear ng
        refine ⟨rfl, yes_go ?_⟩
        refine ⟨_, rfl, q, _, _, _, rfl, rfl, SqT.of (s5 _ _ (s24 _ _ e)), at_of (j := 1) rfl rfl, ?_⟩
        exact hQ rfl _ _ (Same.refl _) ⟨_, by rw [List.getElem?_map, hqj]; rfl, rfl⟩
      · have e := ints_of (H := H5) (by rw [List.length_map, etk, List.length_map]) hp2
        have e4 : ((qs'.take 4).map fun q => (pairIn H2 q).2).length ≤ 4 := by rw [List.length_map, List.length_take]; omega
        refine ⟨D2, _, rfl, SqL.of (by rw [hacc2, e]), by omega, fun ns p6 hns hnsp hp6 => ?_⟩
        -- back to natural numbers
        have hz : ∀ q ∈ qs, (((pairIn H2 q).2.toNat : Nat) : Int) = (pairIn H2 q).2 := fun q hq => by
          refine hid fun ng => ?_
          obtain ⟨x, _, e, _⟩ := hpi q hq
          refine ng ?_
          clear ng
          rw [e]
          rfl
        have hnn : ∀ z ∈ ns, ((z.toNat : Nat) : Int) = z := fun z hz' => by
          refine hid fun ng => ?_
          obtain ⟨q, hq, e⟩ := List.mem_map.mp (hns.mem_iff.mp hz')
          refine ng ?_
          clear ng
          have e : (pairIn H2 q).2 = z := e
          have := hz q (hperm.mem_iff.mp (List.mem_of_mem_take hq))
          rw [e] at this
          exact this
        have ens : ns.map V.int = nats (ns.map Int.toNat) := by
          unfold nats
          rw [List.map_map]
          refine List.map_congr_left fun z hz' => ?_
          show V.int z = V.int ((z.toNat : Nat) : Int)
          rw [hnn z hz']
        refine k p6 _ (ns.map Int.toNat) (((s2.trans s24).trans s5).trans (Same.upd hp6)) (by rw [upd_same, ens]) ⟨qs'.map fun q => (pairIn H2 q).2.toNat, ?_, ?_, ?_, ?_⟩
        · rw [← hmapq]
          exact hperm.map _
        · refine List.pairwise_map.mpr (List.Pairwise.imp_of_mem (fun {x y} hx hy h => ?_) hsrt)
          refine hid fun ng => ?_
          obtain ⟨a1, _, e1, _⟩ := hpi x (hperm.mem_iff.mp hx)
          obtain ⟨a2, _, e2, _⟩ := hpi y (hperm.mem_iff.mp hy)
          refine ng ?_
          clear ng
          rw [e1, e2] at h ⊢
          have h : (((hs.map (M a1)).sum : Nat) : Int) < (((hs.map (M a2)).sum : Nat) : Int) ∨ ((((hs.map (M a1)).sum : Nat) : Int) = (((hs.map (M a2)).sum : Nat) : Int) ∧ ((a1 : Nat) : Int) ≤ ((a2 : Nat) : Int)) := h
          show (hs.map (M a1)).sum < (hs.map (M a2)).sum ∨ ((hs.map (M a1)).sum = (hs.map (M a2)).sum ∧ a1 ≤ a2)
          omega
        · have q1 := hns.map Int.toNat
          rw [List.map_map] at q1
          rw [← List.map_take]
          exact q1
        · refine List.pairwise_map.mpr (List.Pairwise.imp_of_mem (fun {x y} hx hy h => ?_) hnsp)
          have h1 := hnn x hx
          have h2 := hnn y hy
          omega
end
end Hp
end
section
set_option Elab.async false
set_option linter.all false
set_option maxRecDepth 100000
namespace Hp
open PySem L2
noncomputable def rows4 (rows : List (List Nat)) : List Nat := (rows ++ List.replicate (4 - rows.length) []).flatMap fun r => Km256.four r 0
noncomputable def kinM (M : Nat → Nat → Nat) (as os : List Nat) : List (List Int) := as.map fun i => castL (os.map (M i))
noncomputable def PlanOf (M : Nat → Nat → Nat) (ms fs : List Nat) (y : Nat) (nums : List Int) : Prop := ∃ (si da r fw : List Nat) (v : Nat) (z cost : Int) (rows : List (List Nat)), BrOf M ms (ms ++ fs) si ∧ BrOf M fs (ms ++ fs) da ∧ (waysN da.length y)[v]? = some fw ∧
  z = tot (kinM M si si) (movesI (kinM M si da) (waysN da.length y)) [] (costsI (kinM M da da) (kinM M si da) (waysN da.length y) y) r v ∧
  Hw.FL (fun x => tot (kinM M si si) (movesI (kinM M si da) (waysN da.length y)) [] (costsI (kinM M da da) (kinM M si da) (waysN da.length y) y) x.1 x.2) (Hw.pairs si.length y (waysN da.length y).length) (r, v) ∧
  GoodM (kinM M si da) r 0 fw cost rows ∧
  nums = castL (Km256.four si 255 ++ Km256.four da 255 ++ Km256.four r 0 ++ Km256.four fw 0 ++ rows4 rows) ++ [z, cost]
theorem BrOf.mem {M : Nat → Nat → Nat} {as hs br : List Nat} (h : BrOf M as hs br) : ∀ x ∈ br, x ∈ as := fun x hx => by
  refine hid fun ng => ?_
  obtain ⟨ks, k1, _, k3, _⟩ := h
  refine ng ?_
  clear ng
  exact k1.mem_iff.mp (List.mem_of_mem_take (k3.mem_iff.mp hx))
theorem BrOf.len {M : Nat → Nat → Nat} {as hs br : List Nat} (h : BrOf M as hs br) : br.length = min 4 as.length := by
  refine hid fun ng => ?_
  obtain ⟨ks, k1, _, k3, _⟩ := h
  refine ng ?_
  clear ng
  rw [k3.length_eq, List.length_take, k1.length_eq]
theorem nats_four (l : List Nat) (x : Nat) : nats l ++ List.replicate (4 - (nats l).length) (V.int (x : Nat)) = nats (Km256.four l x) := by
  unfold Km256.four
  rw [← nats_append, nats_len]
  unfold nats
  rw [List.map_replicate]
theorem kinM_len (M : Nat → Nat → Nat) (as os : List Nat) : (kinM M as os).length = as.length := by
  unfold kinM
  rw [List.length_map]
theorem kinM_row {M : Nat → Nat → Nat} {as os : List Nat} {r : List Int} (h : r ∈ kinM M as os) : r.length = os.length := by
  unfold kinM at h
  refine hid fun ng => ?_
  obtain ⟨i, _, rfl⟩ := List.mem_map.mp h
  refine ng ?_
  clear ng
  unfold castL
  rw [List.length_map, List.length_map]
theorem sum_le_mem {l : List Nat} {x : Nat} (h : x ∈ l) : x ≤ l.sum := by
  induction l with
  | nil => exact (nomatch h)
  | cons a l ih =>
    rw [List.sum_cons]
    rcases List.mem_cons.mp h with q | q
    · omega
    · have := ih q
      omega
noncomputable def spPN : Sp := fun vs H Q _ => ∃ (t a b : Addr) (rs : List Addr) (n : Nat) (M : Nat → Nat → Nat) (ms fs : List Nat) (y : Nat), vs = [.ref t, .ref a, .ref b, .int (y : Nat)] ∧ TabAt H t rs n M ∧ H a = some (.lst (nats ms)) ∧ H b = some (.lst (nats fs)) ∧ (∀ j ∈ ms, j < n) ∧ (∀ j ∈ fs, j < n) ∧ ms ≠ [] ∧ fs ≠ [] ∧ ms.length + fs.length ≤ 60 ∧ y ≤ 8 ∧
  ∀ p H' nums, Same H H' → H' p = some (.lst (nums.map V.int)) → PlanOf M ms fs y nums → Q (.ref p) H'
section
variable {P : Program} {w : World} {K : PySem.W.Frag} {mg : Str → Option Value} {base : Heap}
theorem scPN : FnScope ["table", "males", "females", "young", "herd", "sires", "dams", "across", "share", "mating", "numbers", "row"] ["table", "males", "females", "young"] (defScope splan_numbers) := ⟨rfl, rfl, rfl, by decide +kernel, rfl, by decide +kernel, by decide +kernel⟩
theorem ok_pn {t : Adr} (T : Top K mg t) : Ok P w K mg base 12 t.fplan_numbers ["table", "males", "females", "young"] spPN := by
  refine hid fun ng => ?_
  obtain ⟨fd, F, bd⟩ := T.fnplan_numbers
  refine ng ?_
  clear ng
  refine ⟨fd, bd, ?_⟩
  refine hid fun ng => ?_
  obtain ⟨tn, hn⟩ := T.iNO_BREEDER
  obtain ⟨fdB, bB, GB⟩ := (ok_br (P := P) (w := w) (base := base) T).lift (show 2 ≤ 11 by decide)
  obtain ⟨fdK, bK, GK⟩ := (ok_kb (P := P) (w := w) (base := base) T).lift (show 1 ≤ 11 by decide)
  obtain ⟨fdS, bS, GS⟩ := (ok_ls (P := P) (w := w) (base := base) T).lift (show 9 ≤ 11 by decide)
  obtain ⟨fdM, bM, GM⟩ := ok_lm (P := P) (w := w) (base := base) T
  obtain ⟨fdF, bF, GF⟩ := (ok_fi (P := P) (w := w) (base := base) T).lift (show 1 ≤ 11 by decide)
  refine ng ?_
  clear ng
  refine F.ok scPN (fun vs H Q E h => ?_) (fun cdv A outer s H vs Q E hr h => ?_)
  · refine hid fun ng => ?_
    obtain ⟨t, a, b, rs, n, M, ms, fs, y, rfl, _⟩ := h
    refine ng ?_
    clear ng
    rfl
  · refine hid fun ng => ?_
    obtain ⟨ta, a, b, rs, n, M, ms, fs, y, rfl, TA, ha, hb, hms, hfs, nm, nf, h60, y8, k⟩ := h
    refine ng ?_
    clear ng
    refine ⟨_, pss_cons (ps_set (i := 4) scPN.nd rfl (Or.inl rfl) (pe_op op_cat (pv 1) (pv 2)))
      (pss_cons (ps_set (i := 5) scPN.nd rfl (Or.inl rfl) (pe_call GB hr (by rfl) T.mgbreeders T.kpbreeders bB .nil pass0 (pa_cons (pv 0) (pa_cons (pv 1) (pa_cons (pv 4) pa_nil)))))
      (pss_cons (ps_set (i := 6) scPN.nd rfl (Or.inl rfl) (pe_call GB hr (by rfl) T.mgbreeders T.kpbreeders bB .nil pass0 (pa_cons (pv 0) (pa_cons (pv 2) (pa_cons (pv 4) pa_nil)))))
      (pss_cons (ps_set (i := 7) scPN.nd rfl (Or.inl rfl) (pe_call GK hr (by rfl) T.mgkin_between T.kpkin_between bK .nil pass0 (pa_cons (pv 0) (pa_cons (pv 5) (pa_cons (pv 6) pa_nil)))))
      (pss_cons (ps_set (i := 8) scPN.nd rfl (Or.inl rfl) (pe_call GS hr (by rfl) T.mgleast_share T.kpleast_share bS .nil pass0 (pa_cons (pe_call GK hr (by rfl) T.mgkin_between T.kpkin_between bK .nil pass0 (pa_cons (pv 0) (pa_cons (pv 5) (pa_cons (pv 5) pa_nil))))
        (pa_cons (pe_call GK hr (by rfl) T.mgkin_between T.kpkin_between bK .nil pass0 (pa_cons (pv 0) (pa_cons (pv 6) (pa_cons (pv 6) pa_nil)))) (pa_cons (pv 7) (pa_cons (pv 3) pa_nil))))))
      (pss_cons (ps_set (i := 9) scPN.nd rfl (Or.inl rfl) (pe_call GM hr (by rfl) T.mgleast_mating T.kpleast_mating bM .nil pass0 (pa_cons (pv 7) (pa_cons (pe_fld (pv 8) rfl) (pa_cons (pe_fld (pv 8) rfl) pa_nil)))))
      (pss_cons (ps_set (i := 10) scPN.nd rfl (Or.inl rfl) (pe_op op_cat (pe_call GF hr (by rfl) T.mgfilled_up T.kpfilled_up bF .nil pass0 (pa_cons (pv 5) (pa_cons (pe_glob (v := V.int 255) (by rfl) hn ⟨_, rfl⟩) pa_nil))) (pe_call GF hr (by rfl) T.mgfilled_up T.kpfilled_up bF .nil pass0 (pa_cons (pv 6) (pa_cons (pe_glob (v := V.int 255) (by rfl) hn ⟨_, rfl⟩) pa_nil)))))
      (pss_cons (ps_expr (pe_bm PySem.F.plainAttrs_list PySem.F.slot_list_extend PySem.F.type_list_extend mt_extend (pv 10) (pa_cons (pe_op op_cat (pe_call GF hr (by rfl) T.mgfilled_up T.kpfilled_up bF .nil pass0 (pa_cons (pe_fld (pv 8) rfl) (pa_cons pe_int pa_nil))) (pe_call GF hr (by rfl) T.mgfilled_up T.kpfilled_up bF .nil pass0 (pa_cons (pe_fld (pv 8) rfl) (pa_cons pe_int pa_nil)))) pa_nil)))
      (pss_cons (ps_for PassesOwn.never rfl (pi_list (pe_call GF hr (by rfl) T.mgfilled_up T.kpfilled_up bF .nil pass0 (pa_cons (pe_fld (pv 9) rfl) (pa_cons (pe_tup pa_nil) pa_nil)))) (pg_name (i := 11) scPN.nd rfl (Or.inl rfl))
        (pss_one (ps_expr (pe_bm PySem.F.plainAttrs_list PySem.F.slot_list_extend PySem.F.type_list_extend mt_extend (pv 10) (pa_cons (pe_call GF hr (by rfl) T.mgfilled_up T.kpfilled_up bF .nil pass0 (pa_cons (pv 11) (pa_cons pe_int pa_nil))) pa_nil)))))
      (pss_one (ps_ret (pe_op op_cat (pv 10) (pe_lst (pa_cons (pe_fld (pv 8) rfl) (pa_cons (pe_fld (pv 9) rfl) pa_nil)))))))))))))), ?_⟩
    refine ⟨_, rfl, _, rfl, a, b, _, _, rfl, rfl, ha, hb, by rw [nats_len, nats_len]; exact line1000 (by omega), fun p1 hp1 => ?_⟩
    rw [nats_append]
    have s1 : Same H (upd H p1 (.lst (nats (ms ++ fs)))) := Same.upd hp1
    generalize hH1 : upd H p1 (.lst (nats (ms ++ fs))) = H1 at s1
    have hh1 : H1 p1 = some (.lst (nats (ms ++ fs))) := by rw [← hH1]; exact upd_same
    have hmf : ∀ j ∈ ms ++ fs, j < n := fun j hj => (List.mem_append.mp hj).elim (hms j) (hfs j)
    have hl60 : (ms ++ fs).length ≤ 60 := by rw [List.length_append]; exact h60
    refine ⟨_, rfl, _, rfl, _, rfl, ta, a, p1, rs, n, M, ms, ms ++ fs, rfl, TA.same s1, s1 _ _ ha, hh1, hms, hmf, by omega, hl60, fun p2 H2 si s12 hsi bsi => ?_⟩
    have s2 := s1.trans s12
    refine ⟨_, rfl, _, rfl, _, rfl, ta, b, p1, rs, n, M, fs, ms ++ fs, rfl, TA.same s2, s2 _ _ hb, s12 _ _ hh1, hfs, hmf, by omega, hl60, fun p3 H3 da s23 hda bda => ?_⟩
    have s3 := s2.trans s23
    have hsn : ∀ j ∈ si, j < n := fun j hj => hms j (bsi.mem j hj)
    have hdn : ∀ j ∈ da, j < n := fun j hj => hfs j (bda.mem j hj)
    have msp : 0 < ms.length := List.length_pos_iff.mpr nm
    have fsp : 0 < fs.length := List.length_pos_iff.mpr nf
    have lsi := bsi.len
    have lda := bda.len
    refine ⟨_, rfl, _, rfl, _, rfl, ta, p2, p3, rs, n, M, si, da, rfl, TA.same s3, s23 _ _ hsi, hda, hsn, hdn, by omega, by omega, fun p4 H4 s34 hac => ?_⟩
    have s4 := s3.trans s34
    have hac : LRows H4 p4 (kinM M si da) := hac
    refine ⟨_, rfl, _, rfl, _, rfl, ta, p2, p2, rs, n, M, si, si, rfl, TA.same s4, s34 _ _ (s23 _ _ hsi), s34 _ _ (s23 _ _ hsi), hsn, hsn, by omega, by omega, fun p5 H5 s45 hmm => ?_⟩
    have s5 := s4.trans s45
    have hmm : LRows H5 p5 (kinM M si si) := hmm
    refine ⟨_, rfl, _, rfl, _, rfl, ta, p3, p3, rs, n, M, da, da, rfl, TA.same s5, s45 _ _ (s34 _ _ hda), s45 _ _ (s34 _ _ hda), hdn, hdn, by omega, by omega, fun p6 H6 s56 hff => ?_⟩
    have s6 := s5.trans s56
    have hff : LRows H6 p6 (kinM M da da) := hff
    refine ⟨_, rfl, _, rfl, p5, p6, p4, kinM M si si, kinM M da da, kinM M si da, y, rfl, ⟨hmm.same s56, hff, hac.same (s45.trans s56), by rw [kinM_len]; omega, by rw [kinM_len]; omega, by rw [kinM_len]; omega, by rw [kinM_len]; omega, fun r hr => by rw [kinM_row hr, kinM_len], fun r hr => by rw [kinM_row hr, kinM_len], by rw [kinM_len, kinM_len], fun r hr => by rw [kinM_row hr, kinM_len], y8⟩, fun p7 dx7 cm cf H7 r fw v z s67 h7 hcm hcf hv hz hfl => ?_⟩
    rw [kinM_len] at hv hz
    rw [kinM_len, kinM_len] at hfl
    have s7 := s6.trans s67
    refine hid fun ng => ?_
    obtain ⟨wm1, wm2, wm3⟩ := waysN_mem (List.mem_of_getElem? hv)
    refine ng ?_
    clear ng
    obtain ⟨rm1, rm2⟩ : r.length = si.length ∧ r.sum = y := by
      refine hid fun ng => ?_
      obtain ⟨r', hr', hm⟩ := List.mem_flatMap.mp (show (r, v) ∈ (Km254.rows si.length y).flatMap _ from hfl.mem)
      obtain ⟨v', _, e⟩ := List.mem_map.mp hm
      refine ng ?_
      clear ng
      injection e with e1 _
      subst e1
      exact (Hw.rows_mem _ _ _).mp hr'
    refine ⟨_, rfl, _, rfl, p7, _, dx7, _, _, rfl, h7, T.clShare, T.noShare_of_males, sh_males _ _ _, _, rfl, p7, _, dx7, _, _, rfl, h7, T.clShare, T.noShare_of_females, sh_females _ _ _, p4, cm, cf, kinM M si da, r, fw, rfl, hac.same ((s45.trans s56).trans s67), hcm, hcf, by omega, by rw [kinM_len, rm1], fun q hq => by rw [kinM_row hq, wm1], by omega, by omega, fun x hx => Nat.le_trans (wm3 x hx) y8, fun x hx => by have := sum_le_mem hx; omega, by omega, fun p8 H8 cost rows s78 mat good => ?_⟩
    have s8 := s7.trans s78
    have hrl : rows.length = si.length ∧ ∀ q ∈ rows, q.length = da.length := by
      have e := good.2.mem
      rw [← Hw.all_allM ⟨[], 0, 0, [], [], 0⟩] at e
      obtain ⟨z1, z2⟩ := Hw.all55_shape _ _ _ _ e
      exact ⟨by rw [z1, List.drop_zero, rm1], fun q hq => by rw [z2 q hq, wm1]⟩
    refine hid fun ng => ?_
    obtain ⟨dx8, lr, qs, m1, m2, m3⟩ := mat
    refine ng ?_
    clear ng
    have hsi8 : H8 p2 = some (.lst (nats si)) := s78 _ _ (s67 _ _ (s56 _ _ (s45 _ _ (s34 _ _ (s23 _ _ hsi)))))
    have hda8 : H8 p3 = some (.lst (nats da)) := s78 _ _ (s67 _ _ (s56 _ _ (s45 _ _ (s34 _ _ hda))))
    have h78 := s78 _ _ h7
    refine ⟨_, rfl, p2, _, _, rfl, .inl hsi8, by rw [nats_len]; omega, fun p9 H9 s89 hp9 h9 => ?_⟩
    have h9 : H9 p9 = some (.lst (nats (Km256.four si 255))) := by rw [h9]; exact congrArg (fun l => some (HO.lst l)) (nats_four si 255)
    refine ⟨_, rfl, p3, _, _, rfl, .inl (s89 _ _ hda8), by rw [nats_len]; omega, fun p10 H10 s910 hp10 h10 => ?_⟩
    have h10 : H10 p10 = some (.lst (nats (Km256.four da 255))) := by rw [h10]; exact congrArg (fun l => some (HO.lst l)) (nats_four da 255)
    have s810 := s89.trans s910
    have fsi : (Km256.four si 255).length = 4 := Hw.four_len 255 (by omega)
    have fda : (Km256.four da 255).length = 4 := Hw.four_len 255 (by omega)
    have fr : (Km256.four r 0).length = 4 := Hw.four_len 0 (by omega)
    have ffw : (Km256.four fw 0).length = 4 := Hw.four_len 0 (by omega)
    refine ⟨p9, p10, _, _, rfl, rfl, s910 _ _ h9, h10, by rw [nats_len, nats_len, fsi, fda]; decide, fun pn hpn => ?_⟩
    rw [nats_append]
    have s1011 : Same H10 (upd H10 pn (.lst (nats (Km256.four si 255 ++ Km256.four da 255)))) := Same.upd hpn
    generalize hH11 : upd H10 pn (.lst (nats (Km256.four si 255 ++ Km256.four da 255))) = H11 at s1011
    have h11 : H11 pn = some (.lst (nats (Km256.four si 255 ++ Km256.four da 255))) := by rw [← hH11]; exact upd_same
    have s811 := s810.trans s1011
    have hpn8 : H8 pn = none := s810.free hpn
    have h711 := s811 _ _ h78
    refine ⟨_, rfl, .inl ⟨rfl, _, SqL.of h11⟩, _, rfl, p7, _, dx7, _, _, rfl, h711, T.clShare, T.noShare_of_males, sh_males _ _ _, cm, _, _, rfl, .inr (s811 _ _ (s78 _ _ hcm)), by rw [nats_len]; omega, fun p12 H12 s1112 hp12 h12 => ?_⟩
    have h12 : H12 p12 = some (.lst (nats (Km256.four r 0))) := by rw [h12]; exact congrArg (fun l => some (HO.lst l)) (nats_four r 0)
    refine ⟨_, rfl, p7, _, dx7, _, _, rfl, s1112 _ _ h711, T.clShare, T.noShare_of_females, sh_females _ _ _, cf, _, _, rfl, .inr (s1112 _ _ (s811 _ _ (s78 _ _ hcf))), by rw [nats_len]; omega, fun p13 H13 s1213 hp13 h13 => ?_⟩
    have h13 : H13 p13 = some (.lst (nats (Km256.four fw 0))) := by rw [h13]; exact congrArg (fun l => some (HO.lst l)) (nats_four fw 0)
    refine ⟨p12, p13, _, _, rfl, rfl, s1213 _ _ h12, h13, by rw [nats_len, nats_len, fr, ffw]; decide, fun p14 hp14 => ?_⟩
    rw [nats_append]
    have s1314 : Same H13 (upd H13 p14 (.lst (nats (Km256.four r 0 ++ Km256.four fw 0)))) := Same.upd hp14
    generalize hH14 : upd H13 p14 (.lst (nats (Km256.four r 0 ++ Km256.four fw 0))) = H14 at s1314
    have h14 : H14 p14 = some (.lst (nats (Km256.four r 0 ++ Km256.four fw 0))) := by rw [← hH14]; exact upd_same
    have s1114 := (s1112.trans s1213).trans s1314
    have s814 := s811.trans s1114
    refine ⟨pn, p14, _, _, rfl, rfl, s1114 _ _ h11, h14, by rw [nats_len, nats_len, List.length_append, List.length_append, fsi, fda, fr, ffw]; decide, ?_⟩
    rw [nats_append]
    have eb : Km256.four si 255 ++ Km256.four da 255 ++ (Km256.four r 0 ++ Km256.four fw 0) = Km256.four si 255 ++ Km256.four da 255 ++ Km256.four r 0 ++ Km256.four fw 0 := by simp only [List.append_assoc]
    rw [eb]
    generalize hB : Km256.four si 255 ++ Km256.four da 255 ++ Km256.four r 0 ++ Km256.four fw 0 = B
    have hBl : B.length = 16 := by
      rw [← hB]
      simp only [List.length_append, fsi, fda, fr, ffw]
    have s815 : Same H8 (upd H14 pn (.lst (nats B))) := s814.upd' hpn8
    generalize hH15 : upd H14 pn (.lst (nats B)) = H15 at s815
    have h15 : H15 pn = some (.lst (nats B)) := by rw [← hH15]; exact upd_same
    have hql : qs.length = rows.length := by rw [← Paired.length m3, List.length_map]
    refine ⟨_, rfl, p8, _, dx8, _, _, rfl, s815 _ _ m1, T.clMating, T.noMating_rows, ma_rows _ _, Nat.zero_le _, fun e16 he16 => ?_⟩
    have s1516 : Same H15 (upd H15 e16 (.tup [])) := Same.upd he16
    generalize hH16 : upd H15 e16 (.tup []) = H16 at s1516
    have h16 : H16 e16 = some (.tup []) := by rw [← hH16]; exact upd_same
    have s816 := s815.trans s1516
    refine ⟨lr, _, _, rfl, .inl (s816 _ _ m2), by rw [List.length_map]; omega, fun p17 H17 s1617 hp17 h17 => ?_⟩
    have s817 := s816.trans s1617
    have hn17 := s1617 _ _ (s1516 _ _ h15)
    have npn : p17 ≠ pn := fun z => by
      rw [z, s1516 _ _ h15] at hp17
      cases hp17
    have eit : qs.map V.ref ++ List.replicate (4 - (qs.map V.ref).length) (V.ref e16) = (qs ++ List.replicate (4 - rows.length) e16).map V.ref := by rw [List.map_append, List.map_replicate, List.length_map, hql]
    rw [eit] at h17
    have hit : TupL H17 ((rows ++ List.replicate (4 - rows.length) []).map castL) (qs ++ List.replicate (4 - rows.length) e16) := by
      rw [List.map_append]
      refine Paired.append' (m3.same fun _ _ e => s817 _ _ e) ?_
      rw [List.map_replicate]
      have gen : ∀ c : Nat, TupL H17 (List.replicate c (castL [])) (List.replicate c e16) := by
        intro c
        induction c with
        | zero => exact .nil
        | succ c ih =>
          rw [List.replicate_succ, List.replicate_succ]
          exact .cons (s1617 _ _ h16) ih
      exact gen _
    have hrw : ∀ q ∈ rows ++ List.replicate (4 - rows.length) ([] : List Nat), q.length ≤ 4 := fun q hq => by
      rcases List.mem_append.mp hq with z | z
      · rw [hrl.2 q z]; omega
      · rw [(List.mem_replicate.mp z).2]; exact Nat.zero_le _
    have hl4 : (rows ++ List.replicate (4 - rows.length) ([] : List Nat)).length = 4 := by
      rw [List.length_append, List.length_replicate]
      omega
    generalize hI : rows ++ List.replicate (4 - rows.length) ([] : List Nat) = R4 at hit hrw hl4
    generalize hJ : qs ++ List.replicate (4 - rows.length) e16 = Q4 at h17 hit
    have hQl : Q4.length = 4 := by rw [← Paired.length hit, List.length_map, hl4]
    refine ⟨p17, rfl, ⟨_, SqL.of h17⟩, ?_⟩
    have flen : ∀ i, ((R4.take i).flatMap fun r => Km256.four r 0).length ≤ 16 := fun i => by
      have gen : ∀ l : List (List Nat), (∀ q ∈ l, q.length ≤ 4) → (l.flatMap fun r => Km256.four r 0).length = 4 * l.length := by
        intro l
        induction l with
        | nil => intro _; rfl
        | cons x l ih =>
          intro h
          rw [List.flatMap_cons, List.length_append, ih (fun q hq => h q (List.mem_cons_of_mem _ hq)), Hw.four_len 0 (h x (List.mem_cons_self ..)), List.length_cons]
          omega
      rw [gen _ fun q hq => hrw q (List.mem_of_mem_take hq), List.length_take]
      omega
    refine for_list (xs := Q4.map V.ref) (fun i σ H18 => (∃ v11, σ = [some (.ref ta), some (.ref a), some (.ref b), some (.int (y : Nat)), some (.ref p1), some (.ref p2), some (.ref p3), some (.ref p4), some (.ref p7), some (.ref p8), some (.ref pn), v11]) ∧ (∀ b o, b ≠ pn → H17 b = some o → H18 b = some o) ∧
        H18 pn = some (.lst (nats (B ++ (R4.take i).flatMap fun r => Km256.four r 0)))) ⟨⟨none, rfl⟩, fun b o _ e => e, ?_⟩ (fun i σ H18 _ hI => SqL.of (hI.2.1 _ _ npn h17)) (fun i x σ H18 hx hI => ?_) (fun σ H18 hI => ?_)
    · rw [hn17, List.take_zero, List.flatMap_nil, List.append_nil]
    · refine hid fun ng => ?_
      obtain ⟨⟨v11, rfl⟩, b18, h18⟩ := hI
      obtain ⟨q, hqi, rfl⟩ := refs_get hx
      obtain ⟨row', er, hrow⟩ := Paired.get' hit hqi
      refine ng ?_
      clear ng
      rw [List.getElem?_map] at er
      cases er2 : R4[i]? with
      | none => rw [er2] at er; cases er
      | some row =>
        rw [er2] at er
        have er3 : castL row = row' := Option.some.inj er
        subst er3
        have hq18 : H18 q = some (.tup (nats row)) := by
          rw [nats_cast]
          exact b18 _ _ (ne_of hrow hn17 (by intro z; cases z)) hrow
        have hr4 := hrw row (List.mem_of_getElem? er2)
        have hf4 := flen i
        refine ⟨_, rfl, .inl ⟨rfl, _, SqL.of h18⟩, _, rfl, q, _, _, rfl, .inr hq18, by rw [nats_len]; exact hr4, fun p19 H19 s1819 hp19 h19 => ?_⟩
        have h19 : H19 p19 = some (.lst (nats (Km256.four row 0))) := by rw [h19]; exact congrArg (fun l => some (HO.lst l)) (nats_four row 0)
        refine ⟨pn, p19, _, _, rfl, rfl, s1819 _ _ h18, h19, by rw [nats_len, nats_len, List.length_append, hBl, Hw.four_len 0 hr4]; exact line1000 (by omega), ⟨_, rfl⟩, fun b o nb e => ?_, ?_⟩
        · rw [upd_ne nb]
          exact s1819 _ _ (b18 _ _ nb e)
        · have e1 : ((some row).toList.flatMap fun r => Km256.four r 0) = Km256.four row 0 := by
            show Km256.four row 0 ++ [] = _
            rw [List.append_nil]
          rw [upd_same, nats_append, List.take_add_one, er2, List.flatMap_append, e1, List.append_assoc]
    · refine hid fun ng => ?_
      obtain ⟨⟨v11, rfl⟩, b18, h18⟩ := hI
      refine ng ?_
      clear ng
      rw [List.length_map, hQl, List.take_of_length_le (by omega)] at h18
      have n7 : p7 ≠ pn := ne_of_none (h78) hpn8
      have n8 : p8 ≠ pn := ne_of_none m1 hpn8
      have h718 := b18 _ _ n7 (s817 _ _ h78)
      have h818 := b18 _ _ n8 (s817 _ _ m1)
      refine ⟨_, rfl, _, rfl, p7, _, dx7, _, _, rfl, h718, T.clShare, T.noShare_akin, sh_akin _ _ _, _, rfl, p8, _, dx8, _, _, rfl, h818, T.clMating, T.noMating_cost, ma_cost _ _, by show 2 ≤ sizeLine; decide, fun l20 hl20 => ?_⟩
      have s1820 : Same H18 (upd H18 l20 (.lst [V.int z, V.int cost])) := Same.upd hl20
      have f16 := flen 4
      rw [List.take_of_length_le (by omega)] at f16
      refine ⟨pn, l20, _, _, rfl, rfl, s1820 _ _ h18, upd_same, by rw [nats_len, List.length_append, hBl]; exact line1000 (by show _ + 2 ≤ 1000; omega), fun p21 hp21 => ?_⟩
      have s018 : Same H H18 := fun bb o e => b18 bb o (fun zz => by rw [zz] at e; rw [s8 _ _ e] at hpn8; cases hpn8) (s817 _ _ (s8 _ _ e))
      refine k p21 _ (castL (Km256.four si 255 ++ Km256.four da 255 ++ Km256.four r 0 ++ Km256.four fw 0 ++ rows4 rows) ++ [z, cost]) ((s018.trans s1820).trans (Same.upd hp21)) ?_ ⟨si, da, r, fw, v, z, cost, rows, bsi, bda, hv, hz, hfl, good, rfl⟩
      rw [upd_same, List.map_append, ← nats_cast, hB]
      unfold rows4
      rw [hI]
      rfl
end
end Hp
end
section
set_option Elab.async false
set_option linter.all false
set_option maxRecDepth 100000
namespace Hp
open Hw
theorem wsum_map (h : Nat → Int) : ∀ (as cs : List Nat), wsum (as.map h) cs = isum (as.zip cs) fun p => h p.1 * ((p.2 : Nat) : Int)
  | [], _ => by
    unfold wsum
    rw [List.map_nil, List.zipWith_nil_left, List.zip_nil_left]
    rfl
  | _ :: _, [] => by
    unfold wsum castL
    rw [List.map_nil, List.zipWith_nil_right, List.zip_nil_right]
    rfl
  | a :: as, c :: cs => by
    have ih := wsum_map h as cs
    unfold wsum castL at ih ⊢
    rw [List.map_cons, List.map_cons, List.zipWith_cons_cons, List.sum_cons, List.zip_cons_cons, isum_cons, ih]
theorem wsum_row (M : Nat → Nat) (os cs : List Nat) : wsum (castL (os.map M)) cs = isum (os.zip cs) fun p => ((M p.1 : Nat) : Int) * ((p.2 : Nat) : Int) := by
  unfold castL
  rw [List.map_map]
  exact wsum_map (fun j => ((M j : Nat) : Int)) os cs
theorem kaI_eq (M : Nat → Nat → Nat) (as cs : List Nat) : kaI (kinM M as as) cs = isum (as.zip cs) fun p => (isum (as.zip cs) fun q => ((M p.1 q.1 : Nat) : Int) * ((q.2 : Nat) : Int)) * ((p.2 : Nat) : Int) := by
  unfold kaI kinM
  rw [List.map_map, wsum_map]
  exact isum_congr fun p _ => by
    show wsum (castL (as.map (M p.1))) cs * _ = _
    rw [wsum_row]
theorem addV_get {xs ys : List Int} {z : Int} {v : Nat} (hv : v < xs.length) (hl : xs.length = ys.length) : (addV xs z ys).getD v 0 = xs.getD v 0 + z * ys.getD v 0 := by
  have hy : v < ys.length := by omega
  unfold addV
  rw [List.getD_eq_getElem?_getD, List.getElem?_zipWith, List.getD_eq_getElem?_getD, List.getD_eq_getElem?_getD, List.getElem?_eq_getElem hv, List.getElem?_eq_getElem hy]
  rfl
theorem tot_eq (MK : List (List Int)) : ∀ (ms : List (List Int)) (counts : List Nat) (costs : List Int) (r : List Nat) (v : Nat), r.length = ms.length + 1 → v < costs.length → (∀ m ∈ ms, m.length = costs.length) →
    tot MK ms counts costs r v = costs.getD v 0 + (List.zipWith (fun (x : Nat) (m : List Int) => (x : Int) * m.getD v 0) r ms).sum + kaI MK (counts ++ r)
  | [], counts, costs, r, v, _, _, _ => by
    rw [List.zipWith_nil_right]
    show costs.getD v 0 + kaI MK (counts ++ r) = costs.getD v 0 + 0 + _
    omega
  | mv :: ms, counts, costs, r, v, hr, hv, hw => by
    cases r with
    | nil => simp at hr
    | cons x r =>
      have hm := hw mv (List.mem_cons_self ..)
      show tot MK ms (counts ++ [x]) (addV costs (x : Nat) mv) r v = _
      rw [tot_eq MK ms _ _ r v (by simpa using hr) (by rw [addV_len _ hm.symm]; exact hv) (fun m h => by rw [addV_len _ hm.symm]; exact hw m (List.mem_cons_of_mem _ h)), addV_get hv hm.symm, List.zipWith_cons_cons, List.sum_cons, List.append_assoc]
      show _ + (x : Int) * mv.getD v 0 + _ + _ = _ + ((x : Int) * mv.getD v 0 + _) + _
      have e : counts ++ ([x] ++ r) = counts ++ x :: r := rfl
      rw [e]
      omega
theorem zip_sum : ∀ (s r : List Nat), s.length = r.length → isum (s.zip r) (fun p => ((p.2 : Nat) : Int)) = ((r.sum : Nat) : Int)
  | [], [], _ => rfl
  | x :: s, y :: r, h => by
    rw [List.zip_cons_cons, isum_cons, zip_sum s r (by simpa using h), List.sum_cons]
    show ((y : Nat) : Int) + _ = _
    omega
  | [], _ :: _, h => by simp at h
  | _ :: _, [], h => by simp at h
theorem pull_get {row : List Int} {ways : List (List Nat)} {v : Nat} {u : List Nat} (hu : ways[v]? = some u) : (pullI row ways).getD v 0 = 2 * wsum row u := by
  unfold pullI
  rw [List.getD_eq_getElem?_getD, List.getElem?_map, hu]
  rfl
theorem pull_len (row : List Int) (ways : List (List Nat)) : (pullI row ways).length = ways.length := by
  unfold pullI
  rw [List.length_map]
theorem moves_sum {M : Nat → Nat → Nat} {da : List Nat} {ways : List (List Nat)} {v : Nat} {u : List Nat} (hu : ways[v]? = some u) (lastL : List Int) (hl : lastL.length = ways.length) : ∀ (s0 r0 : List Nat) (rl : Nat), s0.length = r0.length →
    (List.zipWith (fun (x : Nat) (m : List Int) => (x : Int) * m.getD v 0) (r0 ++ [rl]) (s0.map fun i => addV (pullI (castL (da.map (M i))) ways) (-1) lastL)).sum
      = isum (s0.zip r0) fun p => ((p.2 : Nat) : Int) * (2 * wsum (castL (da.map (M p.1))) u - lastL.getD v 0)
  | [], [], rl, _ => rfl
  | x :: s0, y :: r0, rl, h => by
    have hv : v < ways.length := (List.getElem?_eq_some_iff.mp hu).1
    rw [List.cons_append, List.map_cons, List.zipWith_cons_cons, List.sum_cons, moves_sum hu lastL hl s0 r0 rl (by simpa using h), List.zip_cons_cons, isum_cons, addV_get (by rw [pull_len]; exact hv) (by rw [pull_len, hl]), pull_get hu]
    show ((y : Nat) : Int) * (2 * wsum (castL (da.map (M x))) u + -1 * lastL.getD v 0) + _ = ((y : Nat) : Int) * (2 * wsum (castL (da.map (M x))) u - lastL.getD v 0) + _
    rw [Int.neg_one_mul, Int.sub_eq_add_neg]
  | [], _ :: _, _, h => by simp at h
  | _ :: _, [], _, h => by simp at h
theorem tot_full (M : Nat → Nat → Nat) {si da r u : List Nat} {ways : List (List Nat)} {y v : Nat} (hs : si ≠ []) (hr : r.length = si.length) (hy : r.sum = y) (hu : ways[v]? = some u) :
    tot (kinM M si si) (movesI (kinM M si da) ways) [] (costsI (kinM M da da) (kinM M si da) ways y) r v = kaI (kinM M da da) u + (isum (si.zip r) fun p => ((p.2 : Nat) : Int) * (2 * wsum (castL (da.map (M p.1))) u)) + kaI (kinM M si si) r := by
  have hv : v < ways.length := (List.getElem?_eq_some_iff.mp hu).1
  obtain ⟨s0, sl, rfl⟩ : ∃ s0 sl, si = s0 ++ [sl] := ⟨si.dropLast, si.getLast hs, (List.dropLast_concat_getLast hs).symm⟩
  have hrn : r ≠ [] := fun z => by rw [z] at hr; simp at hr
  obtain ⟨r0, rl, rfl⟩ : ∃ r0 rl, r = r0 ++ [rl] := ⟨r.dropLast, r.getLast hrn, (List.dropLast_concat_getLast hrn).symm⟩
  have hlen : s0.length = r0.length := by
    rw [List.length_append, List.length_append] at hr
    have : r0.length + 1 = s0.length + 1 := hr
    omega
  have e1 : pullsI (kinM M (s0 ++ [sl]) da) ways = (s0.map fun i => pullI (castL (da.map (M i))) ways) ++ [pullI (castL (da.map (M sl))) ways] := by
    unfold pullsI kinM
    rw [List.map_map, List.map_append]
    rfl
  have e2 : lastI (kinM M (s0 ++ [sl]) da) ways = pullI (castL (da.map (M sl))) ways := by
    unfold lastI
    rw [e1, List.getLastD_eq_getLast?, List.getLast?_append]
    rfl
  have e3 : movesI (kinM M (s0 ++ [sl]) da) ways = s0.map fun i => addV (pullI (castL (da.map (M i))) ways) (-1) (pullI (castL (da.map (M sl))) ways) := by
    unfold movesI
    rw [e2, e1, List.dropLast_concat, List.map_map]
    rfl
  have hcl : (ways.map (kaI (kinM M da da))).length = (pullI (castL (da.map (M sl))) ways).length := by rw [List.length_map, pull_len]
  have e4 : costsI (kinM M da da) (kinM M (s0 ++ [sl]) da) ways y = addV (ways.map (kaI (kinM M da da))) (y : Nat) (pullI (castL (da.map (M sl))) ways) := by
    unfold costsI
    rw [e2]
  have e5 : (ways.map (kaI (kinM M da da))).getD v 0 = kaI (kinM M da da) u := by
    rw [List.getD_eq_getElem?_getD, List.getElem?_map, hu]
    rfl
  rw [e3, e4, tot_eq _ _ _ _ _ _ (by rw [List.length_append, List.length_map, hlen]; rfl) (by rw [addV_len _ hcl, List.length_map]; exact hv) (fun m hm => by
    obtain ⟨i, _, rfl⟩ := List.mem_map.mp hm
    rw [addV_len _ hcl, List.length_map, addV_len _ (by rw [pull_len, pull_len]), pull_len]), addV_get (by rw [List.length_map]; exact hv) hcl, e5, moves_sum hu _ (pull_len _ _) s0 r0 rl hlen, pull_get hu, List.nil_append, List.zip_append hlen, isum_append]
  have ey : ((y : Nat) : Int) = ((r0.sum : Nat) : Int) + ((rl : Nat) : Int) := by
    rw [← hy, List.sum_append]
    show ((r0.sum + (rl + 0) : Nat) : Int) = _
    omega
  have e6 : (isum (s0.zip r0) fun p => ((p.2 : Nat) : Int) * (2 * wsum (castL (da.map (M p.1))) u - 2 * wsum (castL (da.map (M sl))) u)) = (isum (s0.zip r0) fun p => ((p.2 : Nat) : Int) * (2 * wsum (castL (da.map (M p.1))) u)) - ((r0.sum : Nat) : Int) * (2 * wsum (castL (da.map (M sl))) u) := by
    rw [← zip_sum s0 r0 hlen]
    have f1 : (isum (s0.zip r0) fun p => ((p.2 : Nat) : Int) * (2 * wsum (castL (da.map (M p.1))) u - 2 * wsum (castL (da.map (M sl))) u)) = isum (s0.zip r0) fun p => ((p.2 : Nat) : Int) * (2 * wsum (castL (da.map (M p.1))) u) + (-(2 * wsum (castL (da.map (M sl))) u)) * ((p.2 : Nat) : Int) := isum_congr fun p _ => by
      rw [Int.mul_sub, Int.neg_mul, Int.mul_comm (2 * wsum (castL (da.map (M sl))) u) ((p.2 : Nat) : Int)]
      omega
    rw [f1, isum_add, isum_mul, Int.neg_mul, Int.mul_comm (2 * wsum (castL (da.map (M sl))) u)]
    omega
  have e7 : isum (([sl] : List Nat).zip [rl]) (fun p => ((p.2 : Nat) : Int) * (2 * wsum (castL (da.map (M p.1))) u)) = ((rl : Nat) : Int) * (2 * wsum (castL (da.map (M sl))) u) := by
    show isum [(sl, rl)] _ = _
    rw [isum_cons, isum_nil]
    show ((rl : Nat) : Int) * (2 * wsum (castL (da.map (M sl))) u) + 0 = _
    omega
  rw [e6, e7, ey, Int.add_mul]
  omega
theorem cast_isum {α : Type} (l : List α) (f : α → Nat) : (((l.map f).sum : Nat) : Int) = isum l fun x => ((f x : Nat) : Int) := by
  induction l with
  | nil => rfl
  | cons x l ih =>
    rw [List.map_cons, List.sum_cons, isum_cons, ← ih]
    omega
theorem akin_full (a : Km256.Abs) (y : Nat) {r u : List Nat} (hr : r.length = (Km256.breeders a false).length) (hu : u.length = (Km256.breeders a true).length) :
    ((((Km256.shareAsk a y).akin (r ++ u) : Nat)) : Int) = kaI (kinM (Km256.kin a) (Km256.breeders a true) (Km256.breeders a true)) u + (isum ((Km256.breeders a false).zip r) fun p => ((p.2 : Nat) : Int) * (2 * wsum (castL ((Km256.breeders a true).map (Km256.kin a p.1))) u)) + kaI (kinM (Km256.kin a) (Km256.breeders a false) (Km256.breeders a false)) r := by
  generalize hS : Km256.breeders a false = si at *
  generalize hD : Km256.breeders a true = da at *
  have hask : Km256.shareAsk a y = ⟨(si ++ da).map fun i => (si ++ da).map fun j => Km256.kin a i j, si.length, da.length, y, 0⟩ := by
    unfold Km256.shareAsk
    rw [hS, hD]
  have hbc : (si ++ da).length = (r ++ u).length := by rw [List.length_append, List.length_append, hr, hu]
  rw [hask]
  unfold Km254.Ask.akin
  have en : (⟨(si ++ da).map fun i => (si ++ da).map fun j => Km256.kin a i j, si.length, da.length, y, 0⟩ : Km254.Ask).n = (si ++ da).length := by
    rw [List.length_append]
    rfl
  rw [en]
  have ek : ∀ i j, i < (si ++ da).length → j < (si ++ da).length → (⟨(si ++ da).map fun i => (si ++ da).map fun j => Km256.kin a i j, si.length, da.length, y, 0⟩ : Km254.Ask).k i j = Km256.kin a ((si ++ da).getD i 0) ((si ++ da).getD j 0) := fun i j hi hj => by
    show (((si ++ da).map fun i => (si ++ da).map fun j => Km256.kin a i j).getD i []).getD j 0 = _
    rw [List.getD_eq_getElem?_getD (l := (si ++ da).map _), List.getElem?_map, List.getElem?_eq_getElem hi]
    show ((si ++ da).map fun j => Km256.kin a (si ++ da)[i] j).getD j 0 = _
    rw [List.getD_eq_getElem?_getD, List.getElem?_map, List.getElem?_eq_getElem hj, List.getD_eq_getElem?_getD, List.getElem?_eq_getElem hi, List.getD_eq_getElem?_getD, List.getElem?_eq_getElem hj]
    rfl
  have inner : ∀ x cx : Nat, Km254.sum ((List.range (si ++ da).length).map fun j => cx * (r ++ u).getD j 0 * Km256.kin a x ((si ++ da).getD j 0)) = (((si ++ da).zip (r ++ u)).map fun q => cx * q.2 * Km256.kin a x q.1).sum := fun x cx => by
    rw [sum54, range_zip (fun b c => cx * c * Km256.kin a x b) _ _ hbc]
  have outer : Km254.sum ((List.range (si ++ da).length).map fun i => Km254.sum ((List.range (si ++ da).length).map fun j => (r ++ u).getD i 0 * (r ++ u).getD j 0 * (⟨(si ++ da).map fun i => (si ++ da).map fun j => Km256.kin a i j, si.length, da.length, y, 0⟩ : Km254.Ask).k i j))
      = (((si ++ da).zip (r ++ u)).map fun p => (((si ++ da).zip (r ++ u)).map fun q => p.2 * q.2 * Km256.kin a p.1 q.1).sum).sum := by
    rw [sum54, ← range_zip (fun b c => (((si ++ da).zip (r ++ u)).map fun q => c * q.2 * Km256.kin a b q.1).sum) _ _ hbc]
    congr 1
    refine List.map_congr_left fun i hi => ?_
    rw [← inner]
    congr 1
    refine List.map_congr_left fun j hj => ?_
    rw [ek i j (List.mem_range.mp hi) (List.mem_range.mp hj)]
  rw [outer, cast_isum]
  have e1 : ∀ p : Nat × Nat, (((((si ++ da).zip (r ++ u)).map fun q => p.2 * q.2 * Km256.kin a p.1 q.1).sum : Nat) : Int) = isum ((si ++ da).zip (r ++ u)) fun q => ((p.2 : Nat) : Int) * (((Km256.kin a p.1 q.1 : Nat) : Int) * ((q.2 : Nat) : Int)) := fun p => by
    rw [cast_isum]
    exact isum_congr fun q _ => by
      rw [Int.natCast_mul, Int.natCast_mul, Int.mul_assoc, Int.mul_comm ((q.2 : Nat) : Int)]
  rw [isum_congr fun p _ => e1 p, List.zip_append hr.symm, isum_append]
  have e2 : ∀ p : Nat × Nat, (isum (si.zip r ++ da.zip u) fun q => ((p.2 : Nat) : Int) * (((Km256.kin a p.1 q.1 : Nat) : Int) * ((q.2 : Nat) : Int))) = ((p.2 : Nat) : Int) * (isum (si.zip r) fun q => ((Km256.kin a p.1 q.1 : Nat) : Int) * ((q.2 : Nat) : Int)) + ((p.2 : Nat) : Int) * (isum (da.zip u) fun q => ((Km256.kin a p.1 q.1 : Nat) : Int) * ((q.2 : Nat) : Int)) := fun p => by
    rw [isum_mul, isum_append, Int.mul_add]
  rw [isum_congr fun p _ => e2 p, isum_congr (l := da.zip u) fun p _ => e2 p, isum_add, isum_add]
  -- the four parts
  have pp : (isum (si.zip r) fun p => ((p.2 : Nat) : Int) * (isum (si.zip r) fun q => ((Km256.kin a p.1 q.1 : Nat) : Int) * ((q.2 : Nat) : Int))) = kaI (kinM (Km256.kin a) si si) r := by
    rw [kaI_eq]
    exact isum_congr fun p _ => Int.mul_comm _ _
  have qq : (isum (da.zip u) fun p => ((p.2 : Nat) : Int) * (isum (da.zip u) fun q => ((Km256.kin a p.1 q.1 : Nat) : Int) * ((q.2 : Nat) : Int))) = kaI (kinM (Km256.kin a) da da) u := by
    rw [kaI_eq]
    exact isum_congr fun p _ => Int.mul_comm _ _
  have qp : (isum (da.zip u) fun p => ((p.2 : Nat) : Int) * (isum (si.zip r) fun q => ((Km256.kin a p.1 q.1 : Nat) : Int) * ((q.2 : Nat) : Int))) = isum (si.zip r) fun p => ((p.2 : Nat) : Int) * (isum (da.zip u) fun q => ((Km256.kin a p.1 q.1 : Nat) : Int) * ((q.2 : Nat) : Int)) := by
    have f1 : (isum (da.zip u) fun p => ((p.2 : Nat) : Int) * (isum (si.zip r) fun q => ((Km256.kin a p.1 q.1 : Nat) : Int) * ((q.2 : Nat) : Int))) = isum (da.zip u) fun p => isum (si.zip r) fun q => ((p.2 : Nat) : Int) * (((Km256.kin a p.1 q.1 : Nat) : Int) * ((q.2 : Nat) : Int)) := isum_congr fun p _ => (isum_mul _ _ _).symm
    rw [f1, isum_comm]
    refine isum_congr fun q _ => ?_
    rw [← isum_mul]
    refine isum_congr fun p _ => ?_
    rw [kin_symm a p.1 q.1, ← Int.mul_assoc, Int.mul_comm (((p.2 : Nat) : Int) * _), Int.mul_comm ((p.2 : Nat) : Int)]
  have pq : (isum (si.zip r) fun p => ((p.2 : Nat) : Int) * (2 * wsum (castL (da.map (Km256.kin a p.1))) u)) = 2 * isum (si.zip r) fun p => ((p.2 : Nat) : Int) * (isum (da.zip u) fun q => ((Km256.kin a p.1 q.1 : Nat) : Int) * ((q.2 : Nat) : Int)) := by
    rw [← isum_mul]
    refine isum_congr fun p _ => ?_
    rw [wsum_row, ← Int.mul_assoc, Int.mul_comm ((p.2 : Nat) : Int) 2, Int.mul_assoc]
  rw [pp, qq, qp, pq]
  omega
end Hp
end
section
set_option Elab.async false
set_option linter.all false
set_option maxRecDepth 100000
namespace Hp
open Hw
theorem br_of {a : Km256.Abs} {f : Bool} {br : List Nat} (h : BrOf (Km256.kin a) (kind a f) (kind a false ++ kind a true) br) : br = Km256.breeders a f := by
  obtain ⟨ks, k1, k2, k3, k4⟩ := h
  have e : ∀ x, ((kind a false ++ kind a true).map (Km256.kin a x)).sum = Km256.toHerd a x := fun x => by
    unfold Km256.toHerd
    rw [sum56]
    exact ((kinds_perm a).map _).sum_nat
  refine breeders_of a f k1 (k2.imp fun {x y} h => ?_) k3 k4
  rw [e, e] at h
  exact h
theorem cost_full (a : Km256.Abs) (si da : List Nat) (om ofm : List Nat) (rows : List (List Nat)) (hr : rows.length = si.length) (hw : ∀ q ∈ rows, q.length = da.length) :
    (((⟨si.map fun i => da.map fun j => Km256.kin a i j, si.length, da.length, om, ofm, 0⟩ : Km255.Ask).cost rows : Nat) : Int) = mcost (kinM (Km256.kin a) si da) rows := by
  have inner : ∀ (s : Nat) (q : List Nat), q.length = da.length → Km255.sum ((List.range da.length).map fun j => q.getD j 0 * (da.map fun j => Km256.kin a s j).getD j 0) = ((da.zip q).map fun p => p.2 * Km256.kin a s p.1).sum := fun s q hq => by
    rw [sum55, ← range_zip (fun b c => c * Km256.kin a s b) da q hq.symm]
    congr 1
    refine List.map_congr_left fun j hj => ?_
    have hj' := List.mem_range.mp hj
    rw [List.getD_eq_getElem?_getD (l := da.map _), List.getElem?_map, List.getElem?_eq_getElem hj', List.getD_eq_getElem?_getD (l := da), List.getElem?_eq_getElem hj']
    rfl
  have gen : ∀ (si : List Nat) (rows : List (List Nat)), rows.length = si.length → (∀ q ∈ rows, q.length = da.length) → (((List.range si.length).map fun i => Km255.sum ((List.range da.length).map fun j => Km255.n rows i j * ((si.map fun i => da.map fun j => Km256.kin a i j).getD i []).getD j 0)).sum : Nat) = ((mcost (kinM (Km256.kin a) si da) rows)) := by
    intro si
    induction si with
    | nil =>
      intro rows h _
      rw [List.length_eq_zero_iff.mp h]
      rfl
    | cons s si ih =>
      intro rows h hq
      cases rows with
      | nil => simp at h
      | cons q rows =>
        have ih' := ih rows (by simpa using h) fun x hx => hq x (List.mem_cons_of_mem _ hx)
        rw [List.length_cons, List.range_succ_eq_map, List.map_cons, List.map_map, List.sum_cons]
        have e1 : kinM (Km256.kin a) (s :: si) da = castL (da.map (Km256.kin a s)) :: kinM (Km256.kin a) si da := rfl
        rw [e1]
        show ((Km255.sum ((List.range da.length).map fun j => q.getD j 0 * (da.map fun j => Km256.kin a s j).getD j 0) + _ : Nat) : Int) = wsum (castL (da.map (Km256.kin a s))) q + mcost (kinM (Km256.kin a) si da) rows
        rw [inner s q (hq q (List.mem_cons_self ..)), Int.natCast_add, cast_isum, ← ih', wsum_row]
        congr 1
        exact isum_congr fun p _ => by rw [Int.natCast_mul, Int.mul_comm]
  unfold Km255.Ask.cost
  rw [sum55]
  exact gen si rows hr hw
theorem flat_rows4 {rows : List (List Nat)} (h : rows.length ≤ 4) (hw : ∀ q ∈ rows, q.length ≤ 4) : Km255.flat rows = rows4 rows := by
  unfold rows4 Km255.flat
  rw [pad_range ([] : List Nat) h, List.flatMap_map]
  refine flatMap_congr' fun i hi => ?_
  unfold Km256.four
  have hq : (rows.getD i []).length ≤ 4 := by
    rw [List.getD_eq_getElem?_getD]
    cases e : rows[i]? with
    | none => exact Nat.zero_le _
    | some q => exact hw q (List.mem_of_getElem? e)
  rw [pad_range 0 hq]
  rfl
theorem plan_told {a : Km256.Abs} {y : Nat} {nums : List Int} (hy1 : 1 ≤ y) (hy8 : y ≤ 8) (hm : kind a false ≠ []) (hf : kind a true ≠ []) (h : PlanOf (Km256.kin a) (kind a false) (kind a true) y nums) : Km256Neutral.told (Km256.act a (.plan y)).2 = 0 :: nums := by
  obtain ⟨si, da, r, fw, v, z, cost, rows, b1, b2, hv, hz, hfl, hg, rfl⟩ := h
  have l1 := b1.len
  have l2 := b2.len
  have esi := br_of b1
  have eda := br_of b2
  have p1 : 0 < (kind a false).length := List.length_pos_iff.mpr hm
  have p2 : 0 < (kind a true).length := List.length_pos_iff.mpr hf
  have nsi : si ≠ [] := fun q => by rw [q] at l1; simp at l1; omega
  have nda : da ≠ [] := fun q => by rw [q] at l2; simp at l2; omega
  obtain ⟨w1, w2, w3⟩ := waysN_mem (List.mem_of_getElem? hv)
  have mem : (r, v) ∈ (Km254.rows si.length y).flatMap fun r => (List.range (waysN da.length y).length).map fun v => (r, v) := hfl.mem
  obtain ⟨r', hr', hm'⟩ := List.mem_flatMap.mp mem
  obtain ⟨v', hv', e⟩ := List.mem_map.mp hm'
  injection e with e1 e2
  rw [e1] at hr'
  clear e2 hv' hm' e1
  obtain ⟨rm1, rm2⟩ := (rows_mem _ _ _).mp hr'
  -- the share
  have eways : Km254.rows da.length y = waysN da.length y := rows54_eq da.length y y (Nat.le_refl _)
  have tota : ∀ x : List Nat × Nat, x ∈ Hw.pairs si.length y (waysN da.length y).length → tot (kinM (Km256.kin a) si si) (movesI (kinM (Km256.kin a) si da) (waysN da.length y)) [] (costsI (kinM (Km256.kin a) da da) (kinM (Km256.kin a) si da) (waysN da.length y) y) x.1 x.2
      = (((Km256.shareAsk a y).akin (x.1 ++ (waysN da.length y).getD x.2 []) : Nat) : Int) := fun x hx => by
    obtain ⟨r2, hr2, hm2⟩ := List.mem_flatMap.mp hx
    obtain ⟨v2, hv2, rfl⟩ := List.mem_map.mp hm2
    have hv3 := List.mem_range.mp hv2
    obtain ⟨q1, q2⟩ := (rows_mem _ _ _).mp hr2
    obtain ⟨u2, hu⟩ : ∃ u2, (waysN da.length y)[v2]? = some u2 := ⟨_, List.getElem?_eq_getElem hv3⟩
    have eg : (waysN da.length y).getD v2 [] = u2 := by rw [List.getD_eq_getElem?_getD, hu]; rfl
    have ul := (waysN_mem (List.mem_of_getElem? hu)).1
    have af := akin_full a y (r := r2) (u := u2) (by rw [← esi]; exact q1) (by rw [← eda]; exact ul)
    rw [← esi, ← eda] at af
    show tot _ _ _ _ r2 v2 = (((Km256.shareAsk a y).akin (r2 ++ (waysN da.length y).getD v2 []) : Nat) : Int)
    rw [eg, tot_full (Km256.kin a) nsi q1 q2 hu, af]
  have fl2 := FL.map (f := fun c => (((Km256.shareAsk a y).akin c : Nat) : Int)) (g := fun x : List Nat × Nat => x.1 ++ (waysN da.length y).getD x.2 []) (hfl.congr tota)
  have eall : (Km256.shareAsk a y).all = (Hw.pairs si.length y (waysN da.length y).length).map fun x : List Nat × Nat => x.1 ++ (waysN da.length y).getD x.2 [] := by
    unfold Km254.Ask.all Hw.pairs
    rw [List.map_flatMap]
    have em : (Km256.shareAsk a y).males = si.length := by rw [esi]; rfl
    have ef : (Km256.shareAsk a y).females = da.length := by rw [eda]; rfl
    have ey : (Km256.shareAsk a y).young = y := rfl
    rw [em, ef, ey, eways]
    refine flatMap_congr' fun m _ => ?_
    rw [List.map_map]
    conv => lhs; rw [← range_getD ([] : List Nat) (waysN da.length y)]
    rw [List.map_map]
    rfl
  have egv : (waysN da.length y).getD v [] = fw := by rw [List.getD_eq_getElem?_getD, hv]; rfl
  rw [← eall] at fl2
  have fl3 : FL (fun c => (((Km256.shareAsk a y).akin c : Nat) : Int)) (Km256.shareAsk a y).all (r ++ fw) := by
    have e : FL (fun c => (((Km256.shareAsk a y).akin c : Nat) : Int)) (Km256.shareAsk a y).all (r ++ (waysN da.length y).getD v []) := fl2
    rw [egv] at e
    exact e
  have ebest : (Km256.shareAsk a y).best = r ++ fw := by
    rw [best_first, fl3.first]
    rfl
  have ez : z = (((Km256.shareAsk a y).akin (Km256.shareAsk a y).best : Nat) : Int) := by
    rw [hz, tota (r, v) hfl.mem, ebest]
    show (((Km256.shareAsk a y).akin (r ++ (waysN da.length y).getD v []) : Nat) : Int) = _
    rw [egv]
  -- the mating
  have ew : Km256.matingAsk a y = ⟨si.map fun i => da.map fun j => Km256.kin a i j, si.length, da.length, r, fw, 0⟩ := by
    unfold Km256.matingAsk
    rw [ebest, ← esi, ← eda]
    have t1 : (r ++ fw).take si.length = r := by rw [← rm1, List.take_left]
    have t2 : (r ++ fw).drop si.length = fw := by rw [← rm1, List.drop_left]
    simp only [t1, t2]
  have mm : rows ∈ allM r fw := by
    have e := hg.2.mem
    rw [List.drop_zero] at e
    exact e
  have shp : ∀ x ∈ allM r fw, x.length = si.length ∧ ∀ q ∈ x, q.length = da.length := fun x hx => by
    rw [← all_allM ⟨[], 0, 0, [], [], 0⟩] at hx
    obtain ⟨z1, z2⟩ := all55_shape _ _ _ _ hx
    exact ⟨by rw [z1, rm1], fun q hq => by rw [z2 q hq, w1]⟩
  have eall2 : (Km256.matingAsk a y).all ((List.range (Km256.matingAsk a y).males).map (Km256.matingAsk a y).m) ((List.range (Km256.matingAsk a y).females).map (Km256.matingAsk a y).f) = allM r fw := by
    rw [all_allM, ew]
    have q1 : (List.range si.length).map (fun i => r.getD i 0) = r := by rw [← rm1]; exact range_getD 0 r
    have q2 : (List.range da.length).map (fun i => fw.getD i 0) = fw := by rw [← w1]; exact range_getD 0 fw
    show allM ((List.range si.length).map fun i => r.getD i 0) ((List.range da.length).map fun i => fw.getD i 0) = _
    rw [q1, q2]
  have flm : FL (fun x => (((Km256.matingAsk a y).cost x : Nat) : Int)) (allM r fw) rows := by
    have e := hg.2
    rw [List.drop_zero, List.drop_zero] at e
    refine e.congr fun x hx => ?_
    obtain ⟨z1, z2⟩ := shp x hx
    rw [ew]
    exact (cost_full a si da r fw x z1 z2).symm
  have ebm : (Km256.matingAsk a y).best = rows := by
    rw [best55_first, eall2, flm.first]
    rfl
  have ec : cost = (((Km256.matingAsk a y).cost (Km256.matingAsk a y).best : Nat) : Int) := by
    rw [ebm, hg.1, List.drop_zero, ew]
    obtain ⟨z1, z2⟩ := shp rows mm
    exact (cost_full a si da r fw rows z1 z2).symm
  have nb1 : ¬ (y = 0 ∨ 8 < y) := by omega
  have nb2 : ¬ (Km256.breeders a false = [] ∨ Km256.breeders a true = []) := by
    rw [← esi, ← eda]
    rintro (q | q)
    · exact nsi q
    · exact nda q
  have hact : (Km256.act a (.plan y)).2 = .plan (Km256.four (Km256.breeders a false) 255 ++ Km256.four (Km256.breeders a true) 255 ++ Km256.four (Km256.matingAsk a y).ofMale 0 ++ Km256.four (Km256.matingAsk a y).ofFemale 0 ++ Km255.flat (Km256.matingAsk a y).best) ((Km256.shareAsk a y).akin (Km256.shareAsk a y).best) ((Km256.matingAsk a y).cost (Km256.matingAsk a y).best) := by
    simp only [Km256.act]
    rw [if_neg nb1, if_neg nb2]
  obtain ⟨z1, z2⟩ := shp rows mm
  rw [hact, ez, ec]
  show (0 : Int) :: Km256Neutral.nums (_ ++ [_, _]) = _
  unfold Km256Neutral.nums
  rw [List.map_append, ebm, flat_rows4 (by omega) (fun q hq => by rw [z2 q hq]; omega), ← esi, ← eda]
  have o1 : (Km256.matingAsk a y).ofMale = r := by rw [ew]
  have o2 : (Km256.matingAsk a y).ofFemale = fw := by rw [ew]
  rw [o1, o2]
  rfl
end Hp
end
section
set_option Elab.async false
set_option linter.all false
set_option maxRecDepth 100000
namespace Hp
open PySem L2
noncomputable def anL (f l : V) : List (Str × V) := [("female", f), ("living", l)]
theorem an_put (f l : V) : putF "living" l (putF "female" f []) = anL f l := by
  show putF "living" l [("female", f)] = _
  rw [putF_ne (by decide +kernel)]
  rfl
theorem an_female (f l : V) : (anL f l).lookup ("female" : Str) = some f := lk_eq
theorem an_living (f l : V) : (anL f l).lookup ("living" : Str) = some l := by
  unfold anL
  rw [lk_ne (by decide +kernel), lk_eq]
theorem an_gone (f l l' : V) : putF "living" l' (anL f l) = anL f l' := by
  unfold anL
  rw [putF_ne (by decide +kernel), putF_eq]
noncomputable def fV (f : Bool) : V := .int (if f then 1 else 0)
noncomputable def oneL (x : Km256.One) : List (Str × V) := anL (fV x.female) (.bl x.lives)
noncomputable def herdL (l tb : Addr) : List (Str × V) := [("animals", .ref l), ("table", .ref tb)]
theorem herd_put (l tb l' : Addr) : putF "animals" (.ref l') (herdL l tb) = herdL l' tb := putF_eq
theorem herd_putT (l tb tb' : Addr) : putF "table" (.ref tb') (herdL l tb) = herdL l tb' := by
  unfold herdL
  rw [putF_ne (by decide +kernel), putF_eq]
theorem herd_new (l tb : Addr) : putF "table" (.ref tb) (putF "animals" (.ref l) []) = herdL l tb := by
  show putF "table" (.ref tb) [("animals", .ref l)] = _
  rw [putF_ne (by decide +kernel)]
  rfl
theorem herd_animals (l tb : Addr) : (herdL l tb).lookup ("animals" : Str) = some (.ref l) := lk_eq
theorem herd_table (l tb : Addr) : (herdL l tb).lookup ("table" : Str) = some (.ref tb) := by
  unfold herdL
  rw [lk_ne (by decide +kernel), lk_eq]
theorem herd_no (l tb : Addr) {m : Str} (h : ¬ m = "animals") (h2 : ¬ m = "table") : (herdL l tb).lookup m = none := by
  unfold herdL
  rw [lk_ne h, lk_ne h2]
  rfl
structure HL where
  l : Addr
  tb : Addr
  as : List Addr
  rs : List Addr
structure HerdAt (C D : Addr) (H : Hp) (p : Addr) (g : HL) (a : Km256.Abs) : Prop where
  ob : ∃ dx, H p = some (.ins D dx (herdL g.l g.tb))
  lst : H g.l = some (.lst (g.as.map V.ref))
  nd : g.as.Nodup
  len : g.as.length = a.length
  at_ : ∀ (j : Nat) (c : Addr) (x : Km256.One), g.as[j]? = some c → a[j]? = some x → ∃ dc, H c = some (.ins C dc (oneL x))
  tab : TabAt H g.tb g.rs a.length (Km256.kin a)
  lt : g.l ≠ g.tb
  nlr : ¬ g.l ∈ g.rs
  pas : ¬ p ∈ g.as
noncomputable def Part (p : Addr) (g : HL) (b : Addr) : Prop := b = p ∨ b = g.l ∨ b = g.tb ∨ b ∈ g.as ∨ b ∈ g.rs
section
variable {C D : Addr} {H H' : Hp} {p : Addr} {g : HL} {a : Km256.Abs}
theorem HerdAt.ins (h : HerdAt C D H p g a) {c : Addr} (m : c ∈ g.as) : ∃ dc fs, H c = some (.ins C dc fs) := by
  obtain ⟨j, hj⟩ := List.mem_iff_getElem?.mp m
  have hlt := (List.getElem?_eq_some_iff.mp hj).1
  have hlt' : j < a.length := by rw [← h.len]; exact hlt
  obtain ⟨dc, hc⟩ := h.at_ j c a[j] hj (List.getElem?_eq_getElem hlt')
  exact ⟨dc, _, hc⟩
theorem HerdAt.rowAt (h : HerdAt C D H p g a) {c : Addr} (m : c ∈ g.rs) : ∃ xs, H c = some (.lst xs) := by
  obtain ⟨j, hj⟩ := List.mem_iff_getElem?.mp m
  exact ⟨_, h.tab.row j c hj⟩
theorem HerdAt.all (h : HerdAt C D H p g a) {b : Addr} (m : Part p g b) : ∃ o, H b = some o := by
  rcases m with e | e | e | e | e
  · obtain ⟨dx, hp⟩ := h.ob
    exact ⟨_, by rw [e]; exact hp⟩
  · exact ⟨_, by rw [e]; exact h.lst⟩
  · exact ⟨_, by rw [e]; exact h.tab.lst⟩
  · refine hid fun ng => ?_
    obtain ⟨dc, fs, hc⟩ := h.ins e
    refine ng ?_
    clear ng
    exact ⟨_, hc⟩
  · obtain ⟨xs, hc⟩ := h.rowAt e
    exact ⟨_, hc⟩
theorem HerdAt.off {r : Addr} (R : HerdAt C D H p g a) (hr : H r = none) : ¬ Part p g r := fun m => by
  obtain ⟨o, e⟩ := R.all m
  rw [hr] at e
  cases e
theorem HerdAt.keep (h : HerdAt C D H p g a) (k : ∀ b o, H b = some o → Part p g b → H' b = some o) : HerdAt C D H' p g a := by
  obtain ⟨dx, hp⟩ := h.ob
  refine ⟨⟨dx, k _ _ hp (.inl rfl)⟩, k _ _ h.lst (.inr (.inl rfl)), h.nd, h.len, fun j c x hj hx => ?_, ⟨k _ _ h.tab.lst (.inr (.inr (.inl rfl))), h.tab.nd, h.tab.len, fun i r e => k _ _ (h.tab.row i r e) (.inr (.inr (.inr (.inr (List.mem_of_getElem? e)))))⟩, h.lt, h.nlr, h.pas⟩
  obtain ⟨dc, hc⟩ := h.at_ j c x hj hx
  exact ⟨dc, k _ _ hc (.inr (.inr (.inr (.inl (List.mem_of_getElem? hj)))))⟩
theorem HerdAt.same (h : HerdAt C D H p g a) (k : Same H H') : HerdAt C D H' p g a := h.keep fun b o e _ => k b o e
theorem HerdAt.beside {r : Addr} {o : HO} (R : HerdAt C D H p g a) (hr : ¬ Part p g r) : HerdAt C D (upd H r o) p g a :=
  R.keep fun b u e hb => by
    have : b ≠ r := fun z => hr (by rw [← z]; exact hb)
    rw [upd_ne this]
    exact e
end
noncomputable def Post (C D : Addr) (H : Hp) (p : Addr) (g : HL) (a' : Km256.Abs) (Q : Hp → Prop) : Prop :=
  ∀ (g' : HL) (H' : Hp), HerdAt C D H' p g' a' → Chg H H' (Part p g) → (∀ b, Part p g' b → Part p g b ∨ H b = none) → Q H'
theorem Post.self {C D : Addr} {H : Hp} {p : Addr} {g : HL} {a : Km256.Abs} {Q : Hp → Prop} (h : Post C D H p g a Q) (R : HerdAt C D H p g a) : Q H := h g H R Chg.refl fun b hb => .inl hb
theorem Chg.trans {H H1 H2 : Hp} {part part' : Addr → Prop} (c : Chg H H1 part) (d : Chg H1 H2 part') (h : ∀ b, part' b → part b ∨ H b = none) : Chg H H2 part := by
  refine ⟨fun b o e n => d.keep b o (c.keep b o e n) fun z => ?_, fun b e => c.free b (d.free b e)⟩
  rcases h b z with q | q
  · exact n q
  · rw [q] at e; cases e
noncomputable def spAni (C : Addr) : Sp := fun vs H Q _ => ∃ (p dx : Addr) (f : V), vs = [.ref p, f] ∧ H p = some (.ins C dx []) ∧
  ∀ H' : Hp, H' p = some (.ins C dx (anL f (.bl true))) → (∀ b o, H b = some o → b ≠ p → H' b = some o) → Q .non H'
noncomputable def spHerd (D : Addr) : Sp := fun vs H Q _ => ∃ (p dx : Addr), vs = [.ref p] ∧ H p = some (.ins D dx []) ∧
  ∀ (l tb : Addr) (H' : Hp), H' p = some (.ins D dx (herdL l tb)) → H' l = some (.lst []) → H' tb = some (.lst []) → l ≠ tb → H l = none → H tb = none → (∀ b o, H b = some o → b ≠ p → H' b = some o) → Q .non H'
noncomputable def spBegin (C D : Addr) : Sp := fun vs H Q _ => ∃ (p : Addr) (g : HL) (a : Km256.Abs), vs = [.ref p] ∧ HerdAt C D H p g a ∧ Post C D H p g [] (Q (.int 0))
noncomputable def spHolds (C D : Addr) : Sp := fun vs H Q _ => ∃ (p : Addr) (g : HL) (a : Km256.Abs) (n : Nat), vs = [.ref p, .int n] ∧ HerdAt C D H p g a ∧ Q (.bl (decide (n < a.length))) H
noncomputable def spFem (C D : Addr) : Sp := fun vs H Q _ => ∃ (p : Addr) (g : HL) (a : Km256.Abs) (n : Nat), vs = [.ref p, .int n] ∧ HerdAt C D H p g a ∧ n < a.length ∧ Q (.bl (Km256.one a n).female) H
noncomputable def parO (x : Km256.One) : Option (Nat × Nat) := if x.parents.sire = 255 then none else some (x.parents.sire, x.parents.dam)
noncomputable def spEnter (C D : Addr) : Sp := fun vs H Q _ => ∃ (p : Addr) (g : HL) (a : Km256.Abs) (x : Km256.One), vs = [.ref p, parS (parO x), parD (parO x), fV x.female] ∧ HerdAt C D H p g a ∧ x.lives = true ∧ a.length ≤ 24 ∧ ((x.parents.sire = 255 ∧ x.parents.dam = 255) ∨ (x.parents.sire < a.length ∧ x.parents.dam < a.length)) ∧
  if 24 ≤ a.length then Q (.int (-28)) H else Post C D H p g (a ++ [x]) (Q (.int a.length))
noncomputable def Told1 (C D : Addr) (H : Hp) (p : Addr) (g : HL) (a : Km256.Abs) (k : Km256.Call) (Q : VK) : Prop := ∀ v : Int, (Km256.act a k).2 = .num v → Post C D H p g (Km256.act a k).1 (Q (.int v))
noncomputable def spTake (C D : Addr) : Sp := fun vs H Q _ => ∃ (p : Addr) (g : HL) (a : Km256.Abs) (f : Nat), vs = [.ref p, .int f] ∧ HerdAt C D H p g a ∧ Hw.Wf a ∧ Told1 C D H p g a (.new_ f) Q
noncomputable def spBreed (C D : Addr) : Sp := fun vs H Q _ => ∃ (p : Addr) (g : HL) (a : Km256.Abs) (s d f : Nat), vs = [.ref p, .int s, .int d, .int f] ∧ HerdAt C D H p g a ∧ Hw.Wf a ∧ Told1 C D H p g a (.born s d f) Q
noncomputable def spGo (C D : Addr) : Sp := fun vs H Q _ => ∃ (p : Addr) (g : HL) (a : Km256.Abs) (i : Nat), vs = [.ref p, .int i] ∧ HerdAt C D H p g a ∧ Hw.Wf a ∧ Told1 C D H p g a (.gone i) Q
theorem TabAt.congr {H : Hp} {t : Addr} {rs : List Addr} {n : Nat} {M M' : Nat → Nat → Nat} (T : TabAt H t rs n M) (e : ∀ i j, i < n → j < n → M i j = M' i j) : TabAt H t rs n M' := by
  refine ⟨T.lst, T.nd, T.len, fun i r hr => ?_⟩
  have hi : i < n := by rw [← T.len]; exact (List.getElem?_eq_some_iff.mp hr).1
  rw [T.row i r hr]
  congr 2
  refine List.map_congr_left fun j hj => ?_
  rw [e i j hi (List.mem_range.mp hj)]
theorem grow_kin {a : Km256.Abs} {x : Km256.One} (hx : (x.parents.sire = 255 ∧ x.parents.dam = 255) ∨ (x.parents.sire < a.length ∧ x.parents.dam < a.length)) (hl : a.length ≤ 24) (i j : Nat) (hi : i < a.length + 1) (hj : j < a.length + 1) :
    growM (parO x) (Km256.kin a) a.length i j = Km256.kin (a ++ [x]) i j := by
  have mean : ∀ k, k < a.length → meanO (parO x) (Km256.kin a) k = (Hw.par a x.parents.sire k + Hw.par a x.parents.dam k) / 2 := fun k hk => by
    unfold parO Hw.par
    have e255 : Km253.NONE = 255 := rfl
    rw [e255]
    rcases hx with ⟨h1, h2⟩ | ⟨h1, h2⟩
    · rw [if_pos h1, if_pos h1, if_pos h2]
      rfl
    · rw [if_neg (by omega), if_neg (by omega), if_neg (by omega)]
      rfl
  unfold growM
  by_cases h1 : i < a.length
  · rw [if_pos h1]
    by_cases h2 : j < a.length
    · rw [if_pos h2, Hw.kin_snoc_old a x h1 h2]
    · have ej : j = a.length := by omega
      subst ej
      rw [if_neg h2, Hw.kin_snoc_col a x h1, mean i h1]
  · have ei : i = a.length := by omega
    subst ei
    rw [if_neg h1]
    by_cases h2 : j < a.length
    · rw [if_pos h2, Hw.kin_snoc_row a x h2, mean j h2]
    · have ej : j = a.length := by omega
      subst ej
      rw [if_neg h2, Hw.kin_snoc_self]
      have e255 : Km253.NONE = 255 := rfl
      rw [e255]
      unfold parO
      rcases hx with ⟨h1, h2⟩ | ⟨h1, h2⟩
      · rw [if_pos h1, if_pos (.inl h1)]
        rfl
      · rw [if_neg (by omega), if_neg (by omega)]
        rfl
section
variable {P : Program} {w : World} {K : PySem.W.Frag} {mg : Str → Option Value} {base : Heap}
theorem scAni : FnScope ["self", "female"] ["self", "female"] (defScope sAnimal_init) := ⟨rfl, rfl, rfl, by decide +kernel, rfl, by decide +kernel, by decide +kernel⟩
theorem ok_ani {t : Adr} (T : Top K mg t) : Ok P w K mg base 1 t.fAnimal_init ["self", "female"] (spAni t.cAnimal) := by
  refine hid fun ng => ?_
  obtain ⟨fd, F, bd⟩ := T.fnAnimal_init
  refine ng ?_
  clear ng
  refine ⟨fd, bd, ?_⟩
  refine F.ok scAni (fun vs H Q E h => ?_) (fun cdv A outer s H vs Q E hr h => ?_)
  · refine hid fun ng => ?_
    obtain ⟨p, dx, f, rfl, _⟩ := h
    refine ng ?_
    clear ng
    rfl
  · refine hid fun ng => ?_
    obtain ⟨p, dx, f, rfl, hp, k⟩ := h
    refine ng ?_
    clear ng
    refine ⟨_, pss_cons (ps_fld (pv 0) (pv 1) rfl) (pss_one (ps_fld (pv 0) pe_bl rfl)), ?_⟩
    refine ⟨_, rfl, _, rfl, p, _, dx, [], rfl, hp, T.clAnimal, T.noAnimal_female, (by show 0 < 1000; decide), ?_⟩
    refine ⟨_, rfl, p, _, dx, _, rfl, upd_same, T.clAnimal, T.noAnimal_living, (by show 1 < 1000; decide), ?_⟩
    refine k _ (Eq.trans upd_same (congrArg (fun q => some (HO.ins _ dx q)) (an_put _ _))) fun b o e hb => ?_
    rw [upd_ne hb, upd_ne hb]
    exact e
theorem scHerd : FnScope ["self"] ["self"] (defScope sHerd_init) := ⟨rfl, rfl, rfl, by decide +kernel, rfl, by decide +kernel, by decide +kernel⟩
theorem ok_herd {t : Adr} (T : Top K mg t) : Ok P w K mg base 1 t.fHerd_init ["self"] (spHerd t.cHerd) := by
  refine hid fun ng => ?_
  obtain ⟨fd, F, bd⟩ := T.fnHerd_init
  refine ng ?_
  clear ng
  refine ⟨fd, bd, ?_⟩
  refine F.ok scHerd (fun vs H Q E h => ?_) (fun cdv A outer s H vs Q E hr h => ?_)
  · refine hid fun ng => ?_
    obtain ⟨p, dx, rfl, _⟩ := h
    refine ng ?_
    clear ng
    rfl
  · refine hid fun ng => ?_
    obtain ⟨p, dx, rfl, hp, k⟩ := h
    refine ng ?_
    clear ng
    refine ⟨_, pss_cons (ps_fld (pv 0) (pe_lst pa_nil) rfl) (pss_one (ps_fld (pv 0) (pe_lst pa_nil) rfl)), ?_⟩
    refine ⟨(by show 0 ≤ sizeLine; exact Nat.zero_le _), fun l hl => ?_⟩
    have npl : p ≠ l := ne_of_none hp hl
    refine ⟨_, rfl, p, _, dx, [], rfl, (by rw [upd_ne npl]; exact hp), T.clHerd, T.noHerd_animals, (by show 0 < 1000; decide), ?_⟩
    refine ⟨(by show 0 ≤ sizeLine; exact Nat.zero_le _), fun tb htb => ?_⟩
    have nbp : p ≠ tb := ne_of_none upd_same htb
    have h2 : upd H l (.lst []) tb = none := by rw [upd_ne nbp.symm] at htb; exact htb
    have nlb : l ≠ tb := ne_of_none upd_same h2
    refine ⟨_, rfl, p, _, dx, _, rfl, by rw [upd_ne nbp]; exact upd_same, T.clHerd, T.noHerd_table, (by show 1 < 1000; decide), ?_⟩
    refine k l tb _ (Eq.trans upd_same (congrArg (fun q => some (HO.ins _ dx q)) (herd_new l tb))) (by rw [upd_ne npl.symm, upd_ne nlb, upd_ne npl.symm]; exact upd_same) (by rw [upd_ne nbp.symm]; exact upd_same) nlb hl (by rw [upd_ne nlb.symm] at h2; exact h2) fun b o e hb => ?_
    have n1 : b ≠ l := ne_of_none e hl
    have n2 : b ≠ tb := fun z => by
      rw [upd_ne nlb.symm] at h2
      rw [z, h2] at e
      cases e
    rw [upd_ne hb, upd_ne n2, upd_ne hb, upd_ne n1]
    exact e
theorem scBegin : FnScope ["self"] ["self"] (defScope sHerd_begin) := ⟨rfl, rfl, rfl, by decide +kernel, rfl, by decide +kernel, by decide +kernel⟩
theorem ok_begin {t : Adr} (T : Top K mg t) : Ok P w K mg base 1 t.fHerd_begin ["self"] (spBegin t.cAnimal t.cHerd) := by
  refine hid fun ng => ?_
  obtain ⟨fd, F, bd⟩ := T.fnHerd_begin
  refine ng ?_
  clear ng
  refine ⟨fd, bd, ?_⟩
  refine F.ok scBegin (fun vs H Q E h => ?_) (fun cdv A outer s H vs Q E hr h => ?_)
  · refine hid fun ng => ?_
    obtain ⟨p, g, a, rfl, _⟩ := h
    refine ng ?_
    clear ng
    rfl
  · refine hid fun ng => ?_
    obtain ⟨p, g, a, rfl, R, k⟩ := h
    obtain ⟨dx, hp⟩ := R.ob
    refine ng ?_
    clear ng
    refine ⟨_, pss_cons (ps_fld (pv 0) (pe_lst pa_nil) rfl) (pss_cons (ps_fld (pv 0) (pe_lst pa_nil) rfl) (pss_one (ps_ret pe_int))), ?_⟩
    refine ⟨(by show 0 ≤ sizeLine; exact Nat.zero_le _), fun l hl => ?_⟩
    have npl : p ≠ l := ne_of_none hp hl
    refine ⟨_, rfl, p, _, dx, _, rfl, (by rw [upd_ne npl]; exact hp), T.clHerd, T.noHerd_animals, (by show 2 < 1000; decide), ?_⟩
    refine ⟨(by show 0 ≤ sizeLine; exact Nat.zero_le _), fun tb htb => ?_⟩
    have nbp : p ≠ tb := ne_of_none upd_same htb
    have h2 : upd H l (.lst []) tb = none := by rw [upd_ne nbp.symm] at htb; exact htb
    have nlb : l ≠ tb := ne_of_none upd_same h2
    have h3 : H tb = none := by rw [upd_ne nlb.symm] at h2; exact h2
    refine ⟨_, rfl, p, _, dx, _, rfl, by rw [upd_ne nbp]; exact upd_same, T.clHerd, T.noHerd_table, Nat.lt_of_le_of_lt (length_putF _ _ _) (by show 3 < 1000; decide), ?_⟩
    refine k ⟨l, tb, [], []⟩ _ ⟨⟨dx, Eq.trans upd_same (congrArg (fun q => some (HO.ins _ dx q)) (by rw [herd_put, herd_putT]))⟩, (by rw [upd_ne npl.symm, upd_ne nlb, upd_ne npl.symm]; exact upd_same), List.nodup_nil, rfl, fun j c x hj => by simp at hj, ⟨by rw [upd_ne nbp.symm]; exact upd_same, List.nodup_nil, rfl, fun i r e => by simp at e⟩, nlb, by simp, by simp⟩
      ((((Chg.refl.upd (.inr hl)).upd (.inl (.inl rfl))).upd (.inr h3)).upd (.inl (.inl rfl))) fun b hb => ?_
    rcases hb with e | e | e | e | e
    · exact .inl (.inl e)
    · exact .inr (by rw [e]; exact hl)
    · exact .inr (by rw [e]; exact h3)
    · simp at e
    · simp at e
theorem scHolds : FnScope ["self", "number"] ["self", "number"] (defScope sHerd_holds) := ⟨rfl, rfl, rfl, by decide +kernel, rfl, by decide +kernel, by decide +kernel⟩
theorem ok_holds {t : Adr} (T : Top K mg t) : Ok P w K mg base 1 t.fHerd_holds ["self", "number"] (spHolds t.cAnimal t.cHerd) := by
  refine hid fun ng => ?_
  obtain ⟨fd, F, bd⟩ := T.fnHerd_holds
  refine ng ?_
  clear ng
  refine ⟨fd, bd, ?_⟩
  refine F.ok scHolds (fun vs H Q E h => ?_) (fun cdv A outer s H vs Q E hr h => ?_)
  · refine hid fun ng => ?_
    obtain ⟨p, g, a, n, rfl, _⟩ := h
    refine ng ?_
    clear ng
    rfl
  · refine hid fun ng => ?_
    obtain ⟨p, g, a, n, rfl, R, k⟩ := h
    obtain ⟨dx, hp⟩ := R.ob
    refine ng ?_
    clear ng
    refine ⟨_, pss_one (ps_ret (pe_cmpR op_lt (pv 1) (pe_callB call_len_seq (by rfl) T.blen PySem.boot_len (pa_cons (pe_fld (pv 0) rfl) pa_nil)) (nomark _))), ?_⟩
    refine ⟨_, rfl, _, rfl, p, _, dx, _, _, rfl, hp, T.clHerd, T.noHerd_animals, herd_animals _ _, g.l, _, rfl, .inl (SqL.of R.lst), _, _, rfl, rfl, ?_⟩
    have e : decide ((n : Int) < ((g.as.map V.ref).length : Nat)) = decide (n < a.length) := by
      rw [List.length_map, R.len]
      exact decide_eq_decide.mpr (by omega)
    show Q (.bl (decide ((n : Int) < ((g.as.map V.ref).length : Nat)))) H
    rw [e]
    exact k
theorem scFem : FnScope ["self", "number"] ["self", "number"] (defScope sHerd_is_female) := ⟨rfl, rfl, rfl, by decide +kernel, rfl, by decide +kernel, by decide +kernel⟩
theorem fV_one (b : Bool) : decide (fV b = V.int 1) = b := by
  cases b <;> decide
theorem ok_fem {t : Adr} (T : Top K mg t) : Ok P w K mg base 1 t.fHerd_is_female ["self", "number"] (spFem t.cAnimal t.cHerd) := by
  refine hid fun ng => ?_
  obtain ⟨fd, F, bd⟩ := T.fnHerd_is_female
  refine ng ?_
  clear ng
  refine ⟨fd, bd, ?_⟩
  refine F.ok scFem (fun vs H Q E h => ?_) (fun cdv A outer s H vs Q E hr h => ?_)
  · refine hid fun ng => ?_
    obtain ⟨p, g, a, n, rfl, _⟩ := h
    refine ng ?_
    clear ng
    rfl
  · refine hid fun ng => ?_
    obtain ⟨p, g, a, n, rfl, R, hn, k⟩ := h
    obtain ⟨dx, hp⟩ := R.ob
    refine ng ?_
    clear ng
    have hn' : n < g.as.length := by rw [R.len]; exact hn
    have hc : g.as[n]? = some g.as[n] := List.getElem?_eq_getElem hn'
    have hx : a[n]? = some a[n] := List.getElem?_eq_getElem hn
    obtain ⟨dc, hcc⟩ := R.at_ n _ _ hc hx
    refine ⟨_, pss_one (ps_ret (pe_cmpR op_eq (pe_fld (pe_ix ix_list (pe_fld (pv 0) rfl) (pv 1) (fun _ _ => rfl)) rfl) pe_int (nomark _))), ?_⟩
    refine ⟨_, rfl, p, _, dx, _, _, rfl, hp, T.clHerd, T.noHerd_animals, herd_animals _ _, _, rfl, g.l, _, _, _, rfl, rfl, SqL.of R.lst, atI_nat (v := V.ref g.as[n]) (by rw [List.getElem?_map, hc]; rfl), _, _, dc, _, _, rfl, hcc, T.clAnimal, T.noAnimal_female, an_female _ _, rfl, ?_⟩
    show Q (.bl (decide (fV a[n].female = V.int 1))) H
    rw [fV_one]
    rw [Hw.one_get hx] at k
    exact k
theorem scEnter : FnScope ["self", "sire", "dam", "female", "number"] ["self", "sire", "dam", "female"] (defScope sHerd_enter) := ⟨rfl, rfl, rfl, by decide +kernel, rfl, by decide +kernel, by decide +kernel⟩
theorem ok_enter {t : Adr} (T : Top K mg t) : Ok P w K mg base 3 t.fHerd_enter ["self", "sire", "dam", "female"] (spEnter t.cAnimal t.cHerd) := by
  refine hid fun ng => ?_
  obtain ⟨fd, F, bd⟩ := T.fnHerd_enter
  refine ng ?_
  clear ng
  refine ⟨fd, bd, ?_⟩
  refine hid fun ng => ?_
  obtain ⟨fdA, bA, GA⟩ := ok_ani (P := P) (w := w) (base := base) T
  obtain ⟨fdT, bT, GT⟩ := ok_add (P := P) (w := w) (base := base) T
  obtain ⟨tm, hmost⟩ := T.iMOST_ANIMALS
  obtain ⟨tf, hfull⟩ := T.iBOOK_FULL
  refine ng ?_
  clear ng
  refine F.ok scEnter (fun vs H Q E h => ?_) (fun cdv A outer s H vs Q E hr h => ?_)
  · refine hid fun ng => ?_
    obtain ⟨p, g, a, x, rfl, _⟩ := h
    refine ng ?_
    clear ng
    rfl
  · refine hid fun ng => ?_
    obtain ⟨p, g, a, o, rfl, R, hlives, hlen, hpar, k⟩ := h
    obtain ⟨dx, hp⟩ := R.ob
    refine ng ?_
    clear ng
    refine ⟨_, pss_cons (ps_set (i := 4) scEnter.nd rfl (Or.inl rfl) (pe_callB call_len_seq (by rfl) T.blen PySem.boot_len (pa_cons (pe_fld (pv 0) rfl) pa_nil)))
      (pss_cons (ps_if (pt_cmpR op_eq (pv 4) (pe_glob (v := V.int 24) (by rfl) hmost ⟨_, rfl⟩) (nomark _)) (pss_one (ps_ret (pe_glob (v := V.int (-28)) (by rfl) hfull ⟨_, rfl⟩))) pss_nil)
      (pss_cons (ps_expr (pe_bm PySem.F.plainAttrs_list PySem.F.slot_list_append PySem.F.type_list_append mt_append (pe_fld (pv 0) rfl) (pa_cons (pe_make T.mkAnimal GA hr (by rfl) T.mgAnimal bA .nil pass0 (pa_cons (pv 3) pa_nil)) pa_nil)))
      (pss_cons (ps_expr (pe_call GT hr (by rfl) T.mgadd_to_table T.kpadd_to_table bT .nil pass0 (pa_cons (pe_fld (pv 0) rfl) (pa_cons (pv 1) (pa_cons (pv 2) pa_nil)))))
      (pss_one (ps_ret (pv 4)))))), ?_⟩
    refine ⟨_, rfl, p, _, dx, _, _, rfl, hp, T.clHerd, T.noHerd_animals, herd_animals _ _, g.l, _, rfl, .inl (SqL.of R.lst), ?_⟩
    refine ⟨_, rfl, rfl, _, rfl, ?_⟩
    have el : (g.as.map V.ref).length = a.length := by rw [List.length_map, R.len]
    by_cases hf : 24 ≤ a.length
    · have h24 : a.length = 24 := by omega
      rw [if_pos hf] at k
      have ed : decide (V.int ((g.as.map V.ref).length : Nat) = V.int 24) = true := by rw [el, h24]; rfl
      rw [ed]
      exact iteT k
    · rw [if_neg hf] at k
      have ed : decide (V.int ((g.as.map V.ref).length : Nat) = V.int 24) = false := by
        refine decide_eq_false fun q => ?_
        rw [el] at q
        injection q with q
        omega
      rw [ed]
      refine iteF ?_
      refine ⟨_, rfl, p, _, dx, _, _, rfl, hp, T.clHerd, T.noHerd_animals, herd_animals _ _, .inl ⟨rfl, _, SqL.of R.lst⟩, _, rfl, ?_⟩
      intro x dy nx ndy ney
      refine ⟨x, dy, _, rfl, upd_same, fun H1 h1 k1 => ⟨rfl, ?_⟩⟩
      have s1 : Same H H1 := Same.made nx ndy k1
      refine ⟨g.l, _, _, rfl, rfl, s1 _ _ R.lst, (by rw [el]; exact Nat.lt_of_le_of_lt hlen (by decide)), ?_⟩
      have R1 := R.same s1
      have npl : p ≠ g.l := ne_of hp R.lst (by intro z; cases z)
      have hx2 : x ≠ g.l := (ne_of_none R.lst nx).symm
      have hp2 : upd H1 g.l (.lst (g.as.map V.ref ++ [V.ref x])) p = some (.ins t.cHerd dx (herdL g.l g.tb)) := by rw [upd_ne npl]; exact s1 _ _ hp
      have T2 : TabAt (upd H1 g.l (.lst (g.as.map V.ref ++ [V.ref x]))) g.tb g.rs a.length (Km256.kin a) := by
        refine ⟨by rw [upd_ne R.lt.symm]; exact R1.tab.lst, R.tab.nd, R.tab.len, fun i r e => ?_⟩
        have : r ≠ g.l := fun z => R.nlr (by rw [← z]; exact List.mem_of_getElem? e)
        rw [upd_ne this]
        exact R1.tab.row i r e
      refine ⟨_, rfl, p, _, dx, _, _, rfl, hp2, T.clHerd, T.noHerd_table, herd_table _ _, _, rfl, _, rfl, g.tb, g.rs, a.length, Km256.kin a, parO o, rfl, T2, fun pq hpq => ?_, by omega, fun r H3 T3 hr3 c3 => ?_⟩
      · unfold parO at hpq
        rcases hpar with ⟨z1, z2⟩ | ⟨z1, z2⟩
        · rw [if_pos z1] at hpq
          cases hpq
        · rw [if_neg (by omega)] at hpq
          cases hpq
          exact ⟨z1, z2⟩
      · have hrl : r ≠ g.l := fun z => by
          rw [z, upd_same] at hr3
          cases hr3
        have hr1 : H1 r = none := by rw [upd_ne hrl] at hr3; exact hr3
        have hr0 : H r = none := s1.free hr1
        have nptb : ∀ {c : Addr} {dc : Addr} {fs}, (upd H1 g.l (.lst (g.as.map V.ref ++ [V.ref x]))) c = some (.ins t.cAnimal dc fs) → ¬ (c = g.tb ∨ c ∈ g.rs) := fun {c dc fs} e z => by
          rcases z with z | z
          · rw [z, T2.lst] at e; cases e
          · obtain ⟨i, hi⟩ := List.mem_iff_getElem?.mp z
            rw [T2.row i c hi] at e; cases e
        have hl3 : H3 g.l = some (.lst ((g.as ++ [x]).map V.ref)) := by
          refine c3.keep g.l _ (by rw [upd_same, List.map_append]; rfl) fun z => ?_
          rcases z with z | z
          · exact R.lt z
          · exact R.nlr z
        have hx3 : H3 x = some (.ins t.cAnimal dy (anL (fV o.female) (.bl true))) := c3.keep x _ (by rw [upd_ne hx2]; exact h1) (nptb (by rw [upd_ne hx2]; exact h1))
        have hp3 : H3 p = some (.ins t.cHerd dx (herdL g.l g.tb)) := c3.keep p _ hp2 fun z => by
          rcases z with z | z
          · rw [z, T2.lst] at hp2; cases hp2
          · obtain ⟨i, hi⟩ := List.mem_iff_getElem?.mp z
            rw [T2.row i p hi] at hp2; cases hp2
        have ho : oneL o = anL (fV o.female) (.bl true) := by
          unfold oneL
          rw [hlives]
        refine ⟨_, rfl, ?_⟩
        rw [el]
        have T4 := T3.congr (M' := Km256.kin (a ++ [o])) fun i j hi hj => grow_kin hpar hlen i j hi hj
        have el2 : (a ++ [o]).length = a.length + 1 := by rw [List.length_append]; rfl
        refine k ⟨g.l, g.tb, g.as ++ [x], g.rs ++ [r]⟩ H3 ⟨⟨dx, hp3⟩, hl3, ?_, ?_, fun j c y hj hy => ?_, by rw [el2]; exact T4, R.lt, fun m => ?_, fun m => ?_⟩ (((Chg.of_same s1).upd (.inl (.inr (.inl rfl)))).trans c3 fun b hb => ?_) fun b hb => ?_
        · refine nd_snoc R.nd fun m => ?_
          refine hid fun ng => ?_
          obtain ⟨dc, fs, hc⟩ := R.ins m
          refine ng ?_
          clear ng
          rw [nx] at hc
          cases hc
        · rw [List.length_append, R.len, el2]
          rfl
        · have hj : (g.as ++ [x])[j]? = some c := hj
          by_cases hlt : j < g.as.length
          · rw [List.getElem?_append_left hlt] at hj
            rw [List.getElem?_append_left (by rw [← R.len]; exact hlt)] at hy
            obtain ⟨dc, hc⟩ := R1.at_ j c y hj hy
            have hcl : c ≠ g.l := ne_of hc R1.lst (by intro z; cases z)
            have hc2 : (upd H1 g.l (.lst (g.as.map V.ref ++ [V.ref x]))) c = some (.ins t.cAnimal dc (oneL y)) := by rw [upd_ne hcl]; exact hc
            exact ⟨dc, c3.keep c _ hc2 (nptb hc2)⟩
          · have hj2 := (List.getElem?_eq_some_iff.mp hj).1
            rw [List.length_append] at hj2
            have hj3 : j < g.as.length + 1 := hj2
            have ej : j = g.as.length := by omega
            subst ej
            rw [List.getElem?_append_right (Nat.le_refl _), Nat.sub_self] at hj
            have ec : x = c := Option.some.inj hj
            subst ec
            rw [R.len, List.getElem?_append_right (Nat.le_refl _), Nat.sub_self] at hy
            have eo : o = y := Option.some.inj hy
            subst eo
            exact ⟨dy, by rw [ho]; exact hx3⟩
        · rcases List.mem_append.mp m with z | z
          · exact R.nlr z
          · exact hrl (List.mem_singleton.mp z).symm
        · rcases List.mem_append.mp m with z | z
          · exact R.pas z
          · exact ne_of_none hp nx (List.mem_singleton.mp z)
        · rcases hb with z | z
          · exact .inl (.inr (.inr (.inl z)))
          · exact .inl (.inr (.inr (.inr (.inr z))))
        · rcases hb with e | e | e | e | e
          · exact .inl (.inl e)
          · exact .inl (.inr (.inl e))
          · exact .inl (.inr (.inr (.inl e)))
          · rcases List.mem_append.mp e with z | z
            · exact .inl (.inr (.inr (.inr (.inl z))))
            · exact .inr (by rw [List.mem_singleton.mp z]; exact nx)
          · rcases List.mem_append.mp e with z | z
            · exact .inl (.inr (.inr (.inr (.inr z))))
            · exact .inr (by rw [List.mem_singleton.mp z]; exact hr0)
end
end Hp
end
section
set_option Elab.async false
set_option linter.all false
set_option maxRecDepth 100000
namespace Hp
open PySem L2
section
variable {P : Program} {w : World} {K : PySem.W.Frag} {mg : Str → Option Value} {base : Heap}
theorem fV_of {f : Nat} (h : ¬ 1 < f) : V.int (f : Int) = fV (f == 1) := by
  have : f = 0 ∨ f = 1 := by omega
  rcases this with rfl | rfl <;> rfl
theorem scTake : FnScope ["self", "female"] ["self", "female"] (defScope sHerd_take_in) := ⟨rfl, rfl, rfl, by decide +kernel, rfl, by decide +kernel, by decide +kernel⟩
theorem ok_take {t : Adr} (T : Top K mg t) : Ok P w K mg base 4 t.fHerd_take_in ["self", "female"] (spTake t.cAnimal t.cHerd) := by
  refine hid fun ng => ?_
  obtain ⟨fd, F, bd⟩ := T.fnHerd_take_in
  refine ng ?_
  clear ng
  refine ⟨fd, bd, ?_⟩
  refine hid fun ng => ?_
  obtain ⟨fdE, bE, GE⟩ := ok_enter (P := P) (w := w) (base := base) T
  obtain ⟨tb, hbad⟩ := T.iBAD_NUMBER
  refine ng ?_
  clear ng
  refine F.ok scTake (fun vs H Q E h => ?_) (fun cdv A outer s H vs Q E hr h => ?_)
  · refine hid fun ng => ?_
    obtain ⟨p, g, a, n, rfl, _⟩ := h
    refine ng ?_
    clear ng
    rfl
  · refine hid fun ng => ?_
    obtain ⟨p, g, a, n, rfl, R, W, k⟩ := h
    obtain ⟨dx, hp⟩ := R.ob
    refine ng ?_
    clear ng
    refine ⟨_, pss_cons (ps_if (pt_cmpR op_gt (pv 1) pe_int (nomark _)) (pss_one (ps_ret (pe_glob (v := V.int (-22)) (by rfl) hbad ⟨_, rfl⟩))) pss_nil)
      (pss_one (ps_ret (pe_meth (pv 0) T.clHerd T.meHerd_enter GE hr bE .nil pass0 (pa_cons pe_non (pa_cons pe_non (pa_cons (pv 1) pa_nil)))))), ?_⟩
    refine ⟨_, rfl, _, _, rfl, rfl, _, rfl, ?_⟩
    by_cases h1 : 1 < n
    · have ed : decide ((1 : Int) < (n : Int)) = true := decide_eq_true (by omega)
      rw [ed]
      refine iteT ?_
      have ea : Km256.act a (.new_ n) = (a, .num (-22)) := by simp only [Km256.act]; rw [if_pos h1]
      have q := k (-22) (by rw [ea])
      rw [ea] at q
      exact q.self R
    · have ed : decide ((1 : Int) < (n : Int)) = false := decide_eq_false (by omega)
      rw [ed]
      refine iteF ?_
      refine ⟨_, rfl, p, dx, _, rfl, hp, herd_no _ _ (by decide +kernel) (by decide +kernel), _, rfl, p, g, a, ⟨⟨255, 255⟩, n == 1, true⟩, by rw [fV_of h1]; rfl, R, rfl, W.len, .inl ⟨rfl, rfl⟩, ?_⟩
      by_cases h2 : 24 ≤ a.length
      · rw [if_pos h2]
        have ea : Km256.act a (.new_ n) = (a, .num (-28)) := by simp only [Km256.act]; rw [if_neg h1, if_pos (show Km256.MOST ≤ a.length from h2)]
        have q := k (-28) (by rw [ea])
        rw [ea] at q
        exact q.self R
      · rw [if_neg h2]
        have ea : Km256.act a (.new_ n) = (a ++ [⟨⟨255, 255⟩, n == 1, true⟩], .num (a.length : Nat)) := by simp only [Km256.act]; rw [if_neg h1, if_neg (show ¬ Km256.MOST ≤ a.length from h2)]
        have q := k (a.length : Nat) (by rw [ea])
        rw [ea] at q
        exact q
theorem scBreed : FnScope ["self", "sire", "dam", "female"] ["self", "sire", "dam", "female"] (defScope sHerd_breed) := ⟨rfl, rfl, rfl, by decide +kernel, rfl, by decide +kernel, by decide +kernel⟩
theorem ok_breed {t : Adr} (T : Top K mg t) : Ok P w K mg base 4 t.fHerd_breed ["self", "sire", "dam", "female"] (spBreed t.cAnimal t.cHerd) := by
  refine hid fun ng => ?_
  obtain ⟨fd, F, bd⟩ := T.fnHerd_breed
  refine ng ?_
  clear ng
  refine ⟨fd, bd, ?_⟩
  refine hid fun ng => ?_
  obtain ⟨fdE, bE, GE⟩ := ok_enter (P := P) (w := w) (base := base) T
  obtain ⟨fdH, bH, GH⟩ := (ok_holds (P := P) (w := w) (base := base) T).lift (show 1 ≤ 3 by decide)
  obtain ⟨fdF, bF, GF⟩ := (ok_fem (P := P) (w := w) (base := base) T).lift (show 1 ≤ 3 by decide)
  obtain ⟨tb, hbad⟩ := T.iBAD_NUMBER
  obtain ⟨tn, hnot⟩ := T.iNOT_IN_BOOK
  obtain ⟨ts, hsex⟩ := T.iWRONG_SEX
  refine ng ?_
  clear ng
  refine F.ok scBreed (fun vs H Q E h => ?_) (fun cdv A outer s H vs Q E hr h => ?_)
  · refine hid fun ng => ?_
    obtain ⟨p, g, a, i, d, n, rfl, _⟩ := h
    refine ng ?_
    clear ng
    rfl
  · refine hid fun ng => ?_
    obtain ⟨p, g, a, i, d, n, rfl, R, W, k⟩ := h
    obtain ⟨dx, hp⟩ := R.ob
    refine ng ?_
    clear ng
    refine ⟨_, pss_cons (ps_if (pt_cmpR op_gt (pv 3) pe_int (nomark _)) (pss_one (ps_ret (pe_glob (v := V.int (-22)) (by rfl) hbad ⟨_, rfl⟩))) pss_nil)
      (pss_cons (ps_if (pw_or (pt_not (pt_val (pe_meth (pv 0) T.clHerd T.meHerd_holds GH hr bH .nil pass0 (pa_cons (pv 1) pa_nil)))) (pw_or1 (pt_not (pt_val (pe_meth (pv 0) T.clHerd T.meHerd_holds GH hr bH .nil pass0 (pa_cons (pv 2) pa_nil)))))).pt
        (pss_one (ps_ret (pe_glob (v := V.int (-2)) (by rfl) hnot ⟨_, rfl⟩))) pss_nil)
      (pss_cons (ps_if (pw_or (pt_val (pe_meth (pv 0) T.clHerd T.meHerd_is_female GF hr bF .nil pass0 (pa_cons (pv 1) pa_nil))) (pw_or1 (pt_not (pt_val (pe_meth (pv 0) T.clHerd T.meHerd_is_female GF hr bF .nil pass0 (pa_cons (pv 2) pa_nil)))))).pt
        (pss_one (ps_ret (pe_glob (v := V.int (-13)) (by rfl) hsex ⟨_, rfl⟩))) pss_nil)
      (pss_one (ps_ret (pe_meth (pv 0) T.clHerd T.meHerd_enter GE hr bE .nil pass0 (pa_cons (pv 1) (pa_cons (pv 2) (pa_cons (pv 3) pa_nil)))))))), ?_⟩
    refine ⟨_, rfl, _, _, rfl, rfl, _, rfl, ?_⟩
    by_cases h1 : 1 < n
    · have ed : decide ((1 : Int) < (n : Int)) = true := decide_eq_true (by omega)
      rw [ed]
      refine iteT ?_
      have ea : Km256.act a (.born i d n) = (a, .num (-22)) := by simp only [Km256.act]; rw [if_pos h1]
      have q := k (-22) (by rw [ea])
      rw [ea] at q
      exact q.self R
    · have ed : decide ((1 : Int) < (n : Int)) = false := decide_eq_false (by omega)
      rw [ed]
      refine iteF ?_
      have refuse2 : (a.length ≤ i ∨ a.length ≤ d) → Q (V.int (-2)) H := fun hh => by
        have ea : Km256.act a (.born i d n) = (a, .num (-2)) := by simp only [Km256.act]; rw [if_neg h1, if_pos hh]
        have q := k (-2) (by rw [ea])
        rw [ea] at q
        exact q.self R
      refine ⟨_, rfl, p, dx, _, rfl, hp, herd_no _ _ (by decide +kernel) (by decide +kernel), _, rfl, p, g, a, i, rfl, R, _, rfl, ?_⟩
      by_cases hi : i < a.length
      · rw [decide_eq_true hi]
        refine iteF ?_
        refine ⟨_, rfl, p, dx, _, rfl, hp, herd_no _ _ (by decide +kernel) (by decide +kernel), _, rfl, p, g, a, d, rfl, R, _, rfl, ?_⟩
        by_cases hd : d < a.length
        · rw [decide_eq_true hd]
          refine iteF ?_
          have hsd : ¬ (a.length ≤ i ∨ a.length ≤ d) := by omega
          have refuse13 : ((Km256.one a i).female = true ∨ (Km256.one a d).female = false) → Q (V.int (-13)) H := fun hh => by
            have ea : Km256.act a (.born i d n) = (a, .num (-13)) := by simp only [Km256.act]; rw [if_neg h1, if_neg hsd, if_pos hh]
            have q := k (-13) (by rw [ea])
            rw [ea] at q
            exact q.self R
          refine ⟨_, rfl, p, dx, _, rfl, hp, herd_no _ _ (by decide +kernel) (by decide +kernel), _, rfl, p, g, a, i, rfl, R, hi, _, rfl, ?_⟩
          by_cases hfi : (Km256.one a i).female = true
          · rw [hfi]
            exact iteT (iteT (refuse13 (.inl hfi)))
          · have hfi' : (Km256.one a i).female = false := by simpa using hfi
            rw [hfi']
            refine iteF ?_
            refine ⟨_, rfl, p, dx, _, rfl, hp, herd_no _ _ (by decide +kernel) (by decide +kernel), _, rfl, p, g, a, d, rfl, R, hd, _, rfl, ?_⟩
            by_cases hfd : (Km256.one a d).female = true
            · rw [hfd]
              refine iteF ?_
              have hlen := W.len
              have hsx : ¬ ((Km256.one a i).female = true ∨ (Km256.one a d).female = false) := by rw [hfd]; simp [hfi']
              refine ⟨_, rfl, p, dx, _, rfl, hp, herd_no _ _ (by decide +kernel) (by decide +kernel), _, rfl, _, rfl, _, rfl, p, g, a, ⟨⟨i, d⟩, n == 1, true⟩, by rw [fV_of h1]; unfold parO; rw [if_neg (show ¬ i = 255 by omega)]; rfl, R, rfl, W.len, .inr ⟨hi, hd⟩, ?_⟩
              by_cases h2 : 24 ≤ a.length
              · rw [if_pos h2]
                have ea : Km256.act a (.born i d n) = (a, .num (-28)) := by simp only [Km256.act]; rw [if_neg h1, if_neg hsd, if_neg hsx, if_pos (show Km256.MOST ≤ a.length from h2)]
                have q := k (-28) (by rw [ea])
                rw [ea] at q
                exact q.self R
              · rw [if_neg h2]
                have ea : Km256.act a (.born i d n) = (a ++ [⟨⟨i, d⟩, n == 1, true⟩], .num (a.length : Nat)) := by simp only [Km256.act]; rw [if_neg h1, if_neg hsd, if_neg hsx, if_neg (show ¬ Km256.MOST ≤ a.length from h2)]
                have q := k (a.length : Nat) (by rw [ea])
                rw [ea] at q
                exact q
            · have hfd' : (Km256.one a d).female = false := by simpa using hfd
              rw [hfd']
              exact iteT (refuse13 (.inr hfd'))
        · rw [decide_eq_false hd]
          exact iteT (refuse2 (.inr (by omega)))
      · rw [decide_eq_false hi]
        exact iteT (iteT (refuse2 (.inl (by omega))))
theorem scGo : FnScope ["self", "number", "animal"] ["self", "number"] (defScope sHerd_let_go) := ⟨rfl, rfl, rfl, by decide +kernel, rfl, by decide +kernel, by decide +kernel⟩
theorem HerdAt.gone {C D : Addr} {H : Hp} {p c dc : Addr} {g : HL} {a : Km256.Abs} {i : Nat} (R : HerdAt C D H p g a) (hi : i < a.length) (hc : g.as[i]? = some c) (hcc : H c = some (.ins C dc (oneL (Km256.one a i)))) :
    HerdAt C D (upd H c (.ins C dc (oneL { Km256.one a i with lives := false }))) p g (a.set i { Km256.one a i with lives := false }) := by
  obtain ⟨dp, hp⟩ := R.ob
  have hcp : p ≠ c := fun e => R.pas (by rw [e]; exact List.mem_of_getElem? hc)
  have nl : ∀ b xs, H b = some (.lst xs) → b ≠ c := fun b xs e => ne_of e hcc (by intro z; cases z)
  have el : (a.set i { Km256.one a i with lives := false }).length = a.length := List.length_set ..
  refine ⟨⟨dp, by rw [upd_ne hcp]; exact hp⟩, by rw [upd_ne (nl _ _ R.lst)]; exact R.lst, R.nd, by rw [el]; exact R.len, fun j e y hj hy => ?_, ?_, R.lt, R.nlr, R.pas⟩
  · by_cases hji : i = j
    · subst hji
      have ec : c = e := Option.some.inj (hc.symm.trans hj)
      subst ec
      rw [List.getElem?_set_self hi] at hy
      have ey := Option.some.inj hy
      subst ey
      exact ⟨dc, upd_same⟩
    · rw [List.getElem?_set_ne hji] at hy
      obtain ⟨de, he⟩ := R.at_ j e y hj hy
      have hec : e ≠ c := fun q => hji (nd_ix R.nd (by rw [hc, ← q]) hj)
      exact ⟨de, by rw [upd_ne hec]; exact he⟩
  · rw [el]
    have T1 : TabAt (upd H c (.ins C dc (oneL { Km256.one a i with lives := false }))) g.tb g.rs a.length (Km256.kin a) := ⟨by rw [upd_ne (nl _ _ R.tab.lst)]; exact R.tab.lst, R.tab.nd, R.tab.len, fun i r e => by rw [upd_ne (nl _ _ (R.tab.row i r e))]; exact R.tab.row i r e⟩
    exact T1.congr fun x y _ _ => (Hw.kin_book (Hw.book_gone a i) x y).symm
theorem ok_go {t : Adr} (T : Top K mg t) : Ok P w K mg base 4 t.fHerd_let_go ["self", "number"] (spGo t.cAnimal t.cHerd) := by
  refine hid fun ng => ?_
  obtain ⟨fd, F, bd⟩ := T.fnHerd_let_go
  refine ng ?_
  clear ng
  refine ⟨fd, bd, ?_⟩
  refine hid fun ng => ?_
  obtain ⟨fdH, bH, GH⟩ := (ok_holds (P := P) (w := w) (base := base) T).lift (show 1 ≤ 3 by decide)
  obtain ⟨tn, hnot⟩ := T.iNOT_IN_BOOK
  obtain ⟨tg, hgone⟩ := T.iGONE_ALREADY
  refine ng ?_
  clear ng
  refine F.ok scGo (fun vs H Q E h => ?_) (fun cdv A outer s H vs Q E hr h => ?_)
  · refine hid fun ng => ?_
    obtain ⟨p, g, a, n, rfl, _⟩ := h
    refine ng ?_
    clear ng
    rfl
  · refine hid fun ng => ?_
    obtain ⟨p, g, a, n, rfl, R, W, k⟩ := h
    obtain ⟨dx, hp⟩ := R.ob
    refine ng ?_
    clear ng
    refine ⟨_, pss_cons (ps_if (pt_not (pt_val (pe_meth (pv 0) T.clHerd T.meHerd_holds GH hr bH .nil pass0 (pa_cons (pv 1) pa_nil)))) (pss_one (ps_ret (pe_glob (v := V.int (-2)) (by rfl) hnot ⟨_, rfl⟩))) pss_nil)
      (pss_cons (ps_set (i := 2) scGo.nd rfl (Or.inl rfl) (pe_ix ix_list (pe_fld (pv 0) rfl) (pv 1) (fun _ _ => rfl)))
      (pss_cons (ps_if (pt_not (pt_val (pe_fld (pv 2) rfl))) (pss_one (ps_ret (pe_glob (v := V.int (-11)) (by rfl) hgone ⟨_, rfl⟩))) pss_nil)
      (pss_cons (ps_fld (pv 2) pe_bl rfl) (pss_one (ps_ret pe_int))))), ?_⟩
    refine ⟨_, rfl, p, dx, _, rfl, hp, herd_no _ _ (by decide +kernel) (by decide +kernel), _, rfl, p, g, a, n, rfl, R, _, rfl, ?_⟩
    by_cases hn : n < a.length
    · rw [decide_eq_true hn]
      refine iteF ?_
      have hn' : n < g.as.length := by rw [R.len]; exact hn
      have hc : g.as[n]? = some g.as[n] := List.getElem?_eq_getElem hn'
      have hx : a[n]? = some (Km256.one a n) := by rw [Hw.one_get (List.getElem?_eq_getElem hn)]; exact List.getElem?_eq_getElem hn
      obtain ⟨dc, hcc⟩ := R.at_ n _ _ hc hx
      refine ⟨_, rfl, p, _, dx, _, _, rfl, hp, T.clHerd, T.noHerd_animals, herd_animals _ _, _, rfl, g.l, _, _, _, rfl, rfl, SqL.of R.lst, atI_nat (v := V.ref g.as[n]) (by rw [List.getElem?_map, hc]; rfl), ?_⟩
      refine ⟨_, rfl, g.as[n], _, dc, _, _, rfl, hcc, T.clAnimal, T.noAnimal_living, an_living _ _, _, rfl, ?_⟩
      have hnn : ¬ a.length ≤ n := by omega
      by_cases hl : (Km256.one a n).lives = false
      · rw [hl]
        refine iteT ?_
        have ea : Km256.act a (.gone n) = (a, .num (-11)) := by simp only [Km256.act]; rw [if_neg hnn, if_pos hl]
        have q := k (-11) (by rw [ea])
        rw [ea] at q
        exact q.self R
      · have hl' : (Km256.one a n).lives = true := by simpa using hl
        rw [hl']
        refine iteF ?_
        refine ⟨_, rfl, g.as[n], _, dc, _, rfl, hcc, T.clAnimal, T.noAnimal_living, (by show 2 < 1000; decide), ?_⟩
        have ea : Km256.act a (.gone n) = (a.set n { Km256.one a n with lives := false }, .num 0) := by simp only [Km256.act]; rw [if_neg hnn, if_neg hl]
        have q := k 0 (by rw [ea])
        rw [ea] at q
        have eo : putF "living" (V.bl false) (oneL (Km256.one a n)) = oneL { Km256.one a n with lives := false } := an_gone _ _ _
        have R' := R.gone hn hc hcc
        rw [← eo] at R'
        exact q g _ R' (Chg.refl.upd (.inl (.inr (.inr (.inr (.inl (List.mem_of_getElem? hc))))))) fun b hb => .inl hb
    · rw [decide_eq_false hn]
      refine iteT ?_
      have ea : Km256.act a (.gone n) = (a, .num (-2)) := by simp only [Km256.act]; rw [if_pos (by omega)]
      have q := k (-2) (by rw [ea])
      rw [ea] at q
      exact q.self R
end
end Hp
end
section
set_option Elab.async false
set_option linter.all false
set_option maxRecDepth 100000
namespace Hp
open PySem L2
theorem pe_fldK {X : Cx} {K : PySem.W.Frag} {e : Expr} {f : Str} {pos : Pos} {ta : TE} (hK : X.K = K) (he : PE X e ta) (hb : attributeBase e f X.env (eval e X.env) = eval e X.env) : PE X (.Attribute e f pos) (tFld K ta f) := by
  subst hK
  exact pe_fld he hb
noncomputable def TellQ (H : Hp) (a : Km256.Abs) (c : Km256.Call) (Q : VK) : Prop := ∀ r H', Same H H' → H r = none → H' r = some (.lst ((Km256Neutral.told (Km256.act a c).2).map V.int)) → Q (.ref r) H'
noncomputable def spLN (C D : Addr) : Sp := fun vs H Q _ => ∃ (p : Addr) (g : HL) (a : Km256.Abs), vs = [.ref p] ∧ HerdAt C D H p g a ∧ a.length ≤ 24 ∧ ∀ r H', Same H H' → H r = none → H' r = some (.lst (nats (Km256.living a))) → Q (.ref r) H'
noncomputable def spTK (C D : Addr) : Sp := fun vs H Q _ => ∃ (p : Addr) (g : HL) (a : Km256.Abs) (i j : Nat), vs = [.ref p, .int i, .int j] ∧ HerdAt C D H p g a ∧ TellQ H a (.kin i j) Q
noncomputable def spTH (C D : Addr) : Sp := fun vs H Q _ => ∃ (p : Addr) (g : HL) (a : Km256.Abs), vs = [.ref p] ∧ HerdAt C D H p g a ∧ Hw.Wf a ∧ TellQ H a .herd Q
section
variable {P : Program} {w : World} {K : PySem.W.Frag} {mg : Str → Option Value} {base : Heap}
theorem scLN : FnScope ["self", "number"] ["self"] (defScope sHerd_living_numbers) := ⟨rfl, rfl, rfl, by decide +kernel, rfl, by decide +kernel, by decide +kernel⟩
theorem ok_ln {t : Adr} (T : Top K mg t) : Ok P w K mg base 1 t.fHerd_living_numbers ["self"] (spLN t.cAnimal t.cHerd) := by
  refine hid fun ng => ?_
  obtain ⟨fd, F, bd⟩ := T.fnHerd_living_numbers
  refine ng ?_
  clear ng
  refine ⟨fd, bd, ?_⟩
  refine F.ok scLN (fun vs H Q E h => ?_) (fun cdv A outer s H vs Q E hr h => ?_)
  · refine hid fun ng => ?_
    obtain ⟨p, g, a, rfl, _⟩ := h
    refine ng ?_
    clear ng
    rfl
  · refine hid fun ng => ?_
    obtain ⟨p, g, a, rfl, R, h24, k⟩ := h
    obtain ⟨dx, hp⟩ := R.ob
    refine ng ?_
    clear ng
    refine ⟨_, pss_one (ps_ret (pe_lc (own := [("number", 1)]) rfl scLN.nd (pi_range1 (by rfl) T.brange (pa_cons (pe_callB call_len_seq (by rfl) T.blen PySem.boot_len (pa_cons (pe_fld (pv 0) rfl) pa_nil)) pa_nil)) (blkOk_by (N := ["self", "number"]) (sc := defScope sHerd_living_numbers) (by decide +kernel))
      (fun _ _ _ _ _ => pg_name (i := 1) scLN.nd rfl (Or.inl rfl)) (fun _ _ _ _ _ => pts_one (pt_val (pe_fldK (K := K) rfl (pe_ix (r := rIxL K) ix_list (pe_fldK (K := K) rfl (pv 0) rfl) (pv 1) (fun _ _ => rfl)) rfl)))
      (fun _ _ _ _ _ => pv 1))), ?_⟩
    have el : (((g.as.map V.ref).length : Nat) : Int).toNat = a.length := by rw [List.length_map, R.len]; rfl
    refine ⟨_, rfl, p, _, dx, _, _, rfl, hp, T.clHerd, T.noHerd_animals, herd_animals _ _, g.l, _, rfl, .inl (SqL.of R.lst), _, rfl, by omega, by rw [List.length_map, R.len]; omega, fun D hD => ?_⟩
    rw [el]
    refine lcf_range (fun i => (Km256.one a i).lives) (fun i y _ => y = V.int ((i : Nat) : Int)) hD (line1000 (by omega)) (fun _ _ _ _ _ h => h) (fun i H2 Q2 N hi s2 _ hQ hN => ?_) (fun H2 acc s2 hacc hp2 => ?_)
    · have R2 := R.same s2
      obtain ⟨dx2, hp'⟩ := R2.ob
      have hi' : i < g.as.length := by rw [R.len]; exact hi
      have hc : g.as[i]? = some g.as[i] := List.getElem?_eq_getElem hi'
      have hx : a[i]? = some a[i] := List.getElem?_eq_getElem hi
      obtain ⟨dc, hcc⟩ := R2.at_ i _ _ hc hx
      have ej : (0 : Int) + (i : Nat) = ((i : Nat) : Int) := by omega
      rw [ej]
      refine ⟨rfl, _, rfl, p, _, dx2, _, _, rfl, hp', T.clHerd, T.noHerd_animals, herd_animals _ _, _, rfl, g.l, _, _, _, rfl, rfl, SqL.of R2.lst, atI_nat (v := V.ref g.as[i]) (by rw [List.getElem?_map, hc]; rfl), _, _, dc, _, _, rfl, hcc, T.clAnimal, T.noAnimal_living, an_living _ _, _, rfl, ?_⟩
      have e1 : (Km256.one a i).lives = a[i].lives := by rw [Hw.one_get hx]
      by_cases hl : a[i].lives = true
      · rw [hl]
        refine iteT ⟨_, rfl, ?_⟩
        exact hQ (by rw [e1]; exact hl) _ _ (Same.refl _) rfl
      · have hl' : a[i].lives = false := by simpa using hl
        rw [hl']
        refine iteF ?_
        exact hN (by rw [e1]; exact hl') _ (Same.refl _)
    · have e := paired_eq (H := H2) hp2
      refine k D H2 s2 hD ?_
      rw [hacc, e]
      rfl
theorem scTK : FnScope ["self", "number", "other"] ["self", "number", "other"] (defScope sHerd_tell_kin) := ⟨rfl, rfl, rfl, by decide +kernel, rfl, by decide +kernel, by decide +kernel⟩
theorem ok_tk {t : Adr} (T : Top K mg t) : Ok P w K mg base 2 t.fHerd_tell_kin ["self", "number", "other"] (spTK t.cAnimal t.cHerd) := by
  refine hid fun ng => ?_
  obtain ⟨fd, F, bd⟩ := T.fnHerd_tell_kin
  refine ng ?_
  clear ng
  refine ⟨fd, bd, ?_⟩
  refine hid fun ng => ?_
  obtain ⟨fdH, bH, GH⟩ := ok_holds (P := P) (w := w) (base := base) T
  obtain ⟨tn, hnot⟩ := T.iNOT_IN_BOOK
  refine ng ?_
  clear ng
  refine F.ok scTK (fun vs H Q E h => ?_) (fun cdv A outer s H vs Q E hr h => ?_)
  · refine hid fun ng => ?_
    obtain ⟨p, g, a, i, j, rfl, _⟩ := h
    refine ng ?_
    clear ng
    rfl
  · refine hid fun ng => ?_
    obtain ⟨p, g, a, i, j, rfl, R, k⟩ := h
    obtain ⟨dx, hp⟩ := R.ob
    refine ng ?_
    clear ng
    refine ⟨_, pss_cons (ps_if (pw_or (pt_not (pt_val (pe_meth (pv 0) T.clHerd T.meHerd_holds GH hr bH .nil pass0 (pa_cons (pv 1) pa_nil)))) (pw_or1 (pt_not (pt_val (pe_meth (pv 0) T.clHerd T.meHerd_holds GH hr bH .nil pass0 (pa_cons (pv 2) pa_nil)))))).pt
        (pss_one (ps_ret (pe_lst (pa_cons (pe_glob (v := V.int (-2)) (by rfl) hnot ⟨_, rfl⟩) pa_nil)))) pss_nil)
      (pss_one (ps_ret (pe_lst (pa_cons pe_int (pa_cons (pe_ix ix_list (pe_ix ix_list (pe_fld (pv 0) rfl) (pv 1) (fun _ _ => rfl)) (pv 2) (fun _ _ => rfl)) pa_nil))))), ?_⟩
    have refuse : (a.length ≤ i ∨ a.length ≤ j) → 1 ≤ sizeLine ∧ ∀ r, H r = none → Q (.ref r) (upd H r (.lst [V.int (-2)])) := fun hh => by
      refine ⟨by decide, fun r hr0 => k r _ (Same.upd hr0) hr0 ?_⟩
      have ea : Km256.act a (.kin i j) = (a, .num (-2)) := by simp only [Km256.act]; rw [if_pos hh]
      rw [upd_same, ea]
      rfl
    refine ⟨_, rfl, p, dx, _, rfl, hp, herd_no _ _ (by decide +kernel) (by decide +kernel), _, rfl, p, g, a, i, rfl, R, _, rfl, ?_⟩
    by_cases hi : i < a.length
    · rw [decide_eq_true hi]
      refine iteF ?_
      refine ⟨_, rfl, p, dx, _, rfl, hp, herd_no _ _ (by decide +kernel) (by decide +kernel), _, rfl, p, g, a, j, rfl, R, _, rfl, ?_⟩
      by_cases hj : j < a.length
      · rw [decide_eq_true hj]
        refine iteF ?_
        refine hid fun ng => ?_
        obtain ⟨r1, e1, e2⟩ := R.tab.get hi
        refine ng ?_
        clear ng
        refine ⟨_, rfl, p, _, dx, _, _, rfl, hp, T.clHerd, T.noHerd_table, herd_table _ _, _, rfl, g.tb, _, _, _, rfl, rfl, SqL.of R.tab.lst, atI_nat e1, _, rfl, r1, _, _, _, rfl, rfl, SqL.of e2, atI_nat (row_at hj), by show 2 ≤ sizeLine; decide, fun r hr0 => ?_⟩
        refine k r _ (Same.upd hr0) hr0 ?_
        have ea : Km256.act a (.kin i j) = (a, .told 0 (Km256.kin a i j)) := by simp only [Km256.act]; rw [if_neg (by omega)]
        rw [upd_same, ea]
        rfl
      · rw [decide_eq_false hj]
        exact iteT (refuse (.inr (by omega)))
    · rw [decide_eq_false hi]
      exact iteT (iteT (refuse (.inl (by omega))))
theorem scTH : FnScope ["self", "living", "number"] ["self"] (defScope sHerd_tell_herd) := ⟨rfl, rfl, rfl, by decide +kernel, rfl, by decide +kernel, by decide +kernel⟩
theorem ok_th {t : Adr} (T : Top K mg t) : Ok P w K mg base 2 t.fHerd_tell_herd ["self"] (spTH t.cAnimal t.cHerd) := by
  refine hid fun ng => ?_
  obtain ⟨fd, F, bd⟩ := T.fnHerd_tell_herd
  refine ng ?_
  clear ng
  refine ⟨fd, bd, ?_⟩
  refine hid fun ng => ?_
  obtain ⟨fdL, bL, GL⟩ := ok_ln (P := P) (w := w) (base := base) T
  obtain ⟨fdK, bK, GK⟩ := ok_ka (P := P) (w := w) (base := base) T
  refine ng ?_
  clear ng
  refine F.ok scTH (fun vs H Q E h => ?_) (fun cdv A outer s H vs Q E hr h => ?_)
  · refine hid fun ng => ?_
    obtain ⟨p, g, a, rfl, _⟩ := h
    refine ng ?_
    clear ng
    rfl
  · refine hid fun ng => ?_
    obtain ⟨p, g, a, rfl, R, W, k⟩ := h
    obtain ⟨dx, hp⟩ := R.ob
    refine ng ?_
    clear ng
    refine ⟨_, pss_cons (ps_set (i := 1) scTH.nd rfl (Or.inr rfl) (pe_meth0 (pv 0) T.clHerd T.meHerd_living_numbers GL hr bL .nil pass0))
      (pss_one (ps_ret (pe_lst (pa_cons (pe_callB call_len_seq (by rfl) T.blen PySem.boot_len (pa_cons (pv 1) pa_nil)) (pa_cons (pe_callB (cr_sum rfl) (by rfl) T.bsum boot_sum6 (pa_cons (pe_lc (own := [("number", 2)]) rfl scTH.nd (pi_list (pv 1)) (blkOk_by (N := ["self", "living", "number"]) (sc := defScope sHerd_tell_herd) (by decide +kernel))
        (fun _ _ _ _ _ => pg_name (i := 2) scTH.nd rfl (Or.inl rfl)) (fun _ _ _ _ _ => pts_nil)
        (fun _ _ _ _ _ => pe_call GK hr (by rfl) T.mgkin_to_all T.kpkin_to_all bK .nil pass0 (pa_cons (pe_fldK (K := K) rfl (pv 0) rfl) (pa_cons (pv 2) (pa_cons (pv 1) pa_nil))))) pa_nil)) pa_nil))))), ?_⟩
    have h24 := W.len
    have hll : (Km256.living a).length ≤ 24 := by
      have := List.length_filter_le (fun i => (Km256.one a i).lives) (List.range a.length)
      rw [List.length_range] at this
      exact Nat.le_trans this h24
    refine ⟨_, rfl, p, dx, _, rfl, hp, herd_no _ _ (by decide +kernel) (by decide +kernel), p, g, a, rfl, R, h24, fun l1 H1 s1 hl1 hl1' => ?_⟩
    have R1 := R.same s1
    obtain ⟨dx1, hp1⟩ := R1.ob
    refine ⟨_, rfl, l1, _, rfl, .inl (SqL.of hl1'), _, rfl, l1, rfl, ⟨_, SqL.of hl1'⟩, fun D hD => ?_⟩
    refine lcf_list (fun _ => true) (fun i y _ => ∃ z, (castL ((Km256.living a).map (Km256.toHerd a)))[i]? = some z ∧ y = V.int z) hD (SqL.of hl1') (by rw [nats_len]; exact line1000 (by omega)) (fun _ _ _ _ _ h => h) (fun i x H2 Q2 N hx s2 _ hQ _ => ?_) (fun H2 acc s2 hacc hp2 => ?_)
    · refine hid fun ng => ?_
      obtain ⟨m, hm, rfl⟩ := nats_get hx
      refine ng ?_
      clear ng
      have R2 := R1.same s2
      refine ⟨rfl, yes_go ?_⟩
      refine ⟨_, rfl, p, _, dx1, _, _, rfl, s2 _ _ hp1, T.clHerd, T.noHerd_table, herd_table _ _, _, rfl, _, rfl, g.tb, l1, g.rs, a.length, Km256.kin a, m, Km256.living a, rfl, R2.tab, Hw.living_lt (List.mem_of_getElem? hm), s2 _ _ hl1', fun j hj => Hw.living_lt hj, line1000 (by omega), fun H3 s3 => ?_⟩
      refine hQ rfl _ _ s3 ⟨_, by unfold castL; rw [List.getElem?_map, List.getElem?_map, hm]; rfl, ?_⟩
      unfold Km256.toHerd
      rw [Hw.sum56]
    · rw [nats_len] at hp2
      have e := ints_of (H := H2) (by unfold castL; rw [List.length_map, List.length_map]) hp2
      refine ⟨D, _, rfl, SqL.of (by rw [hacc, e]), by show 2 ≤ sizeLine; decide, fun r hr0 => ?_⟩
      have s02 := s1.trans s2
      refine k r _ (s02.trans (Same.upd hr0)) (s02.free hr0) ?_
      rw [upd_same, nats_len]
      show some (HO.lst [V.int _, V.int (castL _).sum]) = some (HO.lst [V.int _, V.int _])
      unfold castL
      rw [sum_cast, ← Hw.sum56]
end
end Hp
end
section
set_option Elab.async false
set_option linter.all false
set_option maxRecDepth 100000
namespace Hp
open PySem L2
noncomputable def spTP (C D : Addr) : Sp := fun vs H Q _ => ∃ (p : Addr) (g : HL) (a : Km256.Abs) (y : Nat), vs = [.ref p, .int y] ∧ HerdAt C D H p g a ∧ Hw.Wf a ∧ TellQ H a (.plan y) Q
theorem filt_of {l : List Nat} {q : Nat → Bool} {acc : List V} {H : Hp} (h : Paired (fun i y => ∃ m, l[i]? = some m ∧ y = V.int ((m : Nat) : Int)) ((List.range l.length).filter fun i => q (l.getD i 0)) acc) : acc = nats (l.filter q) := by
  have h2 : Paired (fun i y => y = V.int ((l.getD i 0 : Nat) : Int)) ((List.range l.length).filter fun i => q (l.getD i 0)) acc := Paired.mapP h fun i y ⟨m, e1, e2⟩ => by
    rw [e2, List.getD_eq_getElem?_getD, e1]
    rfl
  rw [paired_eq (H := H) h2]
  have e : l.filter q = ((List.range l.length).filter fun i => q (l.getD i 0)).map fun i => l.getD i 0 := by
    conv => lhs; rw [← Hw.range_getD 0 l]
    rw [List.filter_map]
    rfl
  rw [e]
  unfold nats
  rw [List.map_map]
  rfl
section
variable {P : Program} {w : World} {K : PySem.W.Frag} {mg : Str → Option Value} {base : Heap}
theorem scTP : FnScope ["self", "young", "living", "males", "females", "number"] ["self", "young"] (defScope sHerd_tell_plan) := ⟨rfl, rfl, rfl, by decide +kernel, rfl, by decide +kernel, by decide +kernel⟩
theorem ok_tp {t : Adr} (T : Top K mg t) : Ok P w K mg base 13 t.fHerd_tell_plan ["self", "young"] (spTP t.cAnimal t.cHerd) := by
  refine hid fun ng => ?_
  obtain ⟨fd, F, bd⟩ := T.fnHerd_tell_plan
  refine ng ?_
  clear ng
  refine ⟨fd, bd, ?_⟩
  refine hid fun ng => ?_
  obtain ⟨fdL, bL, GL⟩ := (ok_ln (P := P) (w := w) (base := base) T).lift (show 1 ≤ 12 by decide)
  obtain ⟨fdF, bF, GF⟩ := (ok_fem (P := P) (w := w) (base := base) T).lift (show 1 ≤ 12 by decide)
  obtain ⟨fdP, bP, GP⟩ := ok_pn (P := P) (w := w) (base := base) T
  obtain ⟨tm, hmost⟩ := T.iMOST_YOUNG
  obtain ⟨tb, hbad⟩ := T.iBAD_NUMBER
  obtain ⟨tn, hno⟩ := T.iNO_PAIR
  refine ng ?_
  clear ng
  refine F.ok scTP (fun vs H Q E h => ?_) (fun cdv A outer s H vs Q E hr h => ?_)
  · refine hid fun ng => ?_
    obtain ⟨p, g, a, y, rfl, _⟩ := h
    refine ng ?_
    clear ng
    rfl
  · refine hid fun ng => ?_
    obtain ⟨p, g, a, y, rfl, R, W, k⟩ := h
    obtain ⟨dx, hp⟩ := R.ob
    refine ng ?_
    clear ng
    refine ⟨_, pss_cons (ps_if (pw_or (pt_cmpR op_lt (pv 1) pe_int (nomark _)) (pw_or1 (pt_cmpR op_gt (pv 1) (pe_glob (v := V.int 8) (by rfl) hmost ⟨_, rfl⟩) (nomark _)))).pt (pss_one (ps_ret (pe_lst (pa_cons (pe_glob (v := V.int (-22)) (by rfl) hbad ⟨_, rfl⟩) pa_nil)))) pss_nil)
      (pss_cons (ps_set (i := 2) scTP.nd rfl (Or.inl rfl) (pe_meth0 (pv 0) T.clHerd T.meHerd_living_numbers GL hr bL .nil pass0))
      (pss_cons (ps_setLc (i := 3) (own := [("number", 5)]) rfl scTP.nd rfl rfl (sw_true rfl rfl rfl (by decide +kernel)) (pi_list (pv 2)) (blkOk_by (N := ["self", "young", "living", "males", "females", "number"]) (sc := defScope sHerd_tell_plan) (by decide +kernel))
        (fun _ _ _ _ _ => pg_name (i := 5) scTP.nd rfl (Or.inl rfl)) (fun _ _ _ _ _ => pts_one (pt_not (pt_val (pe_meth (pv 0) T.clHerd T.meHerd_is_female GF hr bF .nil pass0 (pa_cons (pv 5) pa_nil))))) (fun _ _ _ _ _ => pv 5))
      (pss_cons (ps_setLc (i := 4) (own := [("number", 5)]) rfl scTP.nd rfl rfl (sw_true rfl rfl rfl (by decide +kernel)) (pi_list (pv 2)) (blkOk_by (N := ["self", "young", "living", "males", "females", "number"]) (sc := defScope sHerd_tell_plan) (by decide +kernel))
        (fun _ _ _ _ _ => pg_name (i := 5) scTP.nd rfl (Or.inl rfl)) (fun _ _ _ _ _ => pts_one (pt_val (pe_meth (pv 0) T.clHerd T.meHerd_is_female GF hr bF .nil pass0 (pa_cons (pv 5) pa_nil)))) (fun _ _ _ _ _ => pv 5))
      (pss_cons (ps_if (pw_or (pt_not (pt_truth (pv 3) (fun _ => rfl))) (pw_or1 (pt_not (pt_truth (pv 4) (fun _ => rfl))))).pt (pss_one (ps_ret (pe_lst (pa_cons (pe_glob (v := V.int (-33)) (by rfl) hno ⟨_, rfl⟩) pa_nil)))) pss_nil)
      (pss_one (ps_ret (pe_op op_cat (pe_lst (pa_cons pe_int pa_nil)) (pe_call GP hr (by rfl) T.mgplan_numbers T.kpplan_numbers bP .nil pass0 (pa_cons (pe_fld (pv 0) rfl) (pa_cons (pv 3) (pa_cons (pv 4) (pa_cons (pv 1) pa_nil)))))))))))), ?_⟩
    have refuse : ∀ (H2 : Hp) (v : Int), Same H H2 → (Km256.act a (.plan y)).2 = .num v → 1 ≤ sizeLine ∧ ∀ r, H2 r = none → Q (.ref r) (upd H2 r (.lst [V.int v])) := fun H2 v s2 e => by
      refine ⟨by decide, fun r hr0 => k r _ (s2.trans (Same.upd hr0)) (s2.free hr0) ?_⟩
      rw [upd_same, e]
      rfl
    refine ⟨_, rfl, _, _, rfl, rfl, _, rfl, ?_⟩
    have bad : (y = 0 ∨ 8 < y) → (Km256.act a (.plan y)).2 = .num (-22) := fun h => by simp only [Km256.act]; rw [if_pos h]
    by_cases h1 : y < 1
    · rw [show decide (((y : Nat) : Int) < 1) = true from decide_eq_true (by omega)]
      exact iteT (iteT (refuse H _ (Same.refl _) (bad (.inl (by omega)))))
    · refine iteFb (show decide (((y : Nat) : Int) < 1) = false from decide_eq_false (by omega)) ?_
      refine ⟨_, rfl, _, _, rfl, rfl, _, rfl, ?_⟩
      by_cases h8 : 8 < y
      · rw [show decide ((8 : Int) < ((y : Nat) : Int)) = true from decide_eq_true (by omega)]
        exact iteT (refuse H _ (Same.refl _) (bad (.inr h8)))
      · refine iteFb (show decide ((8 : Int) < ((y : Nat) : Int)) = false from decide_eq_false (by omega)) ?_
        have h24 := W.len
        have hll : (Km256.living a).length ≤ 24 := by
          have := List.length_filter_le (fun i => (Km256.one a i).lives) (List.range a.length)
          rw [List.length_range] at this
          exact Nat.le_trans this h24
        refine ⟨_, rfl, p, dx, _, rfl, hp, herd_no _ _ (by decide +kernel) (by decide +kernel), p, g, a, rfl, R, h24, fun l1 H1 s1 hl1 hl1' => ?_⟩
        have R1 := R.same s1
        have step : ∀ (H2 : Hp) (D : Addr) (Hx : Hp) (Qx : (Bool → Hp → Prop)) (m : Nat), Same H1 H2 → m < a.length → Qx (Km256.one a m).female H2 → True := fun _ _ _ _ _ _ _ _ => trivial
        refine ⟨_, rfl, l1, rfl, ⟨_, SqL.of hl1'⟩, fun D1 hD1 => ?_⟩
        refine lcf_list (fun i => !(Km256.one a ((Km256.living a).getD i 0)).female) (fun i y _ => ∃ m, (Km256.living a)[i]? = some m ∧ y = V.int ((m : Nat) : Int)) hD1 (SqL.of hl1') (by rw [nats_len]; exact line1000 (by omega)) (fun _ _ _ _ _ h => h) (fun i x H2 Q2 N hx s2 _ hQ hN => ?_) (fun H2 acc s2 hacc hp2 => ?_)
        · refine hid fun ng => ?_
          obtain ⟨m, hm, rfl⟩ := nats_get hx
          have R2 := R1.same s2
          obtain ⟨dx2, hp2'⟩ := R2.ob
          refine ng ?_
          clear ng
          have em : (Km256.living a).getD i 0 = m := by rw [List.getD_eq_getElem?_getD, hm]; rfl
          refine ⟨rfl, _, rfl, p, dx2, _, rfl, hp2', herd_no _ _ (by decide +kernel) (by decide +kernel), _, rfl, p, g, a, m, rfl, R2, Hw.living_lt (List.mem_of_getElem? hm), _, rfl, ?_⟩
          by_cases hf : (Km256.one a m).female = true
          · rw [hf]
            exact iteF (hN (by rw [em, hf]; rfl) _ (Same.refl _))
          · have hf' : (Km256.one a m).female = false := by simpa using hf
            rw [hf']
            exact iteT ⟨_, rfl, hQ (by rw [em, hf']; rfl) _ _ (Same.refl _) ⟨m, hm, rfl⟩⟩
        rw [nats_len] at hp2
        have eM := filt_of (H := H2) (q := fun i => !(Km256.one a i).female) hp2
        have ekM : ((Km256.living a).filter fun i => !(Km256.one a i).female) = Hw.kind a false := by
          unfold Hw.kind
          refine List.filter_congr fun x _ => ?_
          cases (Km256.one a x).female <;> rfl
        rw [ekM] at eM
        rw [eM] at hacc
        clear hp2 eM
        have s02 := s1.trans s2
        have R2 := R1.same s2
        have hl2 := s2 _ _ hl1'
        refine ⟨_, rfl, l1, rfl, ⟨_, SqL.of hl2⟩, fun D2 hD2 => ?_⟩
        refine lcf_list (fun i => (Km256.one a ((Km256.living a).getD i 0)).female) (fun i y _ => ∃ m, (Km256.living a)[i]? = some m ∧ y = V.int ((m : Nat) : Int)) hD2 (SqL.of hl2) (by rw [nats_len]; exact line1000 (by omega)) (fun _ _ _ _ _ h => h) (fun i x H3 Q2 N hx s3 _ hQ hN => ?_) (fun H3 acc2 s3 hacc2 hp3 => ?_)
        · refine hid fun ng => ?_
          obtain ⟨m, hm, rfl⟩ := nats_get hx
          have R3 := R2.same s3
          obtain ⟨dx3, hp3'⟩ := R3.ob
          refine ng ?_
          clear ng
          have em : (Km256.living a).getD i 0 = m := by rw [List.getD_eq_getElem?_getD, hm]; rfl
          refine ⟨rfl, _, rfl, p, dx3, _, rfl, hp3', herd_no _ _ (by decide +kernel) (by decide +kernel), _, rfl, p, g, a, m, rfl, R3, Hw.living_lt (List.mem_of_getElem? hm), _, rfl, ?_⟩
          by_cases hf : (Km256.one a m).female = true
          · rw [hf]
            exact iteT ⟨_, rfl, hQ (by rw [em, hf]) _ _ (Same.refl _) ⟨m, hm, rfl⟩⟩
          · have hf' : (Km256.one a m).female = false := by simpa using hf
            rw [hf']
            exact iteF (hN (by rw [em, hf']) _ (Same.refl _))
        rw [nats_len] at hp3
        have eF := filt_of (H := H3) (q := fun i => (Km256.one a i).female) hp3
        have ekF : ((Km256.living a).filter fun i => (Km256.one a i).female) = Hw.kind a true := by
          unfold Hw.kind
          refine List.filter_congr fun x _ => ?_
          cases (Km256.one a x).female <;> rfl
        rw [ekF] at eF
        rw [eF] at hacc2
        clear hp3 eF
        have s03 := s02.trans s3
        have R3 := R2.same s3
        obtain ⟨dx3, hp3⟩ := R3.ob
        have hM3 := s3 _ _ hacc
        have hkl : (Hw.kind a false).length + (Hw.kind a true).length ≤ 24 := by
          have e := (Hw.kinds_perm a).length_eq
          rw [List.length_append] at e
          omega
        have hkn : ∀ f, ∀ j ∈ Hw.kind a f, j < a.length := fun f j hj => Hw.living_lt (List.mem_filter.mp hj).1
        have none33 : (Hw.kind a false = [] ∨ Hw.kind a true = []) → (Km256.act a (.plan y)).2 = .num (-33) := fun h => by
          simp only [Km256.act]
          rw [if_neg (by omega), if_pos]
          rcases h with h | h
          · exact .inl (by rw [Hw.breeders_eq, h]; rfl)
          · exact .inr (by rw [Hw.breeders_eq, h]; rfl)
        refine ⟨_, rfl, _, .inl ⟨_, SqL.of hM3, rfl⟩, ?_⟩
        by_cases hm : Hw.kind a false = []
        · rw [hm]
          exact iteT (iteT (refuse H3 _ s03 (none33 (.inl hm))))
        · have em : (!(nats (Hw.kind a false)).isEmpty) = true := by
            cases e : Hw.kind a false with
            | nil => exact absurd e hm
            | cons x l => rfl
          rw [em]
          refine iteF ?_
          refine ⟨_, rfl, _, .inl ⟨_, SqL.of hacc2, rfl⟩, ?_⟩
          by_cases hf : Hw.kind a true = []
          · rw [hf]
            exact iteT (refuse H3 _ s03 (none33 (.inr hf)))
          · have ef : (!(nats (Hw.kind a true)).isEmpty) = true := by
              cases e : Hw.kind a true with
              | nil => exact absurd e hf
              | cons x l => rfl
            rw [ef]
            refine iteF ?_
            refine ⟨by show 1 ≤ sizeLine; decide, fun l4 hl4 => ?_⟩
            have s34 : Same H3 (upd H3 l4 (.lst [V.int 0])) := Same.upd hl4
            refine ⟨_, rfl, p, _, dx3, _, _, rfl, s34 _ _ hp3, T.clHerd, T.noHerd_table, herd_table _ _, _, rfl, _, rfl, _, rfl, g.tb, D1, D2, g.rs, a.length, Km256.kin a, Hw.kind a false, Hw.kind a true, y, rfl, (R3.same s34).tab, s34 _ _ hM3, s34 _ _ hacc2, hkn false, hkn true, hm, hf, by omega, by omega, fun p5 H5 nums s45 h5 hplan => ?_⟩
            have s35 := s34.trans s45
            have etold := plan_told (by omega) (by omega) hm hf hplan
            have hlen : nums.length ≤ 34 := by
              have e := Hw.told_len a (.plan y)
              rw [etold, List.length_cons] at e
              omega
            refine ⟨l4, p5, _, _, rfl, rfl, s45 _ _ upd_same, h5, by rw [List.length_map]; exact line1000 (by show 1 + _ ≤ 1000; omega), fun r hr0 => ?_⟩
            refine k r _ ((s03.trans s35).trans (Same.upd hr0)) ((s03.trans s35).free hr0) ?_
            rw [upd_same, etold]
            rfl
end
end Hp
end
section
set_option Elab.async false
set_option linter.all false
set_option maxRecDepth 100000
namespace Hp
open PySem L2
noncomputable def PostR (C D : Addr) (H : Hp) (p : Addr) (g : HL) (a' : Km256.Abs) (out : List Int) (Q : VK) : Prop :=
  ∀ (r : Addr) (g' : HL) (H' : Hp), HerdAt C D H' p g' a' → H' r = some (.lst (out.map V.int)) → H r = none → ¬ Part p g' r → Chg H H' (Part p g) → (∀ b, Part p g' b → Part p g b ∨ H b = none) → Q (.ref r) H'
noncomputable def spAC (C D : Addr) : Sp := fun vs H Q _ => ∃ (p gl : Addr) (g : HL) (a : Km256.Abs) (k : Km256.Call) (c : Int) (xs : List Int), vs = [.ref p, .int c, .ref gl] ∧ Hw.enc k = c :: xs ∧ H gl = some (.lst (xs.map V.int)) ∧ HerdAt C D H p g a ∧ Hw.Wf a ∧
  PostR C D H p g (Km256.act a k).1 (Km256Neutral.told (Km256.act a k).2) Q
section
variable {P : Program} {w : World} {K : PySem.W.Frag} {mg : Str → Option Value} {base : Heap}
theorem scAC : FnScope ["herd", "call", "given"] ["herd", "call", "given"] (defScope sanswer_call) := ⟨rfl, rfl, rfl, by decide +kernel, rfl, by decide +kernel, by decide +kernel⟩
theorem ac_end {C D : Addr} {H : Hp} {p : Addr} {g : HL} {a' : Km256.Abs} {v : Int} {Q : VK} (k : PostR C D H p g a' [v] Q) :
    Post C D H p g a' fun H' => 1 ≤ sizeLine ∧ ∀ r, H' r = none → Q (.ref r) (upd H' r (.lst [V.int v])) := by
  intro g' H' R' ch fp
  refine ⟨by decide, fun r hr => ?_⟩
  have hoff := R'.off hr
  have hHr : H r = none := ch.free r hr
  exact k r g' _ (R'.beside hoff) upd_same hHr hoff (ch.upd (.inr hHr)) fp
theorem ac_told {C D : Addr} {H : Hp} {p : Addr} {g : HL} {a : Km256.Abs} {k : Km256.Call} {Q : VK} (h : PostR C D H p g (Km256.act a k).1 (Km256Neutral.told (Km256.act a k).2) Q) :
    Told1 C D H p g a k fun v H' => 1 ≤ sizeLine ∧ ∀ r, H' r = none → Q (.ref r) (upd H' r (.lst [v])) := by
  intro v e
  rw [e] at h
  exact ac_end h
theorem ac_tell {C D : Addr} {H : Hp} {p : Addr} {g : HL} {a : Km256.Abs} {k : Km256.Call} {Q : VK} (R : HerdAt C D H p g a) (e : (Km256.act a k).1 = a) (h : PostR C D H p g (Km256.act a k).1 (Km256Neutral.told (Km256.act a k).2) Q) : TellQ H a k Q := by
  intro r H' s hr hr'
  rw [e] at h
  have R' := R.same s
  have hoff : ¬ Part p g r := R.off hr
  exact h r g H' R' hr' hr hoff (Chg.of_same s) fun b hb => .inl hb
theorem act_kin (a : Km256.Abs) (i j : Nat) : (Km256.act a (.kin i j)).1 = a := by
  simp only [Km256.act]
  split <;> rfl
theorem act_plan (a : Km256.Abs) (y : Nat) : (Km256.act a (.plan y)).1 = a := by
  simp only [Km256.act]
  split
  · rfl
  · split <;> rfl
theorem ok_ac {t : Adr} (T : Top K mg t) : Ok P w K mg base 14 t.fanswer_call ["herd", "call", "given"] (spAC t.cAnimal t.cHerd) := by
  refine hid fun ng => ?_
  obtain ⟨fd, F, bd⟩ := T.fnanswer_call
  refine ng ?_
  clear ng
  refine ⟨fd, bd, ?_⟩
  refine hid fun ng => ?_
  obtain ⟨fdB, bB, GB⟩ := (ok_begin (P := P) (w := w) (base := base) T).lift (show 1 ≤ 13 by decide)
  obtain ⟨fdT, bT, GT⟩ := (ok_take (P := P) (w := w) (base := base) T).lift (show 4 ≤ 13 by decide)
  obtain ⟨fdR, bR, GR⟩ := (ok_breed (P := P) (w := w) (base := base) T).lift (show 4 ≤ 13 by decide)
  obtain ⟨fdG, bG, GG⟩ := (ok_go (P := P) (w := w) (base := base) T).lift (show 4 ≤ 13 by decide)
  obtain ⟨t0, g0⟩ := T.iHB_START
  obtain ⟨t1, g1⟩ := T.iHB_NEW
  obtain ⟨t2, g2⟩ := T.iHB_BORN
  obtain ⟨t3, g3⟩ := T.iHB_GONE
  obtain ⟨t4, g4⟩ := T.iHB_KIN
  obtain ⟨t5, g5⟩ := T.iHB_HERD
  obtain ⟨fdK, bK, GK⟩ := (ok_tk (P := P) (w := w) (base := base) T).lift (show 2 ≤ 13 by decide)
  obtain ⟨fdH, bH, GH⟩ := (ok_th (P := P) (w := w) (base := base) T).lift (show 2 ≤ 13 by decide)
  obtain ⟨fdP, bP, GP⟩ := ok_tp (P := P) (w := w) (base := base) T
  refine ng ?_
  clear ng
  refine F.ok scAC (fun vs H Q E h => ?_) (fun cdv A outer s H vs Q E hr h => ?_)
  · refine hid fun ng => ?_
    obtain ⟨p, gl, g, a, k, c, xs, rfl, _⟩ := h
    refine ng ?_
    clear ng
    rfl
  · refine hid fun ng => ?_
    obtain ⟨p, gl, g, a, k, c, xs, rfl, henc, hg, R, W, hk⟩ := h
    obtain ⟨dx, hp⟩ := R.ob
    refine ng ?_
    clear ng
    refine ⟨_, pss_cons (ps_if (pt_cmpR op_eq (pv 1) (pe_glob (v := V.int 0) (by rfl) g0 ⟨_, rfl⟩) (nomark _)) (pss_one (ps_ret (pe_lst (pa_cons (pe_meth0 (pv 0) T.clHerd T.meHerd_begin GB hr bB .nil pass0) pa_nil)))) pss_nil)
      (pss_cons (ps_if (pt_cmpR op_eq (pv 1) (pe_glob (v := V.int 1) (by rfl) g1 ⟨_, rfl⟩) (nomark _)) (pss_one (ps_ret (pe_lst (pa_cons (pe_meth (pv 0) T.clHerd T.meHerd_take_in GT hr bT .nil pass0 (pa_cons (pe_ix ix_list (pv 2) pe_int (fun _ _ => rfl)) pa_nil)) pa_nil)))) pss_nil)
      (pss_cons (ps_if (pt_cmpR op_eq (pv 1) (pe_glob (v := V.int 2) (by rfl) g2 ⟨_, rfl⟩) (nomark _)) (pss_one (ps_ret (pe_lst (pa_cons (pe_meth (pv 0) T.clHerd T.meHerd_breed GR hr bR .nil pass0
          (pa_cons (pe_ix ix_list (pv 2) pe_int (fun _ _ => rfl)) (pa_cons (pe_ix ix_list (pv 2) pe_int (fun _ _ => rfl)) (pa_cons (pe_ix ix_list (pv 2) pe_int (fun _ _ => rfl)) pa_nil)))) pa_nil)))) pss_nil)
      (pss_cons (ps_if (pt_cmpR op_eq (pv 1) (pe_glob (v := V.int 3) (by rfl) g3 ⟨_, rfl⟩) (nomark _)) (pss_one (ps_ret (pe_lst (pa_cons (pe_meth (pv 0) T.clHerd T.meHerd_let_go GG hr bG .nil pass0 (pa_cons (pe_ix ix_list (pv 2) pe_int (fun _ _ => rfl)) pa_nil)) pa_nil)))) pss_nil)
      (pss_cons (ps_if (pt_cmpR op_eq (pv 1) (pe_glob (v := V.int 4) (by rfl) g4 ⟨_, rfl⟩) (nomark _)) (pss_one (ps_ret (pe_meth (pv 0) T.clHerd T.meHerd_tell_kin GK hr bK .nil pass0 (pa_cons (pe_ix ix_list (pv 2) pe_int (fun _ _ => rfl)) (pa_cons (pe_ix ix_list (pv 2) pe_int (fun _ _ => rfl)) pa_nil))))) pss_nil)
      (pss_cons (ps_if (pt_cmpR op_eq (pv 1) (pe_glob (v := V.int 5) (by rfl) g5 ⟨_, rfl⟩) (nomark _)) (pss_one (ps_ret (pe_meth0 (pv 0) T.clHerd T.meHerd_tell_herd GH hr bH .nil pass0))) pss_nil)
      (pss_one (ps_ret (pe_meth (pv 0) T.clHerd T.meHerd_tell_plan GP hr bP .nil pass0 (pa_cons (pe_ix ix_list (pv 2) pe_int (fun _ _ => rfl)) pa_nil))))))))), ?_⟩
    refine ⟨_, rfl, rfl, _, rfl, ?_⟩
    cases k with
    | start =>
      injection henc with e1 e2
      subst e1
      subst e2
      refine iteTb (show decide (V.int 0 = V.int 0) = true from decide_eq_true rfl) ?_
      exact ⟨_, rfl, p, dx, _, rfl, hp, herd_no _ _ (by decide +kernel) (by decide +kernel), p, g, a, rfl, R, ac_end hk⟩
    | new_ n =>
      injection henc with e1 e2
      subst e1
      subst e2
      refine iteFb (show decide (V.int 1 = V.int 0) = false from by decide) ?_
      refine ⟨_, rfl, rfl, _, rfl, ?_⟩
      refine iteTb (show decide (V.int 1 = V.int 1) = true from decide_eq_true rfl) ?_
      exact ⟨_, rfl, p, dx, _, rfl, hp, herd_no _ _ (by decide +kernel) (by decide +kernel), _, rfl, gl, _, _, _, rfl, rfl, SqL.of hg, at_of (j := 0) rfl rfl, p, g, a, n, rfl, R, W, ac_told hk⟩
    | born i d n =>
      injection henc with e1 e2
      subst e1
      subst e2
      refine iteFb (show decide (V.int 2 = V.int 0) = false from by decide) ?_
      refine ⟨_, rfl, rfl, _, rfl, ?_⟩
      refine iteFb (show decide (V.int 2 = V.int 1) = false from by decide) ?_
      refine ⟨_, rfl, rfl, _, rfl, ?_⟩
      refine iteTb (show decide (V.int 2 = V.int 2) = true from decide_eq_true rfl) ?_
      exact ⟨_, rfl, p, dx, _, rfl, hp, herd_no _ _ (by decide +kernel) (by decide +kernel), _, rfl, gl, _, _, _, rfl, rfl, SqL.of hg, at_of (j := 0) rfl rfl, _, rfl, gl, _, _, _, rfl, rfl, SqL.of hg, at_of (j := 1) rfl rfl, _, rfl, gl, _, _, _, rfl, rfl, SqL.of hg, at_of (j := 2) rfl rfl, p, g, a, i, d, n, rfl, R, W, ac_told hk⟩
    | gone n =>
      injection henc with e1 e2
      subst e1
      subst e2
      refine iteFb (show decide (V.int 3 = V.int 0) = false from by decide) ?_
      refine ⟨_, rfl, rfl, _, rfl, ?_⟩
      refine iteFb (show decide (V.int 3 = V.int 1) = false from by decide) ?_
      refine ⟨_, rfl, rfl, _, rfl, ?_⟩
      refine iteFb (show decide (V.int 3 = V.int 2) = false from by decide) ?_
      refine ⟨_, rfl, rfl, _, rfl, ?_⟩
      refine iteTb (show decide (V.int 3 = V.int 3) = true from decide_eq_true rfl) ?_
      exact ⟨_, rfl, p, dx, _, rfl, hp, herd_no _ _ (by decide +kernel) (by decide +kernel), _, rfl, gl, _, _, _, rfl, rfl, SqL.of hg, at_of (j := 0) rfl rfl, p, g, a, n, rfl, R, W, ac_told hk⟩
    | kin i j =>
      injection henc with e1 e2
      subst e1
      subst e2
      refine iteFb (show decide (V.int 4 = V.int 0) = false from by decide) ?_
      refine ⟨_, rfl, rfl, _, rfl, ?_⟩
      refine iteFb (show decide (V.int 4 = V.int 1) = false from by decide) ?_
      refine ⟨_, rfl, rfl, _, rfl, ?_⟩
      refine iteFb (show decide (V.int 4 = V.int 2) = false from by decide) ?_
      refine ⟨_, rfl, rfl, _, rfl, ?_⟩
      refine iteFb (show decide (V.int 4 = V.int 3) = false from by decide) ?_
      refine ⟨_, rfl, rfl, _, rfl, ?_⟩
      refine iteTb (show decide (V.int 4 = V.int 4) = true from decide_eq_true rfl) ?_
      exact ⟨_, rfl, p, dx, _, rfl, hp, herd_no _ _ (by decide +kernel) (by decide +kernel), _, rfl, gl, _, _, _, rfl, rfl, SqL.of hg, at_of (j := 0) rfl rfl, _, rfl, gl, _, _, _, rfl, rfl, SqL.of hg, at_of (j := 1) rfl rfl, p, g, a, i, j, rfl, R, ac_tell R (act_kin a i j) hk⟩
    | herd =>
      injection henc with e1 e2
      subst e1
      subst e2
      refine iteFb (show decide (V.int 5 = V.int 0) = false from by decide) ?_
      refine ⟨_, rfl, rfl, _, rfl, ?_⟩
      refine iteFb (show decide (V.int 5 = V.int 1) = false from by decide) ?_
      refine ⟨_, rfl, rfl, _, rfl, ?_⟩
      refine iteFb (show decide (V.int 5 = V.int 2) = false from by decide) ?_
      refine ⟨_, rfl, rfl, _, rfl, ?_⟩
      refine iteFb (show decide (V.int 5 = V.int 3) = false from by decide) ?_
      refine ⟨_, rfl, rfl, _, rfl, ?_⟩
      refine iteFb (show decide (V.int 5 = V.int 4) = false from by decide) ?_
      refine ⟨_, rfl, rfl, _, rfl, ?_⟩
      refine iteTb (show decide (V.int 5 = V.int 5) = true from decide_eq_true rfl) ?_
      exact ⟨_, rfl, p, dx, _, rfl, hp, herd_no _ _ (by decide +kernel) (by decide +kernel), p, g, a, rfl, R, W, ac_tell R rfl hk⟩
    | plan y =>
      injection henc with e1 e2
      subst e1
      subst e2
      refine iteFb (show decide (V.int 6 = V.int 0) = false from by decide) ?_
      refine ⟨_, rfl, rfl, _, rfl, ?_⟩
      refine iteFb (show decide (V.int 6 = V.int 1) = false from by decide) ?_
      refine ⟨_, rfl, rfl, _, rfl, ?_⟩
      refine iteFb (show decide (V.int 6 = V.int 2) = false from by decide) ?_
      refine ⟨_, rfl, rfl, _, rfl, ?_⟩
      refine iteFb (show decide (V.int 6 = V.int 3) = false from by decide) ?_
      refine ⟨_, rfl, rfl, _, rfl, ?_⟩
      refine iteFb (show decide (V.int 6 = V.int 4) = false from by decide) ?_
      refine ⟨_, rfl, rfl, _, rfl, ?_⟩
      refine iteFb (show decide (V.int 6 = V.int 5) = false from by decide) ?_
      exact ⟨_, rfl, p, dx, _, rfl, hp, herd_no _ _ (by decide +kernel) (by decide +kernel), _, rfl, gl, _, _, _, rfl, rfl, SqL.of hg, at_of (j := 0) rfl rfl, p, g, a, y, rfl, R, W, ac_tell R (act_plan a y) hk⟩
end
end Hp
end
section
set_option Elab.async false
set_option linter.all false
set_option maxRecDepth 100000
namespace Hp
open PySem L2
noncomputable def cnt : List Int := [0, 1, 3, 1, 2, 0, 1]
theorem enc_cons (k : Km256.Call) : ∃ (c : Nat) (xs : List Int), Hw.enc k = (c : Int) :: xs ∧ cnt[c]? = some (xs.length : Int) := by
  cases k with
  | start => exact ⟨0, [], rfl, rfl⟩
  | new_ n => exact ⟨1, _, rfl, rfl⟩
  | born i d n => exact ⟨2, _, rfl, rfl⟩
  | gone n => exact ⟨3, _, rfl, rfl⟩
  | kin i j => exact ⟨4, _, rfl, rfl⟩
  | herd => exact ⟨5, [], rfl, rfl⟩
  | plan y => exact ⟨6, _, rfl, rfl⟩
theorem encs_append (a b : List Km256.Call) : Hw.encs (a ++ b) = Hw.encs a ++ Hw.encs b := by
  unfold Hw.encs
  rw [List.flatMap_append]
theorem cut_mid (u xs v : List Int) : cutV ((u ++ (xs ++ v)).map V.int) (some ((u.length : Nat) : Int)) (some ((u.length + xs.length : Nat) : Int)) = xs.map V.int := by
  unfold cutV
  rw [HT.sIx_nat, HT.sIx_nat, List.length_map, List.length_append, List.length_append]
  rw [show min u.length (u.length + (xs.length + v.length)) = u.length by omega, show min (u.length + xs.length) (u.length + (xs.length + v.length)) = u.length + xs.length by omega]
  rw [List.map_append, List.map_append, List.drop_append_of_le_length (by rw [List.length_map]; exact Nat.le_refl _), List.drop_of_length_le (by rw [List.length_map]; exact Nat.le_refl _), List.nil_append]
  rw [show u.length + xs.length - u.length = (xs.map V.int).length by rw [List.length_map]; omega, List.take_left]
noncomputable def spAns (K : PySem.W.Frag) : Sp := fun vs H Q _ => ∃ (ac : Addr) (ks : List Km256.Call), vs = [.ref ac] ∧ SqL K H ac ((Hw.encs ks).map V.int) ∧ ks.length ≤ 1000 ∧
  ∀ (b : Addr) (H' : Hp), H' b = some (.lst ((Hw.run [] ks).map V.int)) → Q (.ref b) H'
noncomputable def placeOf (n : Nat) (σ : St) : Nat := match (σ[3]? : Option (Option V)) with
  | some (some (V.int z)) => n - z.toNat
  | _ => 0
section
variable {P : Program} {w : World} {K : PySem.W.Frag} {mg : Str → Option Value} {base : Heap}
theorem scAns : FnScope ["calls", "herd", "told", "place", "call", "behind", "answer"] ["calls"] (defScope sanswers) := ⟨rfl, rfl, rfl, by decide +kernel, rfl, by decide +kernel, by decide +kernel⟩
theorem ok_ans {t : Adr} (T : Top K mg t) {fd : FuncData} (F : Fun K "answers" "answers" sanswers t.fanswers fd) : FnOk P w K mg base CX0 15 t.fanswers fd ["calls"] (spAns K) := by
  refine hid fun ng => ?_
  obtain ⟨fdI, bI, GI⟩ := (ok_herd (P := P) (w := w) (base := base) T).lift (show 1 ≤ 13 by decide)
  obtain ⟨fdA, bA, GA⟩ := ok_ac (P := P) (w := w) (base := base) T
  obtain ⟨gc, hg, hcount⟩ := T.tGIVEN_COUNTS
  refine ng ?_
  clear ng
  refine F.ok scAns (fun vs H Q E h => ?_) (fun cdv A outer s H vs Q E hr h => ?_)
  · refine hid fun ng => ?_
    obtain ⟨ac, ks, rfl, _⟩ := h
    refine ng ?_
    clear ng
    rfl
  · refine hid fun ng => ?_
    obtain ⟨ac, ks, rfl, hS, hks, k⟩ := h
    refine ng ?_
    clear ng
    refine ⟨_, pss_cons (ps_set (i := 1) scAns.nd rfl (Or.inl rfl) (pe_make0 T.mkHerd GI hr (by rfl) T.mgHerd bI .nil pass0))
      (pss_cons (ps_set (i := 2) scAns.nd rfl (Or.inl rfl) (pe_lst pa_nil))
      (pss_cons (ps_set (i := 3) scAns.nd rfl (Or.inl rfl) pe_int)
      (pss_cons (ps_while PassesOwn.never (pt_cmpR op_lt (pv 3) (pe_callB call_len_seq (by rfl) T.blen PySem.boot_len (pa_cons (pv 0) pa_nil)) (nomark _))
        (pss_cons (ps_set (i := 4) scAns.nd rfl (Or.inl rfl) (pe_ix ix_list (pv 0) (pv 3) (fun _ _ => rfl)))
        (pss_cons (ps_set (i := 5) scAns.nd rfl (Or.inl rfl) (pe_op op_add (pe_op op_add (pv 3) pe_int) (pe_ix ix_tup (pe_glob (v := V.ref gc) (by rfl) hg rfl) (pv 4) (fun _ _ => rfl))))
        (pss_cons (ps_set (i := 6) scAns.nd rfl (Or.inl rfl) (pe_call GA hr (by rfl) T.mganswer_call T.kpanswer_call bA .nil pass0 (pa_cons (pv 1) (pa_cons (pv 4) (pa_cons (pe_slice sl_list (pv 0) (po_some (pe_op op_add (pv 3) pe_int)) (po_some (pv 5))) pa_nil)))))
        (pss_cons (ps_expr (pe_bm PySem.F.plainAttrs_list PySem.F.slot_list_append PySem.F.type_list_append mt_append (pv 2) (pa_cons (pe_callB call_len_seq (by rfl) T.blen PySem.boot_len (pa_cons (pv 6) pa_nil)) pa_nil)))
        (pss_cons (ps_expr (pe_bm PySem.F.plainAttrs_list PySem.F.slot_list_extend PySem.F.type_list_extend mt_extend (pv 2) (pa_cons (pv 6) pa_nil)))
        (pss_one (ps_set (i := 3) scAns.nd rfl (Or.inl rfl) (pv 5)))))))))
      (pss_one (ps_ret (pv 2)))))), ?_⟩
    intro x dx nx ndx nex
    refine ⟨x, dx, rfl, upd_same, fun l0 tb0 H1 hx1 hl1 htb1 nlt fl0 ftb0 kp => ⟨rfl, ?_⟩⟩
    have s1 : Same H H1 := Same.made nx ndx kp
    have s0 : Same H (upd (upd H dx (.own x)) x (.ins t.cHerd dx [])) := fun b o e => by
      rw [upd_ne (ne_of_none e nx), upd_ne (ne_of_none e ndx)]
      exact e
    have fl0' : H l0 = none := s0.free fl0
    have ftb0' : H tb0 = none := s0.free ftb0
    refine ⟨(by show 0 ≤ sizeLine; exact Nat.zero_le _), fun tl ht => ?_⟩
    have R1 : HerdAt t.cAnimal t.cHerd H1 x ⟨l0, tb0, [], []⟩ [] := ⟨⟨dx, hx1⟩, hl1, List.nodup_nil, rfl, fun j c y hj => by simp at hj, ⟨htb1, List.nodup_nil, rfl, fun i r e => by simp at e⟩, nlt, by simp, by simp⟩
    have ht0 : H tl = none := s1.free ht
    refine while_by (fun σ H2 => ∃ (ks1 ks2 : List Km256.Call) (a : Km256.Abs) (g : HL) (out : List Int) (v4 v5 v6 : Option V), ks = ks1 ++ ks2 ∧
        σ = [some (.ref ac), some (.ref x), some (.ref tl), some (.int ((Hw.encs ks1).length : Nat)), v4, v5, v6] ∧ Same H H2 ∧ HerdAt t.cAnimal t.cHerd H2 x g a ∧ Hw.Wf a ∧ H2 tl = some (.lst (out.map V.int)) ∧ ¬ Part x g tl ∧
        (∀ b, Part x g b → H b = none) ∧ Hw.run [] ks = out ++ Hw.run a ks2 ∧ out.length ≤ 36 * ks1.length) (fun σ _ => placeOf (Hw.encs ks).length σ)
      ⟨[], ks, [], ⟨l0, tb0, [], []⟩, [], none, none, none, rfl, rfl, fun b o e => by rw [upd_ne (ne_of_none e ht0)]; exact s1 b o e, R1.beside (R1.off ht), Hw.Wf.nil, upd_same, R1.off ht, fun b hb => ?_, rfl, Nat.zero_le _⟩ ?_ ?_
    · rcases hb with e | e | e | e | e
      · rw [e]; exact nx
      · rw [e]; exact fl0'
      · rw [e]; exact ftb0'
      · simp at e
      · simp at e
    · rintro σ H2 ⟨ks1, ks2, a, g, out, v4, v5, v6, eks, rfl, s2, R, W, hT, hTp, hfr, hrun, hol⟩
      refine ⟨_, rfl, _, rfl, ac, _, rfl, .inl (s2.seq hS), _, _, rfl, rfl, _, rfl, ?_⟩
      have elen : ((Hw.encs ks).map V.int).length = (Hw.encs ks).length := List.length_map ..
      rw [elen]
      cases ks2 with
      | nil =>
        have e0 : ks = ks1 := by rw [eks, List.append_nil]
        have ed : decide ((((Hw.encs ks1).length : Nat) : Int) < (((Hw.encs ks).length : Nat) : Int)) = false := decide_eq_false (by rw [e0]; omega)
        rw [ed]
        refine iteF ?_
        refine ⟨_, rfl, ?_⟩
        have er : Hw.run [] ks = out := by rw [hrun]; exact List.append_nil _
        exact k tl H2 (by rw [er]; exact hT)
      | cons kc ks3 =>
        refine hid fun ng => ?_
        obtain ⟨c, xs, henc, hcnt⟩ := enc_cons kc
        refine ng ?_
        clear ng
        have eall : Hw.encs ks = Hw.encs ks1 ++ ((c : Int) :: (xs ++ Hw.encs ks3)) := by
          rw [eks, encs_append]
          show Hw.encs ks1 ++ (Hw.enc kc ++ Hw.encs ks3) = _
          rw [henc]
          rfl
        have eall2 : Hw.encs ks = (Hw.encs ks1 ++ [(c : Int)]) ++ (xs ++ Hw.encs ks3) := by rw [eall, List.append_assoc]; rfl
        have hlt : (Hw.encs ks1).length < (Hw.encs ks).length := by rw [eall, List.length_append, List.length_cons]; omega
        have ed : decide ((((Hw.encs ks1).length : Nat) : Int) < (((Hw.encs ks).length : Nat) : Int)) = true := decide_eq_true (by omega)
        rw [ed]
        refine iteT ?_
        have hS2 := s2.seq hS
        refine ⟨_, rfl, _, rfl, ac, _, _, _, rfl, rfl, hS2, atI_nat (v := V.int c) (by rw [List.getElem?_map, eall, List.getElem?_append_right (Nat.le_refl _), Nat.sub_self]; rfl), ?_⟩
        refine ⟨_, rfl, _, _, rfl, rfl, _, rfl, gc, _, _, _, rfl, rfl, hcount H2, atI_nat (v := V.int (xs.length : Int)) ?_, _, _, rfl, rfl, ?_⟩
        · have e4 : ([V.int 0, V.int 1, V.int 3, V.int 1, V.int 2, V.int 0, V.int 1] : List V) = cnt.map V.int := rfl
          rw [e4, List.getElem?_map, hcnt]
          rfl
        refine ⟨_, rfl, _, rfl, _, rfl, _, rfl, _, _, rfl, rfl, _, rfl, _, rfl, _, rfl, ac, _, rfl, hS2, fun q hq => ?_⟩
        have e5 : cutV ((Hw.encs ks).map V.int) (some ((((Hw.encs ks1).length : Nat) : Int) + 1)) (some (((((Hw.encs ks1).length : Nat) : Int) + 1) + (xs.length : Int))) = xs.map V.int := by
          rw [eall2]
          have e6 := cut_mid (Hw.encs ks1 ++ [(c : Int)]) xs (Hw.encs ks3)
          rw [List.length_append] at e6
          have e7 : (((Hw.encs ks1).length + [(c : Int)].length : Nat) : Int) = (((Hw.encs ks1).length : Nat) : Int) + 1 := by
            show (((Hw.encs ks1).length + 1 : Nat) : Int) = _
            omega
          have e8 : (((Hw.encs ks1).length + [(c : Int)].length + xs.length : Nat) : Int) = (((Hw.encs ks1).length : Nat) : Int) + 1 + (xs.length : Int) := by
            show (((Hw.encs ks1).length + 1 + xs.length : Nat) : Int) = _
            omega
          rw [e7, e8] at e6
          exact e6
        rw [e5]
        have hqp := R.off hq
        refine ⟨x, q, g, a, kc, (c : Int), xs, rfl, henc, upd_same, R.beside hqp, W, ?_⟩
        intro r g' H3 R3 hr3 fr nr ch fp
        have ntq : tl ≠ q := ne_of_none hT hq
        have hT3 : H3 tl = some (.lst (out.map V.int)) := ch.keep tl _ (by rw [upd_ne ntq]; exact hT) hTp
        have ntr : tl ≠ r := by
          intro z
          rw [← z, upd_ne ntq, hT] at fr
          cases fr
        have hTp3 : ¬ Part x g' tl := fun z => by
          rcases fp tl z with z | z
          · exact hTp z
          · rw [upd_ne ntq, hT] at z; cases z
        have told_le := Hw.told_len a kc
        have hk1 : ks1.length + 1 ≤ 1000 := by
          have : ks.length = ks1.length + (ks3.length + 1) := by rw [eks, List.length_append, List.length_cons]
          omega
        have hline : (36 : Nat) * 1000 ≤ sizeLine := by decide
        refine ⟨_, rfl, .inl ⟨rfl, _, SqL.of hT3⟩, _, rfl, r, _, rfl, .inl (SqL.of hr3), tl, _, _, rfl, rfl, hT3, (by rw [List.length_map]; omega), ?_⟩
        refine ⟨_, rfl, .inl ⟨rfl, _, SqL.of upd_same⟩, _, rfl, tl, r, _, _, rfl, rfl, upd_same, (by rw [upd_ne ntr.symm]; exact hr3), (by rw [List.length_append, List.length_map, List.length_map, List.length_singleton]; omega), ?_⟩
        refine ⟨_, rfl, ⟨ks1 ++ [kc], ks3, (Km256.act a kc).1, g', out ++ Hw.oneAns a kc, some (V.int c), some (V.int (((Hw.encs ks1).length : Int) + 1 + (xs.length : Int))), some (V.ref r), ?_, ?_, ?_, (R3.beside hTp3).beside hTp3, W.act kc, ?_, hTp3, ?_, ?_, ?_⟩, ?_⟩
        · rw [eks, List.append_assoc]
          rfl
        · have e9 : (((Hw.encs (ks1 ++ [kc])).length : Nat) : Int) = ((Hw.encs ks1).length : Int) + 1 + (xs.length : Int) := by
            rw [encs_append, List.length_append]
            show (((Hw.encs ks1).length + (Hw.enc kc ++ []).length : Nat) : Int) = _
            rw [List.append_nil, henc, List.length_cons]
            omega
          rw [e9]
          rfl
        · intro b o e
          have hb1 : b ≠ tl := ne_of_none e ht0
          have hbq : b ≠ q := fun z => by
            rw [z] at e
            rw [s2 _ _ e] at hq
            cases hq
          rw [upd_ne hb1, upd_ne hb1]
          refine ch.keep b o (by rw [upd_ne hbq]; exact s2 b o e) ?_
          intro z
          rw [hfr b z] at e
          cases e
        · rw [upd_same]
          have e10 : (out.map V.int ++ [V.int (((Km256Neutral.told (Km256.act a kc).2).map V.int).length : Nat)]) ++ (Km256Neutral.told (Km256.act a kc).2).map V.int = (out ++ Hw.oneAns a kc).map V.int := by
            rw [List.map_append, List.append_assoc, List.length_map]
            rfl
          rw [e10]
        · intro b hb
          rcases fp b hb with z | z
          · exact hfr b z
          · by_cases hbq : b = q
            · rw [hbq]
              exact s2.free hq
            · rw [upd_ne hbq] at z
              exact s2.free z
        · rw [hrun, List.append_assoc]
          rfl
        · rw [List.length_append, List.length_append]
          show out.length + ((Km256Neutral.told (Km256.act a kc).2).length + 1) ≤ 36 * (ks1.length + 1)
          omega
        · show (Hw.encs ks).length - ((((Hw.encs ks1).length : Int) + 1 + (xs.length : Int))).toNat < (Hw.encs ks).length - (((Hw.encs ks1).length : Nat) : Int).toNat
          omega
    · rintro σ H2 Q1 Q2 hQ ⟨v, e1, v2, e2, p, ys, e3, hs, i, j, e4, e5, kk, e6, q⟩
      exact ⟨v, e1, v2, e2, p, ys, e3, hs, i, j, e4, e5, kk, e6, hQ _ _ q⟩
end
end Hp
end
set_option Elab.async false
set_option linter.all false
set_option maxRecDepth 100000
open PySem PySem.W PyProof.Rows
noncomputable def PySem.W.Fast.tw3626286624396840136 : PySem.Program := PySem.Challenge.pw_herdwhole_s01_answers
theorem PySem.W.Fast.te3626286624396840136 : PySem.Challenge.pw_herdwhole_s01_answers = PySem.W.Fast.tw3626286624396840136 := rfl
theorem PySem.W.Fast.tw3553553500108021247 : True := trivial
theorem PySem.W.Fast.te3553553500108021247 : True := trivial
set_option maxRecDepth 100000 in
set_option maxHeartbeats 0 in
theorem PySem.Challenge.cw_herdwhole_s01_answers_holds : PySem.Challenge.rw_herdwhole_s01_answers.Holds := by
  w_on; k_headS; (case hw => exact ⟨[.list [.int 0]], by decide +kernel, by decide +kernel⟩)
  k_fillS
  refine L2.walkS_of (k := 15) (x := "calls") (sp := Hp.spAns) (by decide) ⟨rfl, by decide, by decide⟩ (fun w h Y => PySem.W.kIn_of Y) ?F ?S
  case F =>
    intro w mg fa h KX G hmg
    have T : ∃ t, Hp.Top (L2.KOf KX) mg t := by
      dsimp only [L2.KOf]
      refine' Hp.top_mk KX G ?aMating ?aShare ?aAnimal ?aHerd ?aMating_init ?iMating_init ?lMating_init ?dMating_init ?kMating_init ?aShare_init ?iShare_init ?lShare_init ?dShare_init ?kShare_init ?aAnimal_init ?iAnimal_init ?lAnimal_init ?dAnimal_init ?kAnimal_init ?aHerd_init ?iHerd_init ?lHerd_init ?dHerd_init ?kHerd_init ?aHerd_begin ?iHerd_begin ?lHerd_begin ?dHerd_begin ?kHerd_begin ?aHerd_take_in ?iHerd_take_in ?lHerd_take_in ?dHerd_take_in ?kHerd_take_in ?aHerd_breed ?iHerd_breed ?lHerd_breed ?dHerd_breed ?kHerd_breed ?aHerd_let_go ?iHerd_let_go ?lHerd_let_go ?dHerd_let_go ?kHerd_let_go ?aHerd_tell_kin ?iHerd_tell_kin ?lHerd_tell_kin ?dHerd_tell_kin ?kHerd_tell_kin ?aHerd_tell_herd ?iHerd_tell_herd ?lHerd_tell_herd ?dHerd_tell_herd ?kHerd_tell_herd ?aHerd_tell_plan ?iHerd_tell_plan ?lHerd_tell_plan ?dHerd_tell_plan ?kHerd_tell_plan ?aHerd_enter ?iHerd_enter ?lHerd_enter ?dHerd_enter ?kHerd_enter ?aHerd_holds ?iHerd_holds ?lHerd_holds ?dHerd_holds ?kHerd_holds ?aHerd_is_female ?iHerd_is_female ?lHerd_is_female ?dHerd_is_female ?kHerd_is_female ?aHerd_living_numbers ?iHerd_living_numbers ?lHerd_living_numbers ?dHerd_living_numbers ?kHerd_living_numbers ?aadd_to_table ?ladd_to_table ?dadd_to_table ?kadd_to_table ?akin_with_earlier ?lkin_with_earlier ?dkin_with_earlier ?kkin_with_earlier ?akin_with_itself ?lkin_with_itself ?dkin_with_itself ?kkin_with_itself ?akin_to_all ?lkin_to_all ?dkin_to_all ?kkin_to_all ?akin_between ?lkin_between ?dkin_between ?kkin_between ?aways_to_share ?lways_to_share ?dways_to_share ?kways_to_share ?aleast_mating ?lleast_mating ?dleast_mating ?kleast_mating ?aleast_rest ?lleast_rest ?dleast_rest ?kleast_rest ?aless ?lless ?dless ?kless ?arow_cost ?lrow_cost ?drow_cost ?krow_cost ?acost_of ?lcost_of ?dcost_of ?kcost_of ?aleast_share ?lleast_share ?dleast_share ?kleast_share ?akin_among ?lkin_among ?dkin_among ?kkin_among ?aweighed ?lweighed ?dweighed ?kweighed ?apull_of_male ?lpull_of_male ?dpull_of_male ?kpull_of_male ?awith_added ?lwith_added ?dwith_added ?kwith_added ?aleast_from ?lleast_from ?dleast_from ?kleast_from ?aleast_of_ways ?lleast_of_ways ?dleast_of_ways ?kleast_of_ways ?aakin_in ?lakin_in ?dakin_in ?kakin_in ?aplan_numbers ?lplan_numbers ?dplan_numbers ?kplan_numbers ?abreeders ?lbreeders ?dbreeders ?kbreeders ?afilled_up ?lfilled_up ?dfilled_up ?kfilled_up ?aanswers ?lanswers ?danswers ?kanswers ?aanswer_call ?lanswer_call ?danswer_call ?kanswer_call ?pgMating ?hdMating ?poMating ?saMating ?mkMating ?kcMating ?noMating_cost ?noMating_rows ?pgShare ?hdShare ?poShare ?saShare ?mkShare ?kcShare ?noShare_akin ?noShare_of_males ?noShare_of_females ?pgAnimal ?hdAnimal ?poAnimal ?saAnimal ?mkAnimal ?kcAnimal ?noAnimal_female ?noAnimal_living ?pgHerd ?hdHerd ?poHerd ?saHerd ?mkHerd ?kcHerd ?noHerd_animals ?noHerd_table ?gCERTAIN ?gMOST_OF_A_SEX ?gNO_BREEDER ?gMOST_ANIMALS ?gMOST_YOUNG ?gNOT_IN_BOOK ?gGONE_ALREADY ?gWRONG_SEX ?gBAD_NUMBER ?gBOOK_FULL ?gNO_PAIR ?gHB_START ?gHB_NEW ?gHB_BORN ?gHB_GONE ?gHB_KIN ?gHB_HERD ?gGIVEN_COUNTS ?lGIVEN_COUNTS ?zlen ?zlist ?zmin ?zrange ?zsorted ?zsum ?ztuple ?zzip
      (case aMating => k_is)
      (case aShare => k_is)
      (case aAnimal => k_is)
      (case aHerd => k_is)
      (case aMating_init => k_is)
      (case iMating_init => k_is)
      (case lMating_init => k_is)
      (case dMating_init => k_is)
      (case kMating_init => k_is)
      (case aShare_init => k_is)
      (case iShare_init => k_is)
      (case lShare_init => k_is)
      (case dShare_init => k_is)
      (case kShare_init => k_is)
      (case aAnimal_init => k_is)
      (case iAnimal_init => k_is)
      (case lAnimal_init => k_is)
      (case dAnimal_init => k_is)
      (case kAnimal_init => k_is)
      (case aHerd_init => k_is)
      (case iHerd_init => k_is)
      (case lHerd_init => k_is)
      (case dHerd_init => k_is)
      (case kHerd_init => k_is)
      (case aHerd_begin => k_is)
      (case iHerd_begin => k_is)
      (case lHerd_begin => k_is)
      (case dHerd_begin => k_is)
      (case kHerd_begin => k_is)
      (case aHerd_take_in => k_is)
      (case iHerd_take_in => k_is)
      (case lHerd_take_in => k_is)
      (case dHerd_take_in => k_is)
      (case kHerd_take_in => k_is)
      (case aHerd_breed => k_is)
      (case iHerd_breed => k_is)
      (case lHerd_breed => k_is)
      (case dHerd_breed => k_is)
      (case kHerd_breed => k_is)
      (case aHerd_let_go => k_is)
      (case iHerd_let_go => k_is)
      (case lHerd_let_go => k_is)
      (case dHerd_let_go => k_is)
      (case kHerd_let_go => k_is)
      (case aHerd_tell_kin => k_is)
      (case iHerd_tell_kin => k_is)
      (case lHerd_tell_kin => k_is)
      (case dHerd_tell_kin => k_is)
      (case kHerd_tell_kin => k_is)
      (case aHerd_tell_herd => k_is)
      (case iHerd_tell_herd => k_is)
      (case lHerd_tell_herd => k_is)
      (case dHerd_tell_herd => k_is)
      (case kHerd_tell_herd => k_is)
      (case aHerd_tell_plan => k_is)
      (case iHerd_tell_plan => k_is)
      (case lHerd_tell_plan => k_is)
      (case dHerd_tell_plan => k_is)
      (case kHerd_tell_plan => k_is)
      (case aHerd_enter => k_is)
      (case iHerd_enter => k_is)
      (case lHerd_enter => k_is)
      (case dHerd_enter => k_is)
      (case kHerd_enter => k_is)
      (case aHerd_holds => k_is)
      (case iHerd_holds => k_is)
      (case lHerd_holds => k_is)
      (case dHerd_holds => k_is)
      (case kHerd_holds => k_is)
      (case aHerd_is_female => k_is)
      (case iHerd_is_female => k_is)
      (case lHerd_is_female => k_is)
      (case dHerd_is_female => k_is)
      (case kHerd_is_female => k_is)
      (case aHerd_living_numbers => k_is)
      (case iHerd_living_numbers => k_is)
      (case lHerd_living_numbers => k_is)
      (case dHerd_living_numbers => k_is)
      (case kHerd_living_numbers => k_is)
      (case aadd_to_table => k_is)
      (case ladd_to_table => k_is)
      (case dadd_to_table => k_is)
      (case kadd_to_table => k_is)
      (case akin_with_earlier => k_is)
      (case lkin_with_earlier => k_is)
      (case dkin_with_earlier => k_is)
      (case kkin_with_earlier => k_is)
      (case akin_with_itself => k_is)
      (case lkin_with_itself => k_is)
      (case dkin_with_itself => k_is)
      (case kkin_with_itself => k_is)
      (case akin_to_all => k_is)
      (case lkin_to_all => k_is)
      (case dkin_to_all => k_is)
      (case kkin_to_all => k_is)
      (case akin_between => k_is)
      (case lkin_between => k_is)
      (case dkin_between => k_is)
      (case kkin_between => k_is)
      (case aways_to_share => k_is)
      (case lways_to_share => k_is)
      (case dways_to_share => k_is)
      (case kways_to_share => k_is)
      (case aleast_mating => k_is)
      (case lleast_mating => k_is)
      (case dleast_mating => k_is)
      (case kleast_mating => k_is)
      (case aleast_rest => k_is)
      (case lleast_rest => k_is)
      (case dleast_rest => k_is)
      (case kleast_rest => k_is)
      (case aless => k_is)
      (case lless => k_is)
      (case dless => k_is)
      (case kless => k_is)
      (case arow_cost => k_is)
      (case lrow_cost => k_is)
      (case drow_cost => k_is)
      (case krow_cost => k_is)
      (case acost_of => k_is)
      (case lcost_of => k_is)
      (case dcost_of => k_is)
      (case kcost_of => k_is)
      (case aleast_share => k_is)
      (case lleast_share => k_is)
      (case dleast_share => k_is)
      (case kleast_share => k_is)
      (case akin_among => k_is)
      (case lkin_among => k_is)
      (case dkin_among => k_is)
      (case kkin_among => k_is)
      (case aweighed => k_is)
      (case lweighed => k_is)
      (case dweighed => k_is)
      (case kweighed => k_is)
      (case apull_of_male => k_is)
      (case lpull_of_male => k_is)
      (case dpull_of_male => k_is)
      (case kpull_of_male => k_is)
      (case awith_added => k_is)
      (case lwith_added => k_is)
      (case dwith_added => k_is)
      (case kwith_added => k_is)
      (case aleast_from => k_is)
      (case lleast_from => k_is)
      (case dleast_from => k_is)
      (case kleast_from => k_is)
      (case aleast_of_ways => k_is)
      (case lleast_of_ways => k_is)
      (case dleast_of_ways => k_is)
      (case kleast_of_ways => k_is)
      (case aakin_in => k_is)
      (case lakin_in => k_is)
      (case dakin_in => k_is)
      (case kakin_in => k_is)
      (case aplan_numbers => k_is)
      (case lplan_numbers => k_is)
      (case dplan_numbers => k_is)
      (case kplan_numbers => k_is)
      (case abreeders => k_is)
      (case lbreeders => k_is)
      (case dbreeders => k_is)
      (case kbreeders => k_is)
      (case afilled_up => k_is)
      (case lfilled_up => k_is)
      (case dfilled_up => k_is)
      (case kfilled_up => k_is)
      (case aanswers => k_is)
      (case lanswers => k_is)
      (case danswers => k_is)
      (case kanswers => k_is)
      (case aanswer_call => k_is)
      (case lanswer_call => k_is)
      (case danswer_call => k_is)
      (case kanswer_call => k_is)
      (case pgMating => k_is)
      (case hdMating => k_is)
      (case poMating => k_is)
      (case saMating => k_is)
      (case mkMating => k_is)
      (case kcMating => k_is)
      (case noMating_cost => k_is)
      (case noMating_rows => k_is)
      (case pgShare => k_is)
      (case hdShare => k_is)
      (case poShare => k_is)
      (case saShare => k_is)
      (case mkShare => k_is)
      (case kcShare => k_is)
      (case noShare_akin => k_is)
      (case noShare_of_males => k_is)
      (case noShare_of_females => k_is)
      (case pgAnimal => k_is)
      (case hdAnimal => k_is)
      (case poAnimal => k_is)
      (case saAnimal => k_is)
      (case mkAnimal => k_is)
      (case kcAnimal => k_is)
      (case noAnimal_female => k_is)
      (case noAnimal_living => k_is)
      (case pgHerd => k_is)
      (case hdHerd => k_is)
      (case poHerd => k_is)
      (case saHerd => k_is)
      (case mkHerd => k_is)
      (case kcHerd => k_is)
      (case noHerd_animals => k_is)
      (case noHerd_table => k_is)
      (case gCERTAIN => k_is)
      (case gMOST_OF_A_SEX => k_is)
      (case gNO_BREEDER => k_is)
      (case gMOST_ANIMALS => k_is)
      (case gMOST_YOUNG => k_is)
      (case gNOT_IN_BOOK => k_is)
      (case gGONE_ALREADY => k_is)
      (case gWRONG_SEX => k_is)
      (case gBAD_NUMBER => k_is)
      (case gBOOK_FULL => k_is)
      (case gNO_PAIR => k_is)
      (case gHB_START => k_is)
      (case gHB_NEW => k_is)
      (case gHB_BORN => k_is)
      (case gHB_GONE => k_is)
      (case gHB_KIN => k_is)
      (case gHB_HERD => k_is)
      (case gGIVEN_COUNTS => k_is)
      (case lGIVEN_COUNTS => k_is)
      (case zlen => k_is)
      (case zlist => k_is)
      (case zmin => k_is)
      (case zrange => k_is)
      (case zsorted => k_is)
      (case zsum => k_is)
      (case ztuple => k_is)
      (case zzip => k_is)
    obtain ⟨t, T⟩ := T
    have e0 := hmg.symm.trans T.mganswers
    cases e0
    obtain ⟨fd, F, bd⟩ := T.fnanswers
    refine ⟨fd, ?_, fun base _ _ => Hp.ok_ans T F⟩
    obtain ⟨oc, od, kV, doc, pm, an, cdv, ct, osl, rfl, lk, hcd⟩ := F.ex
    exact fun s u => .of_eq rfl
  case S =>
    intro K H a ns hlen hbd hask hS
    obtain ⟨ks, e, h1, h2, h3, h4⟩ := Hw.answers_eq hask
    exact ⟨a, ks, rfl, by rw [← e]; exact hS, h2, fun b H' hb => ⟨b, rfl, by rw [h4]; exact hb⟩⟩
#print axioms PySem.Challenge.cw_herdwhole_s01_answers_holds
