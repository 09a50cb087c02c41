import PyProof.Rows.All
import Wide.All
import OpenK.AllK
import Wide.FinOn
import Lean
import PyProof.EqAt
import PyProof.EqKinds
import PyProof.TupleCall
import PySem.Challenge.RW_talehands_k20_rows_that_keep_to_rooms
set_option Elab.async false
set_option linter.all false
set_option maxRecDepth 100000
set_option Elab.async false
set_option linter.all false
set_option maxRecDepth 100000
namespace L2
open PySem PySem.Spec PyProof.Rows
/-- a key: an int or a str -/
noncomputable abbrev Key := Sum Int Str
noncomputable def keyIs : Key → Value → Bool
  | .inl k, v => Value.isInt k v
  | .inr x, v => Value.isStrOf x v
noncomputable def keyH (w : World) : Key → Int
  | .inl k => hashInt k
  | .inr x => hashStr w x
theorem keyIs_shape : ∀ {k : Key} {v : Value}, keyIs k v = true → (∃ i t, k = Sum.inl i ∧ v = Value.int i t) ∨ (∃ x t, k = Sum.inr x ∧ v = Value.str x t)
  | .inl i, v, h => by
    obtain ⟨t, e⟩ := Value.isInt_shape (k := i) (v := v) h
    exact .inl ⟨i, t, rfl, e⟩
  | .inr x, v, h => by
    obtain ⟨t, e⟩ := Value.isStrOf_shape (x := x) (v := v) h
    exact .inr ⟨x, t, rfl, e⟩
theorem keyIs_int (i : Int) (t : Tok) : keyIs (.inl i) (.int i t) = true := by simp [keyIs, Value.isInt]
theorem keyIs_str (x : Str) (t : Tok) : keyIs (.inr x) (.str x t) = true := by simp [keyIs, Value.isStrOf]
theorem key_ll (a b : Int) : decide ((Sum.inl a : Key) = Sum.inl b) = (a == b) := by
  by_cases e : a = b
  · subst e; simp
  · have h : ¬ (Sum.inl a : Key) = Sum.inl b := fun q => e (Sum.inl.inj q)
    rw [decide_eq_false h]
    exact (beq_eq_false_iff_ne.mpr e).symm
theorem key_rr (a b : Str) : decide ((Sum.inr a : Key) = Sum.inr b) = decide (a = b) := by
  by_cases e : a = b
  · subst e; simp
  · have h : ¬ (Sum.inr a : Key) = Sum.inr b := fun q => e (Sum.inr.inj q)
    rw [decide_eq_false h, decide_eq_false e]
theorem key_lr (a : Int) (b : Str) : decide ((Sum.inl a : Key) = Sum.inr b) = false := decide_eq_false (fun q => nomatch q)
theorem key_rl (a : Str) (b : Int) : decide ((Sum.inr a : Key) = Sum.inl b) = false := decide_eq_false (fun q => nomatch q)
noncomputable def mixKind (prog : Program) (w : World) : PySem.KeyKind prog w Key where
  is := keyIs
  hash := keyH w
  inj := fun v a b ha hb => by
    rcases keyIs_shape ha with ⟨i, t, rfl, rfl⟩ | ⟨x, t, rfl, rfl⟩
    · rcases keyIs_shape hb with ⟨j, u, rfl, e⟩ | ⟨y, u, rfl, e⟩
      · injection e with e1 _; rw [e1]
      · exact nomatch e
    · rcases keyIs_shape hb with ⟨j, u, rfl, e⟩ | ⟨y, u, rfl, e⟩
      · exact nomatch e
      · injection e with e1 _; rw [e1]
  byValue := fun k v h => by
    rcases keyIs_shape h with ⟨i, t, rfl, rfl⟩ | ⟨x, t, rfl, rfl⟩ <;> rfl
  pyHash := fun hv h => by
    rcases keyIs_shape hv with ⟨i, t, rfl, rfl⟩ | ⟨x, t, rfl, rfl⟩
    · exact wpAny_pyHash_int h
    · exact wpAny_pyHash_str h
  eqBool := fun hu hv h => by
    rcases keyIs_shape hu with ⟨i, t, rfl, rfl⟩ | ⟨x, t, rfl, rfl⟩
    · rcases keyIs_shape hv with ⟨j, u, rfl, rfl⟩ | ⟨y, u, rfl, rfl⟩
      · rw [key_ll] at h; exact wpAny_eqBool_int h
      · rw [key_lr] at h; exact SeqAt.EqAt.int_str i t y u _ _ _ _ h
    · rcases keyIs_shape hv with ⟨j, u, rfl, rfl⟩ | ⟨y, u, rfl, rfl⟩
      · rw [key_rl] at h; exact SeqAt.EqAt.str_int x t j u _ _ _ _ h
      · rw [key_rr] at h; exact wpAny_eqBool_str h
  «strs» := fun k x t v h => by
    rcases keyIs_shape h with ⟨i, u, rfl, e⟩ | ⟨y, u, rfl, e⟩
    · exact nomatch e
    · injection e with e1 _
      subst e1
      cases v <;> rfl
theorem mixKind_int (prog : Program) (w : World) (i : Int) (t : Tok) : (mixKind prog w).is (.inl i) (.int i t) = true := keyIs_int i t
theorem mixKind_str (prog : Program) (w : World) (x : Str) (t : Tok) : (mixKind prog w).is (.inr x) (.str x t) = true := keyIs_str x t
end L2
namespace L2
open PySem PySem.Spec PyProof.Rows
/-- a value, without the heap -/
inductive V where
  | non | bl (b : Bool) | int (i : Int) | str (x : Str) | byt (b : Array UInt8) | flt (b : UInt64) | ref (a : Addr) | ty (n : String)
  deriving DecidableEq
noncomputable def RelV : V → Value → Prop
  | .non, u => u = Value.none
  | .bl b, u => u = Value.bool b
  | .int i, u => ∃ t, u = Value.int i t
  | .str x, u => ∃ t, u = Value.str x t
  | .byt b, u => ∃ t, u = Value.bytes b t
  | .flt b, u => ∃ t, u = Value.float b t
  | .ref a, u => u = Value.ref a
  | .ty n, u => u = Value.type n
noncomputable abbrev Vals : List V → List Value → Prop := Paired RelV
theorem Vals.length {xs : List V} {us : List Value} (r : Vals xs us) : xs.length = us.length := Paired.length r
theorem Vals.get : ∀ {xs : List V} {us : List Value} {i : Nat} {x : V}, Vals xs us → xs[i]? = some x → ∃ u, us[i]? = some u ∧ RelV x u
  | _, _, _, _, .nil, e => by simp at e
  | _, _, 0, _, .cons r _, e => by simp at e; subst e; exact ⟨_, rfl, r⟩
  | _, _, i + 1, x, .cons _ t, e => by
    obtain ⟨u, h1, h2⟩ := Vals.get (i := i) (x := x) t (by simpa using e)
    exact ⟨u, by simpa using h1, h2⟩
theorem Vals.set {x : V} {u : Value} (r : RelV x u) : ∀ {xs : List V} {us : List Value} (i : Nat), Vals xs us → Vals (xs.set i x) (us.set i u)
  | _, _, _, .nil => .nil
  | _, _, 0, .cons _ t => .cons r t
  | _, _, i + 1, .cons q t => .cons q (Vals.set r i t)
theorem Vals.append : ∀ {xs ys : List V} {us ws : List Value}, Vals xs us → Vals ys ws → Vals (xs ++ ys) (us ++ ws)
  | _, _, _, _, .nil, s => s
  | _, _, _, _, .cons r t, s => .cons r (Vals.append t s)
theorem Vals.take : ∀ {xs : List V} {us : List Value} (n : Nat), Vals xs us → Vals (xs.take n) (us.take n)
  | _, _, 0, _ => .nil
  | _, _, _ + 1, .nil => .nil
  | _, _, n + 1, .cons r t => .cons r (Vals.take n t)
theorem Vals.drop : ∀ {xs : List V} {us : List Value} (n : Nat), Vals xs us → Vals (xs.drop n) (us.drop n)
  | _, _, 0, r => r
  | _, _, _ + 1, .nil => .nil
  | _, _, n + 1, .cons _ t => Vals.drop n t
noncomputable def RelO : Option V → Option Value → Prop
  | some v, some u => RelV v u
  | none, none => True
  | _, _ => False
noncomputable def KV {κ : Type} : List (κ × V) → List (κ × Value) → Prop := Paired fun (p : κ × V) (q : κ × Value) => p.1 = q.1 ∧ RelV p.2 q.2
/-- a key of a dict (00_mix): an int or a text -/
noncomputable def kV : Key → V
  | .inl i => .int i
  | .inr x => .str x
/-- what stands at a tracked address -/
inductive HO where
  /-- a list -/
  | lst (xs : List V)
  /-- a tuple (never changes) -/
  | tup (xs : List V)
  /-- a dict whose keys are ints and texts; one whose keys are tuples of ints and texts (the empty one is both) -/
  | dK (kvs : List (Key × V)) | dT (kvs : List (List Key × V))
  /-- a set of ints: its members, its size -/
  | set (S : Int → Bool) (n : Nat)
  /-- an instance of the class at C, its dict at dx, its attributes -/
  | ins (C dx : Addr) (fs : List (Str × V))
  /-- the dict of the instance at x -/
  | own (x : Addr)
  /-- the dict of an exception -/
  | xd (fs : List (Str × V))
  /-- a bound method, f of x -/
  | met (f x : Addr)
  /-- a range object lo, lo + 1, .. below hi -/
  | rng (lo hi : Int)
  /-- a thing that is known to the object (the script; a dict while a loop walks it): read, never written while it is so -/
  | frz (o : Obj) (u : HO)
  /-- a code object's table -/
  | tbl (ps : Array Value)
  /-- any other thing, by what is true of its one object (a def of one's own: SetO a S n := HO.ext fun h => ..) -/
  | ext (φ : Heap → Prop)
noncomputable abbrev Hp := Addr → Option HO
noncomputable def upd (H : Hp) (a : Addr) (o : HO) : Hp := fun b => if b = a then some o else H b
theorem upd_same {H : Hp} {a : Addr} {o : HO} : upd H a o a = some o := by unfold upd; rw [if_pos rfl]
theorem upd_ne {H : Hp} {a b : Addr} {o : HO} (h : b ≠ a) : upd H a o b = H b := by unfold upd; rw [if_neg h]
/-- two objects of different content stand apart -/
theorem ne_of {H : Hp} {a b : Addr} {o u : HO} (h : H a = some o) (h' : H b = some u) (d : o ≠ u) : a ≠ b := by
  intro e; subst e; rw [h] at h'; exact d (Option.some.inj h')
theorem ne_of_none {H : Hp} {a b : Addr} {o : HO} (h : H a = some o) (h' : H b = none) : a ≠ b := by
  intro e; subst e; rw [h] at h'; cases h'
section
variable (P : Program) (w : World)
noncomputable def ObjOk (H : Hp) (h : Heap) (a : Addr) : HO → Prop
  | .lst xs => xs.length ≤ sizeLine ∧ ∃ (its : List Value) (n : Nat), Vals xs its ∧ h.get? a = some { cls := .type "list", data := .seq its.toArray n }
  | .tup xs => xs.length ≤ sizeLine ∧ ∃ its : List Value, Vals xs its ∧ IsTup h a its.toArray
  | .dK kvs => kvs.length ≤ sizeLine ∧ (a == sysModules) = false ∧ ∃ vs, KV kvs vs ∧ h.DictOf (mixKind P w) a vs
  | .dT kvs => kvs.length ≤ sizeLine ∧ (a == sysModules) = false ∧ ∃ xs : List (List Key × Addr × Value),
      Paired (fun (p : List Key × V) (q : List Key × Addr × Value) => p.1 = q.1 ∧ H q.2.1 = some (.tup (p.1.map kV)) ∧ RelV p.2 q.2.2) kvs xs ∧
      ∃ o es ep, h.get? a = some o ∧ o.ExactDict ∧ o.data = .dict es ep ∧ es.toList = xs.map (entryOfKey (tupleKind (mixKind P w))) ∧ (xs.map (·.1)).Nodup
  | .set S n => h.SetOf (intKind P w) a S n
  | .ins C dx fs => H dx = some (.own a) ∧ fs.length ≤ 1000 ∧ dx ≠ a ∧ h.get? a = some (PySem.W.instObj C dx) ∧
      ∃ mA, h.Ns1 dx mA ∧ (∀ f, RelO (fs.lookup f) (mA f)) ∧ PySem.Within mA (fs.map (·.1))
  | .own _ => ∃ o, h.get? a = some o
  | .xd fs => ∃ mA, h.Ns1 a mA ∧ ∀ f, RelO (fs.lookup f) (mA f)
  | .rng lo hi => ∃ t u v, h.get? a = some { cls := .type "range", data := .fields #[.int lo t, .int hi u, .int 1 v] }
  | .frz o u => h.get? a = some o ∧ ObjOk H h a u
  | .tbl ps => h.get? a = some { cls := .none, data := .fields ps }
  | .met f x => h.get? a = some (PySem.W.methodObj (.ref f) (.ref x))
  | .ext φ => φ h ∧ (∃ o, h.get? a = some o) ∧ ∀ h1 h2 : Heap, φ h1 → (∀ o, h1.get? a = some o → h2.get? a = some o) → φ h2
/-- the abstract heap is held -/
noncomputable def HOk (H : Hp) (h : Heap) : Prop := ∀ a o, H a = some o → ObjOk P w H h a o
end
section
variable {P : Program} {w : World} {H H' : Hp} {h h' : Heap} {a : Addr} {o : HO}
theorem ObjOk.lt (x : ObjOk P w H h a o) : a < h.objs.size := by
  cases o with
  | lst xs => obtain ⟨_, _, _, _, e⟩ := x; exact Heap.lt_size e
  | tup xs => obtain ⟨_, _, _, p⟩ := x; exact p.lt
  | dK kvs => obtain ⟨_, _, _, _, o, _, _, e, _⟩ := x; exact Heap.lt_size e
  | dT kvs => obtain ⟨_, _, _, _, o, _, _, e, _⟩ := x; exact Heap.lt_size e
  | set S n => obtain ⟨o, _, _, _, e, _⟩ := x; exact Heap.lt_size e
  | ins C dx fs => obtain ⟨_, _, _, e, _⟩ := x; exact Heap.lt_size e
  | own y => obtain ⟨_, e⟩ := x; exact Heap.lt_size e
  | xd fs => obtain ⟨_, ⟨_, _, _, e, _⟩, _⟩ := x; exact Heap.lt_size e
  | rng lo hi => obtain ⟨_, _, _, e⟩ := x; exact Heap.lt_size e
  | frz ob u => obtain ⟨e, _⟩ := x; exact Heap.lt_size e
  | tbl ps => exact Heap.lt_size (show h.get? a = some _ from x)
  | met f y => exact Heap.lt_size (show h.get? a = some _ from x)
  | ext φ => obtain ⟨_, ⟨_, e⟩, _⟩ := x; exact Heap.lt_size e
theorem Paired.mapP {α β : Type} {F G : α → β → Prop} : ∀ {l₁ : List α} {l₂ : List β}, Paired F l₁ l₂ → (∀ a b, F a b → G a b) → Paired G l₁ l₂
  | _, _, .nil, _ => .nil
  | _, _, .cons r t, f => .cons (f _ _ r) (Paired.mapP t f)
/-- what an object's description leans on: its own object, its own dict, the tuples -/
theorem ObjOk.stay (x : ObjOk P w H h a o) (k : ∀ b u, (b = a ∨ H b = some (.own a)) → h.get? b = some u → h'.get? b = some u)
    (ho : ∀ b, H b = some (.own a) → H' b = some (.own a)) (ht : ∀ b xs, H b = some (.tup xs) → H' b = some (.tup xs)) : ObjOk P w H' h' a o := by
  induction o with
  | lst xs => obtain ⟨z, its, n, r, e⟩ := x; exact ⟨z, its, n, r, k _ _ (.inl rfl) e⟩
  | tup xs => obtain ⟨z, its, r, ob, e, c⟩ := x; exact ⟨z, its, r, ob, k _ _ (.inl rfl) e, c⟩
  | dK kvs => obtain ⟨z, y, vs, r, ob, es, ep, e, c⟩ := x; exact ⟨z, y, vs, r, ob, es, ep, k _ _ (.inl rfl) e, c⟩
  | dT kvs =>
    obtain ⟨z, y, xs, r, ob, es, ep, e, c⟩ := x
    exact ⟨z, y, xs, Paired.mapP r fun p q z => ⟨z.1, ht _ _ z.2.1, z.2.2⟩, ob, es, ep, k _ _ (.inl rfl) e, c⟩
  | set S n => obtain ⟨ob, es, ep, t, e, c⟩ := x; exact ⟨ob, es, ep, t, k _ _ (.inl rfl) e, c⟩
  | ins C dx fs =>
    obtain ⟨d, z, ne, e, mA, ⟨od, es, ep, e2, c⟩, r⟩ := x
    exact ⟨ho _ d, z, ne, k _ _ (.inl rfl) e, mA, ⟨od, es, ep, k _ _ (.inr d) e2, c⟩, r⟩
  | own y => obtain ⟨ob, e⟩ := x; exact ⟨ob, k _ _ (.inl rfl) e⟩
  | xd fs => obtain ⟨mA, ⟨od, es, ep, e, c⟩, r⟩ := x; exact ⟨mA, ⟨od, es, ep, k _ _ (.inl rfl) e, c⟩, r⟩
  | rng lo hi => obtain ⟨t, u, v, e⟩ := x; exact ⟨t, u, v, k _ _ (.inl rfl) e⟩
  | frz ob u ih => obtain ⟨e, q⟩ := x; exact ⟨k _ _ (.inl rfl) e, ih q⟩
  | tbl ps =>
    have e : h.get? a = some { cls := .none, data := .fields ps } := x
    show h'.get? a = some { cls := .none, data := .fields ps }
    exact k a _ (.inl rfl) e
  | met f y =>
    have e : h.get? a = some (PySem.W.methodObj (.ref f) (.ref y)) := x
    show h'.get? a = some (PySem.W.methodObj (.ref f) (.ref y))
    exact k a _ (.inl rfl) e
  | ext φ => obtain ⟨p, ⟨o, e⟩, st⟩ := x; exact ⟨st _ _ p fun o q => k _ _ (.inl rfl) q, ⟨o, k _ _ (.inl rfl) e⟩, st⟩
theorem HOk.lt (x : HOk P w H h) (e : H a = some o) : a < h.objs.size := (x a o e).lt
theorem HOk.fresh (x : HOk P w H h) (e : h.objs.size ≤ a) : H a = none := by
  cases q : H a with
  | none => rfl
  | some u => exact absurd (Nat.lt_of_lt_of_le (x.lt q) e) (Nat.lt_irrefl _)
/-- every object of the heap is kept -/
theorem HOk.kept (x : HOk P w H h) (k : ∀ b u, h.get? b = some u → h'.get? b = some u) : HOk P w H h' := fun a o e =>
  (x a o e).stay (fun b u _ q => k b u q) (fun _ q => q) fun _ _ q => q
/-- a new object is laid and tracked -/
theorem HOk.laid (x : HOk P w H h) (k : ∀ b u, h.get? b = some u → h'.get? b = some u) (hp : h.objs.size ≤ a) (new : ObjOk P w (upd H a o) h' a o) : HOk P w (upd H a o) h' := fun b u e => by
  have hn := x.fresh hp
  by_cases hb : b = a
  · subst hb; rw [upd_same] at e; cases e; exact new
  · rw [upd_ne hb] at e
    exact (x b u e).stay (fun c v _ q => k c v q) (fun c q => by rw [upd_ne (ne_of_none q hn)]; exact q) fun c xs q => by rw [upd_ne (ne_of_none q hn)]; exact q
end
/-- what may be read as u: it is u, or a known u -/
noncomputable def Rd (H : Hp) (a : Addr) (u : HO) : Prop := H a = some u ∨ ∃ o, H a = some (.frz o u)
theorem Rd.ok {P : Program} {w : World} {H : Hp} {h : Heap} {a : Addr} {u : HO} (r : Rd H a u) (x : HOk P w H h) : ObjOk P w H h a u := by
  rcases r with r | ⟨o, r⟩
  · exact x a u r
  · obtain ⟨_, q⟩ := x a _ r
    exact q
/-- what may be written -/
noncomputable def Mut : Option HO → Prop
  | some (.lst _) => True
  | some (.dK _) => True
  | some (.dT _) => True
  | some (.set _ _) => True
  | some (.ins _ _ _) => True
  | some (.ext _) => True
  | _ => False
section
variable {P : Program} {w : World} {H : Hp} {h h' : Heap} {x e : Addr} {o' : HO}
/-- the object at e is changed: x itself, or the dict of the instance x -/
theorem HOk.write (ok : HOk P w H h) (mu : Mut (H x)) (he : e = x ∨ H e = some (.own x)) (k : ∀ b u, b ≠ e → h.get? b = some u → h'.get? b = some u) (heo : ∃ u, h'.get? e = some u)
    (new : ObjOk P w (upd H x o') h' x o') : HOk P w (upd H x o') h' := fun b u q => by
  have nown : ∀ c y, H c = some (.own y) → c ≠ x := fun c y r z => by subst z; rw [r] at mu; exact mu
  have ntup : ∀ c xs, H c = some (.tup xs) → c ≠ x := fun c xs r z => by subst z; rw [r] at mu; exact mu
  by_cases hb : b = x
  · subst hb; rw [upd_same] at q; cases q; exact new
  · rw [upd_ne hb] at q
    by_cases hbe : b = e
    · have q' : H b = some (.own x) := by
        rcases he with z | z
        · exact absurd (hbe.trans z) hb
        · rw [hbe]; exact z
      rw [q] at q'; cases q'
      obtain ⟨v, hv⟩ := heo
      exact ⟨v, by rw [hbe]; exact hv⟩
    · refine (ok b u q).stay (fun c v hc r => k c v ?_ r) (fun c r => by rw [upd_ne (nown c b r)]; exact r) fun c xs r => by rw [upd_ne (ntup c xs r)]; exact r
      rcases hc with rfl | hc
      · exact hbe
      · rintro rfl
        rcases he with z | z
        · exact nown c b hc z
        · rw [hc] at z; cases z; exact hb rfl
end
structure Un (fs ex : List Addr) (H H' : Hp) (h h' : Heap) : Prop where
  keep : ∀ b o, h.get? b = some o → H b = none → b ∉ fs → b ∉ ex → h'.get? b = some o
  slot : ∀ b o, h.get? b = some o → H b = none → b ∈ fs → b ∉ ex → ∃ sl, h'.get? b = some { o with slots := sl }
  free : ∀ b o, h.get? b = some o → H b = none → b ∉ ex → H' b = none
  there : ∀ b o, h.get? b = some o → b ∉ ex → ∃ o', h'.get? b = some o'
  tups : ∀ b xs, H b = some (.tup xs) → H' b = some (.tup xs)
  frzs : ∀ b o u, H b = some (.frz o u) → H' b = some (.frz o u)
  tbls : ∀ b ps, H b = some (.tbl ps) → ∃ more, H' b = some (.tbl (ps ++ more))
section
variable {fs fs' ex ex' : List Addr} {H H1 H2 : Hp} {h h1 h2 h' : Heap} {a x e : Addr} {o : HO}
theorem Un.any (u : Un fs ex H H1 h h1) {b : Addr} {ob : Obj} (q : h.get? b = some ob) (n : H b = none) (hx : b ∉ ex) : ∃ sl, h1.get? b = some { ob with slots := sl } := by
  by_cases hb : b ∈ fs
  · exact u.slot b ob q n hb hx
  · exact ⟨ob.slots, u.keep b ob q n hb hx⟩
theorem Un.kept (k : ∀ b u, h.get? b = some u → h'.get? b = some u) : Un fs ex H H h h' :=
  ⟨fun b ob q _ _ _ => k b ob q, fun b ob q _ _ _ => ⟨ob.slots, k b ob q⟩, fun _ _ _ n _ => n, fun b ob q _ => ⟨ob, k b ob q⟩, fun _ _ q => q, fun _ _ _ q => q, fun _ ps q => ⟨#[], by rw [q]; simp⟩⟩
theorem Un.refl : Un fs ex H H h h := Un.kept fun _ _ q => q
theorem Un.laid (k : ∀ b u, h.get? b = some u → h'.get? b = some u) (hp : h.objs.size ≤ a) (hn : H a = none) : Un fs ex H (upd H a o) h h' where
  keep := fun b u q _ _ _ => k b u q
  slot := fun b u q _ _ _ => ⟨u.slots, k b u q⟩
  free := fun b u q n _ => by rw [upd_ne (Nat.ne_of_lt (Nat.lt_of_lt_of_le (Heap.lt_size q) hp))]; exact n
  there := fun b u q _ => ⟨u, k b u q⟩
  tups := fun b xs q => by rw [upd_ne (ne_of_none q hn)]; exact q
  frzs := fun b u xs q => by rw [upd_ne (ne_of_none q hn)]; exact q
  tbls := fun b ps q => ⟨#[], by rw [upd_ne (ne_of_none q hn), q]; simp⟩
theorem Un.write (mu : Mut (H x)) (he : e = x ∨ H e = some (.own x)) (k : ∀ b u, b ≠ e → h.get? b = some u → h'.get? b = some u) (heo : ∃ u, h'.get? e = some u) : Un fs ex H (upd H x o) h h' := by
  have hx : ∀ b, H b = none → b ≠ x := fun b n z => by subst z; rw [n] at mu; exact mu
  have hb : ∀ b, H b = none → b ≠ e := fun b n z => by
    subst z
    rcases he with r | r
    · exact hx b n r
    · rw [n] at r; cases r
  have hm : ∀ b u, H b = some u → ¬ Mut (some u) → b ≠ x := fun b u q nm z => by subst z; rw [q] at mu; exact nm mu
  refine ⟨fun b u q n _ _ => k b u (hb b n) q, fun b u q n _ _ => ⟨u.slots, k b u (hb b n) q⟩, fun b u q n _ => by rw [upd_ne (hx b n)]; exact n, fun b u q _ => ?_,
    fun b xs q => by rw [upd_ne (hm b _ q fun z => z)]; exact q, fun b u xs q => by rw [upd_ne (hm b _ q fun z => z)]; exact q, fun b ps q => ⟨#[], by rw [upd_ne (hm b _ q fun z => z), q]; simp⟩⟩
  by_cases hbe : b = e
  · subst hbe; exact heo
  · exact ⟨u, k b u hbe q⟩
end
noncomputable def trk (h : Heap) (H : Hp) : List Addr := (List.range h.objs.size).filter fun a => (H a).isSome
noncomputable def hidT (h : Heap) (H : Hp) : Heap := PySem.W.hideAll h (trk h H)
theorem hidT_size (h : Heap) (H : Hp) : (hidT h H).objs.size = h.objs.size := PySem.W.hideAll_size _ _
theorem hidT_get {h : Heap} {H : Hp} {b : Addr} {o : Obj} (e : h.get? b = some o) (n : H b = none) : (hidT h H).get? b = some o :=
  PySem.W.hideAll_get _ e fun hm => by
    have q : (H b).isSome = true := (List.mem_filter.mp hm).2
    rw [n] at q; simp at q
theorem of_hidT {h : Heap} {H : Hp} {b : Addr} {o : Obj} (e : (hidT h H).get? b = some o) : h.get? b = some o ∧ H b = none := by
  have e' : h.get? b = some o := PySem.W.of_hideAll (trk h H) e
  refine ⟨e', ?_⟩
  cases q : H b with
  | none => rfl
  | some x =>
    have hm : b ∈ trk h H := List.mem_filter.mpr ⟨List.mem_range.mpr (Heap.lt_size e'), by simp [q]⟩
    have z : (hidT h H).get? b = none := PySem.W.hideAll_none (trk h H) hm
    rw [z] at e; cases e
end L2
namespace L2
open PySem PySem.Spec PyProof.Rows
/-- the module's facts, over the base: the heap at the law's entry without what is tracked there -/
structure Mod (K : PySem.W.Frag) (mg : Str → Option Value) (base : Heap) : Prop where
  kin : K.In base
  glob : base.Ns mainGlobals mg
  blt : ∃ mb, base.Ns builtinsNs mb ∧ ∀ x : Str, x ≠ "__name__" → mb x = bootBuiltins x
  nolimit : base.NoLimit
/-- the context: a def's body (or a comprehension's block) running. base: fixed through the whole law; s₀, H₀: the entry; outer: the frames whose slots others may change (a def's callers); stack: all frames that run;
   ex: iterators that were made ahead of the entry and are walked here (a comprehension's); fn: the names whose cells were made at the entry (a def: all; a comprehension's block: its own); calm: not within an except suite; pn: pins that every state bears; xe: what is wanted of an exception that leaves the code -/
structure Cx where
  prog : Program
  w : World
  K : PySem.W.Frag
  mg : Str → Option Value
  base : Heap
  A : Around
  N : List Str
  s₀ : Shared
  H₀ : Hp
  env : Env
  outer : List Env
  stack : List Env
  ex : List Addr
  fn : Str → Bool
  calm : Bool
  pn : List (Addr × Obj)
  xe : Value → Shared → Prop
/-- the callers' frames -/
noncomputable def frs (l : List Env) : List Addr := l.filterMap (·.frame)
noncomputable abbrev Cx.fs (X : Cx) : List Addr := frs X.outer
noncomputable def Vis (sc : Scope) (x : Str) : Prop := sc.names.lookup x = some .local ∨ sc.names.lookup x = some .cell ∨ sc.names.lookup x = some .free
noncomputable def Loc (sc : Scope) (x : Str) : Prop := sc.names.lookup x = some .local ∨ sc.names.lookup x = some .cell
noncomputable def Look (env : Env) (h : Heap) (m : Str → Option Value) (x : Str) (u : Value) : Prop :=
  (env.kindOf x = some .local ∧ m x = some u) ∨ ((env.kindOf x = some .cell ∨ env.kindOf x = some .free) ∧ ∃ c, env.cells.lookup x = some c ∧ h.IsCell c (some u))
structure Cx.Ok (X : Cx) : Prop where
  mod : Mod X.K X.mg X.base
  kind : X.env.scope.kind = .function
  glob : X.env.globals = mainGlobals
  blt : X.env.builtins = builtinsNs
  above : X.s₀.heap.objs.size ≤ X.env.locals
  inj : ∀ x y c, X.env.cells.lookup x = some c → X.env.cells.lookup y = some c → x = y
  has : ∀ x, (X.env.kindOf x = some .cell ∨ X.env.kindOf x = some .free) → ∃ c, X.env.cells.lookup x = some c
  cab : ∀ x c, X.fn x = true → X.env.cells.lookup x = some c → X.s₀.heap.objs.size ≤ c
  hd : X.calm = true → X.A.handled = none
  frames : X.A.frames = some X.stack
  stk : X.stack = X.outer ∨ (X.stack = X.env :: X.outer ∧ X.env.frame = some X.env.locals)
  exf : ∀ b ∈ X.ex, b ≠ X.env.locals ∧ ∀ x c, X.env.cells.lookup x = some c → c ≠ b
  bs : ∀ b o, X.base.get? b = some o → X.s₀.heap.get? b = some o ∧ X.H₀ b = none
  bsz : X.base.objs.size ≤ X.s₀.heap.objs.size
  noex : ∀ b o, X.base.get? b = some o → b ∉ X.ex
  exfs : ∀ b ∈ X.ex, b ∉ X.fs
  funs : X.s₀.heap.FunFrames X.base X.outer
  frf : ∀ b ∈ X.fs, X.H₀ b = none
structure Inv (X : Cx) (pins : List (Addr × Obj)) (σ : List (Option V)) (H : Hp) (s : Shared) : Prop where
  ok : X.Ok
  os : s.os = X.s₀.os
  bare : AllBare s.gens
  base : Un X.fs X.ex X.H₀ H X.s₀.heap s.heap
  loc : ∃ m, s.heap.Ns X.env.locals m ∧ ∀ (i : Nat) (x : Str) (v : V), X.N[i]? = some x → σ[i]? = some (some v) → Vis X.env.scope x → ∃ u, RelV v u ∧ Look X.env s.heap m x u
  cell : ∀ x c, X.env.cells.lookup x = some c → ∃ v, s.heap.IsCell c v
  free : H X.env.locals = none
  freeC : ∀ x c, X.env.cells.lookup x = some c → H c = none
  pin : ∀ p ∈ X.pn ++ pins, s.heap.get? p.1 = some p.2 ∧ H p.1 = none ∧ p.1 ≠ X.env.locals ∧ p.1 ∉ X.fs ∧ ∀ v, p.2.data ≠ .cell v
  hok : HOk X.prog X.w H s.heap
  len : σ.length = X.N.length
section
variable {X : Cx} {pins : List (Addr × Obj)} {σ : List (Option V)} {H H' : Hp} {s : Shared} {h' : Heap}
theorem Cx.Ok.nofr (ok : X.Ok) {b : Addr} {o : Obj} (e : X.base.get? b = some o) : b ∉ X.fs := fun hb => by
  have := (ok.funs.mem hb).1
  rw [e] at this; cases this
theorem Inv.bs (I : Inv X pins σ H s) : ∀ b o, X.base.get? b = some o → s.heap.get? b = some o ∧ H b = none := fun b o e =>
  ⟨I.base.keep b o (I.ok.bs b o e).1 (I.ok.bs b o e).2 (I.ok.nofr e) (I.ok.noex b o e), I.base.free b o (I.ok.bs b o e).1 (I.ok.bs b o e).2 (I.ok.noex b o e)⟩
theorem Inv.bk (I : Inv X pins σ H s) : ∀ b o, X.base.get? b = some o → s.heap.get? b = some o := fun b o e => (I.bs b o e).1
theorem Inv.mod (I : Inv X pins σ H s) : Mod X.K X.mg X.base := I.ok.mod
theorem Inv.kIn (I : Inv X pins σ H s) : X.K.In s.heap := I.ok.mod.kin.keeps I.bk
/-- the frame over the base: for OpenK's rules (K.In X.base is I.mod.kin) -/
theorem Inv.fr (I : Inv X pins σ H s) : ∃ m, Fr X.base X.env.locals s.heap m :=
  let ⟨m, hn, _⟩ := I.loc
  ⟨m, hn, I.bk, Nat.le_trans I.ok.bsz I.ok.above⟩
theorem Inv.lt (I : Inv X pins σ H s) : X.env.locals < s.heap.objs.size := let ⟨_, hn, _⟩ := I.loc; hn.lt
theorem Inv.sz (I : Inv X pins σ H s) : X.s₀.heap.objs.size ≤ s.heap.objs.size := Nat.le_trans I.ok.above (Nat.le_of_lt I.lt)
theorem Inv.nofs (I : Inv X pins σ H s) {a : Addr} (h : s.heap.objs.size ≤ a) : a ∉ X.fs := fun hb => by
  obtain ⟨_, o, ho, _⟩ := I.ok.funs.mem hb
  exact absurd (Nat.lt_of_lt_of_le (Heap.lt_size ho) (Nat.le_trans I.sz h)) (Nat.lt_irrefl _)
theorem Inv.cne (I : Inv X pins σ H s) : ∀ x c, X.env.cells.lookup x = some c → c ≠ X.env.locals := fun x c e z => by
  obtain ⟨v, o, ho, hd⟩ := I.cell x c e
  obtain ⟨m, ⟨o', es, ep, ho', hd', _⟩, _⟩ := I.loc
  rw [z, ho'] at ho; cases ho; rw [hd'] at hd; cases hd
theorem Inv.funs (I : Inv X pins σ H s) : s.heap.FunFrames X.base X.outer := by
  have all : ∀ (l : List Env), (∀ b ∈ frs l, b ∈ X.fs) → X.s₀.heap.FunFrames X.base l → s.heap.FunFrames X.base l := by
    intro l
    induction l with
    | nil => intro _ _; trivial
    | cons env r ih =>
      intro hs hl
      obtain ⟨hk, ⟨L, o, hf, hn, ho, hd⟩, hr⟩ := hl
      have hL : L ∈ X.fs := hs L (by unfold frs; rw [List.filterMap_cons, hf]; exact List.mem_cons_self)
      obtain ⟨sl, e⟩ := I.base.slot L o ho (I.ok.frf L hL) hL fun z => I.ok.exfs L z hL
      exact ⟨hk, ⟨L, _, hf, hn, e, hd⟩, ih (fun b hb => hs b (by unfold frs; rw [List.filterMap_cons, hf]; exact List.mem_cons_of_mem _ hb)) hr⟩
  exact all X.outer (fun _ hb => hb) I.ok.funs
/-- the frames that run, for a call -/
theorem Inv.stack (I : Inv X pins σ H s) : s.heap.FunFrames X.base X.stack := by
  rcases I.ok.stk with e | ⟨e, hf⟩
  · rw [e]; exact I.funs
  · rw [e]
    obtain ⟨m, hn, _⟩ := I.loc
    refine .cons (by rw [I.ok.kind]; decide) hf hn ?_ I.funs
    exact Heap.get?_none_of_le (Nat.le_trans I.ok.bsz I.ok.above)
theorem Inv.stkSub (I : Inv X pins σ H s) : ∀ b ∈ frs X.stack, b ∈ X.env.locals :: X.fs := fun b hb => by
  rcases I.ok.stk with e | ⟨e, hf⟩
  · rw [e] at hb; exact List.mem_cons_of_mem _ hb
  · rw [e] at hb
    unfold frs at hb
    rw [List.filterMap_cons, hf] at hb
    exact hb
theorem Inv.stkFree (I : Inv X pins σ H s) : ∀ b ∈ frs X.stack, H b = none := fun b hb => by
  rcases List.mem_cons.mp (I.stkSub b hb) with e | hb
  · rw [e]; exact I.free
  · obtain ⟨_, o, ho, _⟩ := I.ok.funs.mem hb
    exact I.base.free b o ho (I.ok.frf b hb) fun z => I.ok.exfs b z hb
/-- THE STEP: the untracked objects but the frame and the records at ch are kept (the callers' frames up to slots), the frame's map is kept, the new abstract heap is held -/
theorem Inv.step {g' : Array GenState} {t' : Nat} {d' : Drawn} {ch : List Addr} (I : Inv X pins σ H s)
    (hch : ∀ b ∈ ch, (b ∈ X.ex ∨ X.s₀.heap.objs.size ≤ b) ∧ b ≠ X.env.locals ∧ (∀ x c, X.env.cells.lookup x = some c → c ≠ b) ∧ ∀ p ∈ X.pn ++ pins, p.1 ≠ b)
    (keep : ∀ b o, b ≠ X.env.locals → b ∉ X.fs → b ∉ ch → s.heap.get? b = some o → H b = none → h'.get? b = some o)
    (slot : ∀ b o, b ≠ X.env.locals → b ∈ X.fs → b ∉ ch → s.heap.get? b = some o → H b = none → ∃ sl, h'.get? b = some { o with slots := sl }) (free : ∀ b o, b ∉ ch → s.heap.get? b = some o → H b = none → H' b = none)
    (there : ∀ b o, b ∉ ch → s.heap.get? b = some o → ∃ o', h'.get? b = some o')
    (tups : ∀ b xs, H b = some (.tup xs) → H' b = some (.tup xs)) (frzs : ∀ b o u, H b = some (.frz o u) → H' b = some (.frz o u)) (tbls : ∀ b ps, H b = some (.tbl ps) → ∃ more, H' b = some (.tbl (ps ++ more)))
    (ns : ∀ m, s.heap.Ns X.env.locals m → h'.Ns X.env.locals m) (hok : HOk X.prog X.w H' h') (hg : AllBare g') :
    Inv X pins σ H' { s with heap := h', gens := g', drawn := d', toks := t' } := by
  have neL : ∀ b o, X.s₀.heap.get? b = some o → b ≠ X.env.locals := fun b o e => Nat.ne_of_lt (Nat.lt_of_lt_of_le (Heap.lt_size e) I.ok.above)
  have neC : ∀ b o, X.s₀.heap.get? b = some o → b ∉ X.ex → b ∉ ch := fun b o e hx hb => by
    rcases (hch b hb).1 with z | z
    · exact hx z
    · exact absurd (Nat.lt_of_lt_of_le (Heap.lt_size e) z) (Nat.lt_irrefl _)
  have cellK : ∀ x c, X.env.cells.lookup x = some c → ∀ v, s.heap.IsCell c v → h'.IsCell c v := fun x c e v ⟨o, ho, hd⟩ => by
    have nch : c ∉ ch := fun z => (hch c z).2.2.1 x c e rfl
    by_cases hc : c ∈ X.fs
    · obtain ⟨sl, q⟩ := slot c o (I.cne x c e) hc nch ho (I.freeC x c e)
      exact ⟨_, q, hd⟩
    · exact ⟨o, keep c o (I.cne x c e) hc nch ho (I.freeC x c e), hd⟩
  refine ⟨I.ok, I.os, hg, ⟨fun b o e n hb hx => ?_, fun b o e n hb hx => ?_, fun b o e n hx => ?_, fun b o e hx => ?_, fun b xs e => tups b xs (I.base.tups b xs e), fun b o xs e => frzs b o xs (I.base.frzs b o xs e), fun b ps e => ?_⟩, ?_, fun x c e => ?_, ?_, fun x c e => ?_, fun p hp => ?_, hok, I.len⟩
  · exact keep b o (neL b o e) hb (neC b o e hx) (I.base.keep b o e n hb hx) (I.base.free b o e n hx)
  · obtain ⟨sl, e1⟩ := I.base.slot b o e n hb hx
    obtain ⟨sl', e2⟩ := slot b _ (neL b o e) hb (neC b o e hx) e1 (I.base.free b o e n hx)
    exact ⟨sl', e2⟩
  · obtain ⟨o', e1⟩ := I.base.there b o e hx
    exact free b o' (neC b o e hx) e1 (I.base.free b o e n hx)
  · obtain ⟨o', e1⟩ := I.base.there b o e hx
    exact there b o' (neC b o e hx) e1
  · obtain ⟨m1, e1⟩ := I.base.tbls b ps e
    obtain ⟨m2, e2⟩ := tbls b _ e1
    exact ⟨m1 ++ m2, by rw [e2, Array.append_assoc]⟩
  · obtain ⟨m, hn, hl⟩ := I.loc
    refine ⟨m, ns m hn, fun i x v e1 e2 e3 => ?_⟩
    obtain ⟨u, r, l⟩ := hl i x v e1 e2 e3
    refine ⟨u, r, ?_⟩
    rcases l with l | ⟨k, c, e, z⟩
    · exact .inl l
    · exact .inr ⟨k, c, e, cellK x c e _ z⟩
  · obtain ⟨v, z⟩ := I.cell x c e
    exact ⟨v, cellK x c e v z⟩
  · obtain ⟨m, ⟨o, _, _, ho, _⟩, _⟩ := I.loc
    exact free _ o (fun z => (hch _ z).2.1 rfl) ho I.free
  · obtain ⟨v, o, ho, hd⟩ := I.cell x c e
    exact free c o (fun z => (hch c z).2.2.1 x c e rfl) ho (I.freeC x c e)
  · obtain ⟨e, n, ne, nf, d⟩ := I.pin p hp
    have nch : p.1 ∉ ch := fun z => (hch p.1 z).2.2.2 p hp rfl
    exact ⟨keep p.1 p.2 ne nf nch e n, free p.1 p.2 nch e n, ne, nf, d⟩
/-- .. where the frame's own object is kept too -/
theorem Inv.un {t' : Nat} (I : Inv X pins σ H s) (u : Un X.fs [] H H' s.heap h') (hok : HOk X.prog X.w H' h') : Inv X pins σ H' { s with heap := h', toks := t' } := by
  obtain ⟨m, ⟨o, es, ep, ho, r⟩, _⟩ := id I.loc
  obtain ⟨sl, hL⟩ := u.any ho I.free (by simp)
  exact I.step (g' := s.gens) (d' := s.drawn) (ch := []) (fun _ z => nomatch z) (fun b o _ hb _ e n => u.keep b o e n hb (by simp)) (fun b o _ hb _ e n => u.slot b o e n hb (by simp)) (fun b o _ e n => u.free b o e n (by simp)) (fun b o _ e => u.there b o e (by simp)) u.tups u.frzs u.tbls (fun m' hm => by
    obtain ⟨o', es', ep', ho', r'⟩ := hm
    rw [ho] at ho'; cases ho'
    exact ⟨_, es', ep', hL, r'⟩) hok I.bare
/-- behind a call (or a comprehension's block): the slots of this frame may have changed too, the records at ch may have turned -/
theorem Inv.call {g' : Array GenState} {t' : Nat} {d' : Drawn} {ch : List Addr} (I : Inv X pins σ H s) (u : Un (frs X.stack) ch H H' s.heap h') (hok : HOk X.prog X.w H' h') (hg : AllBare g')
    (hch : ∀ b ∈ ch, (b ∈ X.ex ∨ X.s₀.heap.objs.size ≤ b) ∧ b ≠ X.env.locals ∧ (∀ x c, X.env.cells.lookup x = some c → c ≠ b) ∧ ∀ p ∈ X.pn ++ pins, p.1 ≠ b) :
    Inv X pins σ H' { s with heap := h', gens := g', drawn := d', toks := t' } := by
  obtain ⟨m, ⟨o, es, ep, ho, r⟩, _⟩ := id I.loc
  obtain ⟨sl, hL⟩ := u.any ho I.free fun z => (hch _ z).2.1 rfl
  exact I.step (ch := ch) hch (fun b o hL hb hc e n => u.keep b o e n (fun z => (List.mem_cons.mp (I.stkSub b z)).elim hL hb) hc) (fun b o _ _ hc e n => u.any e n hc) (fun b o hc e n => u.free b o e n hc) (fun b o hc e => u.there b o e hc) u.tups u.frzs u.tbls (fun m' hm => by
    obtain ⟨o', es', ep', ho', r'⟩ := hm
    rw [ho] at ho'; cases ho'
    exact ⟨_, es', ep', hL, r'⟩) hok hg
/-- an untracked record of ours (an iterator) has turned -/
theorem Inv.turned {t' : Nat} {it : Addr} (I : Inv X pins σ H s) (k : ∀ b o, b ≠ it → s.heap.get? b = some o → h'.get? b = some o) (hn : H it = none) (hL : it ≠ X.env.locals)
    (h1 : it ∈ X.ex ∨ X.s₀.heap.objs.size ≤ it) (h2 : ∀ x c, X.env.cells.lookup x = some c → c ≠ it) (h3 : ∀ p ∈ X.pn ++ pins, p.1 ≠ it) : Inv X pins σ H { s with heap := h', toks := t' } := by
  have nit : ∀ b u, H b = some u → b ≠ it := fun b u e z => by rw [z, hn] at e; cases e
  refine I.step (g' := s.gens) (d' := s.drawn) (ch := [it]) (fun b hb => ?_) (fun b o _ _ hc e _ => k b o (fun z => hc (by simp [z])) e) (fun b o _ _ hc e _ => ⟨o.slots, k b o (fun z => hc (by simp [z])) e⟩) (fun _ _ _ _ n => n)
    (fun b o hc e => ⟨o, k b o (fun z => hc (by simp [z])) e⟩) (fun _ _ e => e) (fun _ _ _ e => e) (fun b ps e => ⟨#[], by rw [e]; simp⟩) (fun m hm => ?_) (fun b u e => ?_) I.bare
  · have e : b = it := by simpa using hb
    subst e
    exact ⟨h1, hL, h2, h3⟩
  · obtain ⟨o, es, ep, ho, r⟩ := hm
    exact ⟨o, es, ep, k _ o (Ne.symm hL) ho, r⟩
  · refine (I.hok b u e).stay (fun c v hc q => k c v ?_ q) (fun _ q => q) fun _ _ q => q
    rcases hc with z | z
    · rw [z]; exact nit b u e
    · exact nit c _ z
theorem Inv.tok (I : Inv X pins σ H s) (t : Nat) : Inv X pins σ H { s with toks := t } := I.un (h' := s.heap) (t' := t) Un.refl I.hok
/-- all objects kept -/
theorem Inv.kept {t' : Nat} (I : Inv X pins σ H s) (k : ∀ b u, s.heap.get? b = some u → h'.get? b = some u) : Inv X pins σ H { s with heap := h', toks := t' } := I.un (Un.kept k) (I.hok.kept k)
/-- a new object laid and tracked -/
theorem Inv.laid {a : Addr} {o : HO} {t' : Nat} (I : Inv X pins σ H s) (k : ∀ b u, s.heap.get? b = some u → h'.get? b = some u) (hp : s.heap.objs.size ≤ a) (new : ObjOk X.prog X.w (upd H a o) h' a o) :
    Inv X pins σ (upd H a o) { s with heap := h', toks := t' } := I.un (Un.laid k hp (I.hok.fresh hp)) (I.hok.laid k hp new)
/-- an object written -/
theorem Inv.write {x e : Addr} {o : HO} {t' : Nat} (I : Inv X pins σ H s) (mu : Mut (H x)) (he : e = x ∨ H e = some (.own x)) (k : ∀ b u, b ≠ e → s.heap.get? b = some u → h'.get? b = some u) (heo : ∃ u, h'.get? e = some u)
    (new : ObjOk X.prog X.w (upd H x o) h' x o) : Inv X pins σ (upd H x o) { s with heap := h', toks := t' } := I.un (Un.write mu he k heo) (I.hok.write mu he k heo new)
/-- forgetting slots, pins -/
theorem Inv.weak {σ' : List (Option V)} (I : Inv X pins σ H s) (hl : σ'.length = σ.length) (w : ∀ (i : Nat) v, σ'[i]? = some (some v) → σ[i]? = some (some v)) : Inv X pins σ' H s :=
  ⟨I.ok, I.os, I.bare, I.base, let ⟨m, hn, hl'⟩ := I.loc; ⟨m, hn, fun i x v e1 e2 e3 => hl' i x v e1 (w i v e2) e3⟩, I.cell, I.free, I.freeC, I.pin, I.hok, hl.trans I.len⟩
theorem Inv.pins_of {pins' : List (Addr × Obj)} (I : Inv X pins σ H s) (h : ∀ p ∈ pins', s.heap.get? p.1 = some p.2 ∧ H p.1 = none ∧ p.1 ≠ X.env.locals ∧ p.1 ∉ X.fs ∧ ∀ v, p.2.data ≠ .cell v) : Inv X pins' σ H s :=
  ⟨I.ok, I.os, I.bare, I.base, I.loc, I.cell, I.free, I.freeC, fun p hp => (List.mem_append.mp hp).elim (fun z => I.pin p (List.mem_append_left _ z)) (h p), I.hok, I.len⟩
theorem nodup_ix {N : List Str} (hN : N.Nodup) {i j : Nat} {x : Str} (a : N[i]? = some x) (b : N[j]? = some x) : i = j := by
  obtain ⟨h1, e1⟩ := List.getElem?_eq_some_iff.mp a
  obtain ⟨h2, e2⟩ := List.getElem?_eq_some_iff.mp b
  exact (List.getElem_inj hN).mp (e1.trans e2.symm)
/-- a name is stored; what changed -/
theorem store_ok2 {M : Model} {A : Around} {E : Value → Shared → Prop} {i : Nat} {x : Str} {v : V} {u : Value} {Q : Unit → Shared → Prop} (I : Inv X pins σ H s) (hN : X.N.Nodup) (hi : X.N[i]? = some x) (hx : Loc X.env.scope x) (r : RelV v u)
    (h : ∀ s', Inv X pins (σ.set i (some v)) H s' → (∃ a, Heap.SameBut a s.heap s'.heap ∧ (a = X.env.locals ∨ X.env.cells.lookup x = some a)) → Q () s') (hf : X.fn x = true ∨ X.env.scope.names.lookup x = some .local := by first | exact .inl rfl | exact .inr rfl | assumption) : wpAny M A (storeName X.env x u) Q E s := by
  obtain ⟨m, hn, hl⟩ := id I.loc
  have hcls : (X.env.scope.kind == .class || (X.env.scope.kind == .module && X.env.locals != X.env.globals)) = false := by rw [I.ok.kind]; rfl
  have hiσ : i < σ.length := by rw [I.len]; exact (List.getElem?_eq_some_iff.mp hi).1
  have cne := I.cne
  have tracked : ∀ {a : Addr} {h' : Heap}, (∃ o, s.heap.get? a = some o ∧ H a = none) → Heap.SameBut a s.heap h' → HOk X.prog X.w H h' := fun {a h'} ha hs b ob e => by
    obtain ⟨_, _, hfree⟩ := ha
    refine (I.hok b ob e).stay (fun c w' hc q => (hs.2 c ?_).trans q) (fun _ q => q) fun _ _ q => q
    rintro rfl
    rcases hc with rfl | hc
    · rw [hfree] at e; cases e
    · rw [hfree] at hc; cases hc
  rcases hx with hk | hk
  · refine wpAny_storeName_local hk hn (fun h' hn' hs => ?_) hcls
    obtain ⟨oL, _, _, hoL, _⟩ := id hn
    refine h _ ⟨I.ok, I.os, I.bare, ⟨fun b o e n hb hx => ?_, fun b o e n hb hx => ?_, I.base.free, fun b o e hx => ?_, I.base.tups, I.base.frzs, I.base.tbls⟩, ⟨_, hn', fun j y v' e1 e2 e3 => ?_⟩, fun y c e => ?_, I.free, I.freeC, fun p hp => ?_, tracked ⟨oL, hoL, I.free⟩ hs, by simpa using I.len⟩ ⟨_, hs, .inl rfl⟩
    · exact (hs.2 b (Nat.ne_of_lt (Nat.lt_of_lt_of_le (Heap.lt_size e) I.ok.above))).trans (I.base.keep b o e n hb hx)
    · obtain ⟨sl, e1⟩ := I.base.slot b o e n hb hx
      exact ⟨sl, (hs.2 b (Nat.ne_of_lt (Nat.lt_of_lt_of_le (Heap.lt_size e) I.ok.above))).trans e1⟩
    · obtain ⟨o', e1⟩ := I.base.there b o e hx
      exact ⟨o', (hs.2 b (Nat.ne_of_lt (Nat.lt_of_lt_of_le (Heap.lt_size e) I.ok.above))).trans e1⟩
    · by_cases hj : j = i
      · subst hj
        rw [hi] at e1; cases e1
        rw [List.getElem?_set_self hiσ] at e2
        cases e2
        exact ⟨u, r, .inl ⟨hk, by simp⟩⟩
      · rw [List.getElem?_set_ne (Ne.symm hj)] at e2
        obtain ⟨u', r', q⟩ := hl j y v' e1 e2 e3
        refine ⟨u', r', ?_⟩
        rcases q with ⟨k, e⟩ | ⟨k, c, e, z⟩
        · refine .inl ⟨k, ?_⟩
          have : y ≠ x := fun e => hj (nodup_ix hN e1 (e ▸ hi))
          simp [this, e]
        · exact .inr ⟨k, c, e, z.sameBut hs (cne y c e)⟩
    · obtain ⟨w', z⟩ := I.cell y c e
      exact ⟨w', z.sameBut hs (cne y c e)⟩
    · obtain ⟨e, n, ne, nf, d⟩ := I.pin p hp
      exact ⟨(hs.2 p.1 ne).trans e, n, ne, nf, d⟩
  · have hfn : X.fn x = true := by
      rcases hf with z | z
      · exact z
      · rw [z] at hk; cases hk
    obtain ⟨c, hc⟩ := I.ok.has x (.inl hk)
    obtain ⟨w', z⟩ := I.cell x c hc
    refine wpAny_storeName_cell I.ok.kind hk hc z (fun h' hc' hs => ?_)
    obtain ⟨oc, hoc, hocd⟩ := id z
    refine h { s with heap := h' } ⟨I.ok, I.os, I.bare, ⟨fun b o e n hb hx => ?_, fun b o e n hb hx => ?_, I.base.free, fun b o e hx => ?_, I.base.tups, I.base.frzs, I.base.tbls⟩, ⟨m, hn.sameBut hs (Ne.symm (cne x c hc)), fun j y v' e1 e2 e3 => ?_⟩, fun y c' e => ?_, I.free, I.freeC, fun p hp => ?_, tracked ⟨oc, hoc, I.freeC x c hc⟩ hs, by simpa using I.len⟩ ⟨c, hs, .inr hc⟩
    · exact (hs.2 b (Nat.ne_of_lt (Nat.lt_of_lt_of_le (Heap.lt_size e) (I.ok.cab x c hfn hc)))).trans (I.base.keep b o e n hb hx)
    · obtain ⟨sl, e1⟩ := I.base.slot b o e n hb hx
      exact ⟨sl, (hs.2 b (Nat.ne_of_lt (Nat.lt_of_lt_of_le (Heap.lt_size e) (I.ok.cab x c hfn hc)))).trans e1⟩
    · obtain ⟨o', e1⟩ := I.base.there b o e hx
      exact ⟨o', (hs.2 b (Nat.ne_of_lt (Nat.lt_of_lt_of_le (Heap.lt_size e) (I.ok.cab x c hfn hc)))).trans e1⟩
    · by_cases hj : j = i
      · subst hj
        rw [hi] at e1; cases e1
        rw [List.getElem?_set_self hiσ] at e2
        cases e2
        exact ⟨u, r, .inr ⟨.inl hk, c, hc, hc'⟩⟩
      · rw [List.getElem?_set_ne (Ne.symm hj)] at e2
        obtain ⟨u', r', q⟩ := hl j y v' e1 e2 e3
        refine ⟨u', r', ?_⟩
        rcases q with q | ⟨k, c', e, z'⟩
        · exact .inl q
        · refine .inr ⟨k, c', e, z'.sameBut hs ?_⟩
          rintro rfl
          exact hj (nodup_ix hN e1 (I.ok.inj _ _ _ e hc ▸ hi))
    · by_cases hcc : c' = c
      · subst hcc; exact ⟨_, hc'⟩
      · obtain ⟨w2, z2⟩ := I.cell y c' e
        exact ⟨w2, z2.sameBut hs hcc⟩
    · obtain ⟨e, n, ne, nf, d⟩ := I.pin p hp
      refine ⟨(hs.2 p.1 ?_).trans e, n, ne, nf, d⟩
      intro q
      rw [q, hoc] at e
      have q' : oc = p.2 := Option.some.inj e
      exact d w' (by rw [← q']; exact hocd)
theorem store_ok {M : Model} {A : Around} {E : Value → Shared → Prop} {i : Nat} {x : Str} {v : V} {u : Value} {Q : Unit → Shared → Prop} (I : Inv X pins σ H s) (hN : X.N.Nodup) (hi : X.N[i]? = some x) (hx : Loc X.env.scope x) (r : RelV v u)
    (h : ∀ s', Inv X pins (σ.set i (some v)) H s' → Q () s') (hf : X.fn x = true ∨ X.env.scope.names.lookup x = some .local := by first | exact .inl rfl | exact .inr rfl | assumption) : wpAny M A (storeName X.env x u) Q E s :=
  store_ok2 I hN hi hx r (fun s' I' _ => h s' I') hf
/-- behind a call or a block, the state as it is -/
theorem Inv.call' {s' : Shared} {ch : List Addr} (I : Inv X pins σ H s) (ho : s'.os = s.os) (u : Un (frs X.stack) ch H H' s.heap s'.heap) (hok : HOk X.prog X.w H' s'.heap) (hg : AllBare s'.gens)
    (hch : ∀ b ∈ ch, (b ∈ X.ex ∨ X.s₀.heap.objs.size ≤ b) ∧ b ≠ X.env.locals ∧ (∀ x c, X.env.cells.lookup x = some c → c ≠ b) ∧ ∀ p ∈ X.pn ++ pins, p.1 ≠ b) : Inv X pins σ H' s' := by
  obtain ⟨h', g', d', t', o'⟩ := s'
  have e : o' = s.os := ho
  subst e
  exact I.call (g' := g') (t' := t') (d' := d') u hok hg hch
end
/-- an exception: its class, its own dict's address (where it has one), the abstract heap behind it -/
noncomputable abbrev XK := Value → Option Addr → Hp → Prop
noncomputable abbrev St := List (Option V)
noncomputable abbrev VK := V → Hp → Prop
/-- an expression's reading; a test's; an argument list's -/
noncomputable abbrev TE := St → Hp → VK → Prop
noncomputable abbrev TT := St → Hp → (Bool → Hp → Prop) → Prop
noncomputable abbrev TA := St → Hp → (List V → Hp → Prop) → Prop
/-- what is wanted behind a statement -/
structure Ends where
  nx : St → Hp → Prop
  rt : VK
  bk : St → Hp → Prop := fun _ _ => False
  ct : St → Hp → Prop := fun _ _ => False
noncomputable abbrev TS := Ends → St → Hp → Prop
noncomputable def EP (X : Cx) (pins : List (Addr × Obj)) (σ : St) (Q : VK) (u : Value) (s' : Shared) : Prop := ∃ v H', Inv X pins σ H' s' ∧ RelV v u ∧ Q v H'
noncomputable def TP (X : Cx) (pins : List (Addr × Obj)) (σ : St) (Q : Bool → Hp → Prop) (b : Bool) (s' : Shared) : Prop := ∃ H', Inv X pins σ H' s' ∧ Q b H'
noncomputable def AP (X : Cx) (pins : List (Addr × Obj)) (σ : St) (Q : List V → Hp → Prop) (us : List Value) (s' : Shared) : Prop := ∃ vs H', Inv X pins σ H' s' ∧ Vals vs us ∧ Q vs H'
noncomputable def SP (X : Cx) (pins : List (Addr × Obj)) (D : Ends) (f : Flow) (s' : Shared) : Prop :=
  match f with
  | .next => ∃ σ' H', Inv X pins σ' H' s' ∧ D.nx σ' H'
  | .brk => ∃ σ' H', Inv X pins σ' H' s' ∧ D.bk σ' H'
  | .cont => ∃ σ' H', Inv X pins σ' H' s' ∧ D.ct σ' H'
  | .ret u => ∃ v σ' H', Inv X pins σ' H' s' ∧ RelV v u ∧ D.rt v H'
noncomputable def PE (X : Cx) (e : Expr) (t : TE) : Prop :=
  ∀ (pins : List (Addr × Obj)) (s : Shared) (σ : St) (H : Hp) (Q : VK), Inv X pins σ H s → t σ H Q → wpAny (model X.prog X.w) X.A (eval e X.env) (EP X pins σ Q) X.xe s
noncomputable def PT (X : Cx) (e : Expr) (t : TT) : Prop :=
  ∀ (pins : List (Addr × Obj)) (s : Shared) (σ : St) (H : Hp) (Q : Bool → Hp → Prop), Inv X pins σ H s → t σ H Q → wpAny (model X.prog X.w) X.A (isTrue e X.env (eval e X.env)) (TP X pins σ Q) X.xe s
/-- a test whatever its 'whole' is (and, or) -/
noncomputable def PW (X : Cx) (e : Expr) (t : TT) : Prop :=
  ∀ (whole : Sem Value) (pins : List (Addr × Obj)) (s : Shared) (σ : St) (H : Hp) (Q : Bool → Hp → Prop), Inv X pins σ H s → t σ H Q → wpAny (model X.prog X.w) X.A (isTrue e X.env whole) (TP X pins σ Q) X.xe s
theorem PW.pt {X : Cx} {e : Expr} {t : TT} (h : PW X e t) : PT X e t := h _
/-- an argument list (no star), from the left -/
noncomputable def PA (X : Cx) (es : List Expr) (t : TA) : Prop :=
  ∀ (pos : Pos) (pins : List (Addr × Obj)) (s : Shared) (σ : St) (H : Hp) (Q : List V → Hp → Prop), Inv X pins σ H s → t σ H Q → wpAny (model X.prog X.w) X.A (spliced (backTo pos (starEach es X.env))) (AP X pins σ Q) X.xe s
noncomputable def PS (X : Cx) (st : Stmt) (t : TS) : Prop :=
  ∀ (pins : List (Addr × Obj)) (s : Shared) (σ : St) (H : Hp) (D : Ends), Inv X pins σ H s → t D σ H → wpAny (model X.prog X.w) X.A (exec st X.env) (SP X pins D) X.xe s
noncomputable def PSs (X : Cx) (st : List Stmt) (t : TS) : Prop :=
  ∀ (pins : List (Addr × Obj)) (s : Shared) (σ : St) (H : Hp) (D : Ends), Inv X pins σ H s → t D σ H → wpAny (model X.prog X.w) X.A (execs st X.env) (SP X pins D) X.xe s
/-- weaken the end -/
theorem thn {α : Type} {t : Sem α} {Q Q' : α → Shared → Prop} {M : Model} {A : Around} {E : Value → Shared → Prop} {s : Shared} (h : wpAny M A t Q E s) (hQ : ∀ a s, Q a s → Q' a s) : wpAny M A t Q' E s := wpAny_mono h hQ fun _ _ x => x
end L2
namespace L2
open PySem PySem.Spec PyProof.Rows
section
variable {X : Cx}
noncomputable def tVar (i : Nat) : TE := fun σ H Q => ∃ v, σ[i]? = some (some v) ∧ Q v H
noncomputable def tC (v : V) : TE := fun _ H Q => Q v H
theorem pe_var {i : Nat} {x : Str} {pos : Pos} (hN : X.N[i]? = some x) (hv : Vis X.env.scope x) (hd : (x == ("__debug__" : Str)) = false := by decide) (hcd : (x == ("__classdict__" : Str)) = false := by decide) : PE X (.Name x pos) (tVar i) := by
  intro pins s σ H Q I h
  obtain ⟨v, e, h⟩ := h
  obtain ⟨m, hn, hl⟩ := I.loc
  obtain ⟨u, r, l⟩ := hl i x v hN e hv
  have fin : EP X pins σ Q u s := ⟨v, H, I, r, h⟩
  rcases l with ⟨hk, hm⟩ | ⟨hk, c, hc, hcell⟩
  · exact wpAny_Name (wpAny_loadName_local I.ok.kind hk hn hm fin) hd
  · rcases hk with hk | hk
    · exact wpAny_Name (wpAny_loadName_cell I.ok.kind hk hc hcell fin) hd
    · exact wpAny_Name (wpAny_loadName_free I.ok.kind hk hc hcell fin hcd) hd
theorem pe_int {i j pos} : PE X (.Constant (.int i) j pos) (tC (.int i)) := fun _ _ _ H _ I h => wpAny_Constant_int ⟨.int i, H, I.tok _, ⟨_, rfl⟩, h⟩
theorem pe_bl {b j pos} : PE X (.Constant (.bool b) j pos) (tC (.bl b)) := fun _ _ _ H _ I h => Constant_bool ⟨.bl b, H, I, rfl, h⟩
theorem pe_non {j pos} : PE X (.Constant .none j pos) (tC .non) := fun _ _ _ H _ I h => Constant_none ⟨.non, H, I, rfl, h⟩
theorem pe_str {x j pos} : PE X (.Constant (.str x) j pos) (tC (.str x)) := fun _ _ _ H _ I h => Calls.Constant_str ⟨.str x, H, I.tok _, ⟨_, rfl⟩, h⟩
/-- a global name of the def -/
noncomputable def Gl (X : Cx) (x : Str) : Prop := X.env.kindOf x = some .globalImplicit
theorem ld_glob {E : Value → Shared → Prop} {pins : List (Addr × Obj)} {s : Shared} {σ : St} {H : Hp} {x : Str} {u : Value} {pos : Pos} {Q : Value → Shared → Prop} (I : Inv X pins σ H s) (hg : Gl X x) (hm : X.mg x = some u) (h : Q u s)
    (hd : (x == ("__debug__" : Str)) = false := by decide) : wpAny (model X.prog X.w) X.A (eval (.Name x pos) X.env) Q E s :=
  Calls.Name_function_global I.ok.kind hg (Calls.loadGlobal_global (by rw [I.ok.glob]; exact I.mod.glob.keeps I.bk) hm h) hd
theorem ld_blt {E : Value → Shared → Prop} {pins : List (Addr × Obj)} {s : Shared} {σ : St} {H : Hp} {x : Str} {u : Value} {pos : Pos} {Q : Value → Shared → Prop} (I : Inv X pins σ H s) (hg : Gl X x) (hm : X.mg x = none) (hv : bootBuiltins x = some u) (h : Q u s)
    (hn : x ≠ "__name__" := by decide) (hd : (x == ("__debug__" : Str)) = false := by decide) : wpAny (model X.prog X.w) X.A (eval (.Name x pos) X.env) Q E s := by
  obtain ⟨mb, h1, h2⟩ := I.mod.blt
  exact Calls.Name_function_global I.ok.kind hg (Calls.loadGlobal_builtin (by rw [I.ok.glob]; exact I.mod.glob.keeps I.bk) hm (by rw [I.ok.blt]; exact h1.keeps I.bk) ((h2 x hn).trans hv) h) hd
/-- a module's constant, a class, a function, as a value -/
theorem pe_glob {x : Str} {v : V} {u : Value} {pos : Pos} (hg : Gl X x) (hm : X.mg x = some u) (r : RelV v u) (hd : (x == ("__debug__" : Str)) = false := by decide) : PE X (.Name x pos) (tC v) :=
  fun _ _ _ H _ I h => ld_glob I hg hm ⟨v, H, I, r, h⟩ hd
theorem pe_bltn {x : Str} {v : V} {u : Value} {pos : Pos} (hg : Gl X x) (hm : X.mg x = none) (hv : bootBuiltins x = some u) (r : RelV v u) (hn : x ≠ "__name__" := by decide) (hd : (x == ("__debug__" : Str)) = false := by decide) : PE X (.Name x pos) (tC v) :=
  fun _ _ _ H _ I h => ld_blt I hg hm hv ⟨v, H, I, r, h⟩ hn hd
variable {a b : Expr} {ta tb : TE} {pos : Pos}
/-- a comparison as a value, as a test -/
noncomputable def tB (t : TE) : TT := fun σ H Q => t σ H fun x H1 => ∃ c, x = .bl c ∧ Q c H1
/-- an expression whose value is a bool, as a test -/
theorem pt_val {e : Expr} {t : TE} (h : PE X e t) (he : ∀ whole, isTrue e X.env whole = (do let v ← whole; standAt e.pos; holding [v] (truthy v)) := by intro _; rfl) : PT X e (tB t) := by
  intro pins s σ H Q I hw
  refine isTrue_plain (thn (h pins s σ H _ I hw) fun v s1 ⟨x, H1, I1, r1, q1⟩ => ?_) (he _)
  obtain ⟨d, rfl, q⟩ := q1
  cases r1
  exact wpAny_truthy_bool ⟨H1, I1, q⟩
variable {tA tB' : TT} {rest : List Expr}
noncomputable def tAnd (t u : TT) : TT := fun σ H Q => t σ H fun c H1 => if c = true then u σ H1 Q else Q false H1
noncomputable def tOr (t u : TT) : TT := fun σ H Q => t σ H fun c H1 => if c = true then Q true H1 else u σ H1 Q
noncomputable def tNot (t : TT) : TT := fun σ H Q => t σ H fun c H1 => Q (!c) H1
theorem pw_and1 (ha : PT X a tA) : PW X (.BoolOp .And [a] pos) tA := by
  intro wh pins s σ H Q I h
  refine isTrue_and (thn (ha pins s σ H Q I h) fun c s1 e => ?_)
  cases c with
  | true => exact isTrue_and_nil e
  | false => exact e
theorem pw_or1 (ha : PT X a tA) : PW X (.BoolOp .Or [a] pos) tA := by
  intro wh pins s σ H Q I h
  refine isTrue_or (thn (ha pins s σ H Q I h) fun c s1 e => ?_)
  cases c with
  | false => exact isTrue_or_nil e
  | true => exact e
theorem pw_and (ha : PT X a tA) (hb : PW X (.BoolOp .And (b :: rest) pos) tB') : PW X (.BoolOp .And (a :: b :: rest) pos) (tAnd tA tB') := by
  intro wh pins s σ H Q I h
  refine isTrue_and (thn (ha pins s σ H _ I h) fun c s1 ⟨H1, I1, q1⟩ => ?_)
  cases c with
  | true => exact hb wh pins s1 σ H1 Q I1 q1
  | false => exact ⟨H1, I1, q1⟩
theorem pw_or (ha : PT X a tA) (hb : PW X (.BoolOp .Or (b :: rest) pos) tB') : PW X (.BoolOp .Or (a :: b :: rest) pos) (tOr tA tB') := by
  intro wh pins s σ H Q I h
  refine isTrue_or (thn (ha pins s σ H _ I h) fun c s1 ⟨H1, I1, q1⟩ => ?_)
  cases c with
  | true => exact ⟨H1, I1, q1⟩
  | false => exact hb wh pins s1 σ H1 Q I1 q1
theorem pt_not (ha : PT X a tA) : PT X (.UnaryOp .Not a pos) (tNot tA) := by
  intro pins s σ H Q I h
  exact isTrue_not (ha pins s σ H (fun c H1 => Q (!c) H1) I h)
/-- .. as values (bools) -/
noncomputable def tAndV (ta tb : TE) : TE := fun σ H Q => ta σ H fun x H1 => ∃ c, x = .bl c ∧ if c = true then tb σ H1 Q else Q (.bl false) H1
noncomputable def tOrV (ta tb : TE) : TE := fun σ H Q => ta σ H fun x H1 => ∃ c, x = .bl c ∧ if c = true then Q (.bl true) H1 else tb σ H1 Q
noncomputable def tNotV (ta : TE) : TE := fun σ H Q => ta σ H fun x H1 => ∃ c, x = .bl c ∧ Q (.bl (!c)) H1
theorem pe_one {op} {t : TE} (h : PE X a t) : PE X (.BoolOp op [a] pos) t := fun pins s σ H Q I hw => BoolOp_one (h pins s σ H Q I hw)
theorem pe_and (ha : PE X a ta) (hb : PE X (.BoolOp .And (b :: rest) pos) tb) : PE X (.BoolOp .And (a :: b :: rest) pos) (tAndV ta tb) := by
  intro pins s σ H Q I h
  refine BoolOp_and (thn (ha pins s σ H _ I h) fun v s1 ⟨x, H1, I1, r1, q1⟩ => ?_)
  obtain ⟨c, rfl, q1⟩ := q1
  cases r1
  refine wpAny_truthy_bool ?_
  cases c with
  | true => exact hb pins s1 σ H1 Q I1 q1
  | false => exact ⟨.bl false, H1, I1, rfl, q1⟩
theorem pe_or (ha : PE X a ta) (hb : PE X (.BoolOp .Or (b :: rest) pos) tb) : PE X (.BoolOp .Or (a :: b :: rest) pos) (tOrV ta tb) := by
  intro pins s σ H Q I h
  refine BoolOp_or (thn (ha pins s σ H _ I h) fun v s1 ⟨x, H1, I1, r1, q1⟩ => ?_)
  obtain ⟨c, rfl, q1⟩ := q1
  cases r1
  refine wpAny_truthy_bool ?_
  cases c with
  | false => exact hb pins s1 σ H1 Q I1 q1
  | true => exact ⟨.bl true, H1, I1, rfl, q1⟩
theorem pe_not (ha : PE X a ta) : PE X (.UnaryOp .Not a pos) (tNotV ta) := by
  intro pins s σ H Q I h
  refine UnaryOp_ (thn (ha pins s σ H _ I h) fun v s1 ⟨x, H1, I1, r1, q1⟩ => ?_)
  obtain ⟨c, rfl, q1⟩ := q1
  cases r1
  exact not_of (wpAny_truthy_bool ⟨.bl (!c), H1, I1, rfl, q1⟩)
/-- a if t else b -/
noncomputable def tIf (t : TT) (ta tb : TE) : TE := fun σ H Q => t σ H fun c H1 => if c = true then ta σ H1 Q else tb σ H1 Q
theorem pe_ifExp {c : Expr} (hc : PT X c tA) (ha : PE X a ta) (hb : PE X b tb) : PE X (.IfExp c a b pos) (tIf tA ta tb) := by
  intro pins s σ H Q I h
  refine wpAny_IfExp (thn (hc pins s σ H _ I h) fun d s1 ⟨H1, I1, q1⟩ => ?_)
  cases d with
  | true => exact ha pins s1 σ H1 Q I1 q1
  | false => exact hb pins s1 σ H1 Q I1 q1
end
end L2
namespace L2
open PySem PySem.Spec PyProof.Rows
noncomputable def SqL (K : PySem.W.Frag) (H : Hp) (a : Addr) (xs : List V) : Prop :=
  Rd H a (.lst xs) ∨
    ∃ (o : Obj) (its : Array Value) (n : Nat), K.lookup a = some o ∧ o.cls = .type "list" ∧ o.dict = none ∧ o.data = .seq its n ∧ its.size ≤ sizeLine ∧ Vals xs its.toList
noncomputable def SqT (K : PySem.W.Frag) (H : Hp) (a : Addr) (xs : List V) : Prop :=
  Rd H a (.tup xs) ∨
    ∃ (o : Obj) (its : Array Value) (n : Nat), K.lookup a = some o ∧ o.cls = .type "tuple" ∧ o.data = .seq its n ∧ its.size ≤ sizeLine ∧ Vals xs its.toList
noncomputable def absV : Value → Option V
  | .none => some .non
  | .bool b => some (.bl b)
  | .int i _ => some (.int i)
  | .str x _ => some (.str x)
  | .bytes b _ => some (.byt b)
  | .float b _ => some (.flt b)
  | .ref a => some (.ref a)
  | .type n => some (.ty n)
  | _ => none
theorem RelV.abs {x : V} {u : Value} (r : RelV x u) : absV u = some x := by
  cases x with
  | non => cases r; rfl
  | bl _ => cases r; rfl
  | int _ => obtain ⟨t, rfl⟩ := r; rfl
  | str _ => obtain ⟨t, rfl⟩ := r; rfl
  | byt _ => obtain ⟨t, rfl⟩ := r; rfl
  | flt _ => obtain ⟨t, rfl⟩ := r; rfl
  | ref _ => cases r; rfl
  | ty _ => cases r; rfl
theorem RelV.inj {x y : V} {u : Value} (r : RelV x u) (q : RelV y u) : x = y := Option.some.inj (r.abs.symm.trans q.abs)
theorem Vals.inj : ∀ {xs ys : List V} {us : List Value}, Vals xs us → Vals ys us → xs = ys
  | _, _, _, .nil, .nil => rfl
  | _, _, _, .cons r t, .cons r' t' => by rw [r.inj r', Vals.inj t t']
section
variable {X : Cx} {pins : List (Addr × Obj)} {σ : St} {H : Hp} {s : Shared} {a : Addr} {xs ys : List V}
theorem SqL.of {K : PySem.W.Frag} (h : H a = some (.lst xs)) : SqL K H a xs := .inl (.inl h)
theorem SqT.of {K : PySem.W.Frag} (h : H a = some (.tup xs)) : SqT K H a xs := .inl (.inl h)
theorem Inv.list (I : Inv X pins σ H s) (h : SqL X.K H a xs) : ∃ its : List Value, Vals xs its ∧ PlainL s.heap a its.toArray ∧ xs.length ≤ sizeLine := by
  rcases h with h | ⟨o, its, n, hk, hc, hd, hs, hz, r⟩
  · obtain ⟨z, its, n, r, e⟩ := h.ok I.hok
    exact ⟨its, r, ⟨_, n, e, rfl, rfl, rfl⟩, z⟩
  · refine ⟨its.toList, r, ⟨o, n, I.kIn a o hk, hc, hd, by simpa using hs⟩, ?_⟩
    have e := r.length
    simp only [Array.length_toList] at e
    omega
theorem Inv.tuple (I : Inv X pins σ H s) (h : SqT X.K H a xs) : ∃ its : List Value, Vals xs its ∧ IsTup s.heap a its.toArray ∧ xs.length ≤ sizeLine := by
  rcases h with h | ⟨o, its, n, hk, hc, hs, hz, r⟩
  · obtain ⟨z, its, r, p⟩ := h.ok I.hok
    exact ⟨its, r, p, z⟩
  · refine ⟨its.toList, r, ⟨o, I.kIn a o hk, hc, n, by simpa using hs⟩, ?_⟩
    have e := r.length
    simp only [Array.length_toList] at e
    omega
theorem Inv.list_inj (I : Inv X pins σ H s) (h : SqL X.K H a xs) (h' : SqL X.K H a ys) : xs = ys := by
  obtain ⟨its, r, ⟨o, n, e, _, _, d⟩, _⟩ := I.list h
  obtain ⟨its', r', ⟨o', n', e', _, _, d'⟩, _⟩ := I.list h'
  rw [e] at e'; cases e'
  rw [d] at d'
  injection d' with d1 _
  have : its = its' := by simpa using congrArg Array.toList d1
  subst this
  exact r.inj r'
theorem Inv.tuple_inj (I : Inv X pins σ H s) (h : SqT X.K H a xs) (h' : SqT X.K H a ys) : xs = ys := by
  obtain ⟨its, r, ⟨o, e, _, n, d⟩, _⟩ := I.tuple h
  obtain ⟨its', r', ⟨o', e', _, n', d'⟩, _⟩ := I.tuple h'
  rw [e] at e'; cases e'
  rw [d] at d'
  injection d' with d1 _
  have : its = its' := by simpa using congrArg Array.toList d1
  subst this
  exact r.inj r'
end
noncomputable abbrev Cx.wish (X : Cx) (E : Value → Shared → Prop) : Cx := { X with xe := E }
theorem Cx.Ok.wish {X : Cx} (ok : X.Ok) (E : Value → Shared → Prop) : (X.wish E).Ok :=
  ⟨ok.mod, ok.kind, ok.glob, ok.blt, ok.above, ok.inj, ok.has, ok.cab, ok.hd, ok.frames, ok.stk, ok.exf, ok.bs, ok.bsz, ok.noex, ok.exfs, ok.funs, ok.frf⟩
theorem Cx.Ok.unwish {X : Cx} {E : Value → Shared → Prop} (ok : (X.wish E).Ok) : X.Ok :=
  ⟨ok.mod, ok.kind, ok.glob, ok.blt, ok.above, ok.inj, ok.has, ok.cab, ok.hd, ok.frames, ok.stk, ok.exf, ok.bs, ok.bsz, ok.noex, ok.exfs, ok.funs, ok.frf⟩
section
variable {X : Cx} {pins : List (Addr × Obj)} {σ : St} {H : Hp} {s : Shared} {E : Value → Shared → Prop}
theorem Inv.wish (I : Inv X pins σ H s) (E : Value → Shared → Prop) : Inv (X.wish E) pins σ H s := ⟨I.ok.wish E, I.os, I.bare, I.base, I.loc, I.cell, I.free, I.freeC, I.pin, I.hok, I.len⟩
theorem Inv.unwish (I : Inv (X.wish E) pins σ H s) : Inv X pins σ H s := ⟨I.ok.unwish, I.os, I.bare, I.base, I.loc, I.cell, I.free, I.freeC, I.pin, I.hok, I.len⟩
theorem SP.unwish {D : Ends} {f : Flow} {s' : Shared} (h : SP (X.wish E) pins D f s') : SP X pins D f s' := by
  cases f with
  | next => obtain ⟨σ', H', I, q⟩ := h; exact ⟨σ', H', I.unwish, q⟩
  | brk => obtain ⟨σ', H', I, q⟩ := h; exact ⟨σ', H', I.unwish, q⟩
  | cont => obtain ⟨σ', H', I, q⟩ := h; exact ⟨σ', H', I.unwish, q⟩
  | ret u => obtain ⟨v, σ', H', I, r, q⟩ := h; exact ⟨v, σ', H', I.unwish, r, q⟩
end
section
variable {X : Cx} {st : Stmt} {rest : List Stmt} {t u : TS} {e : Expr} {te : TE} {pos : Pos}
noncomputable def tNext : TS := fun D σ H => D.nx σ H
noncomputable def tSeq (t u : TS) : TS := fun D σ H => t { D with nx := u D } σ H
theorem pss_nil : PSs X [] tNext := fun _ _ σ H _ I h => wpAny_execs_nil ⟨σ, H, I, h⟩
theorem pss_cons (h1 : PS X st t) (h2 : PSs X rest u) : PSs X (st :: rest) (tSeq t u) := by
  intro pins s σ H D I h
  refine wpAny_execs_cons (thn (h1 pins s σ H { D with nx := u D } I h) fun f s1 q => ?_)
  cases f with
  | next =>
    obtain ⟨σ', H', I', q⟩ := q
    exact h2 pins s1 σ' H' D I' q
  | ret v => exact q
  | brk => exact q
  | cont => exact q
theorem ps_pass : PS X (.Pass pos) tNext := fun _ _ σ H _ I h => wpAny_Pass ⟨σ, H, I, h⟩
/-- in a def's body nothing is shown -/
theorem Inv.quiet {pins : List (Addr × Obj)} {σ : St} {H : Hp} {s : Shared} (I : Inv X pins σ H s) : interactive X.env = false := by simp [interactive, I.ok.kind]
/-- an expression whose value is dropped -/
noncomputable def tDrop (te : TE) : TS := fun D σ H => te σ H fun _ H1 => D.nx σ H1
theorem ps_expr (he : PE X e te) (hs : swapsWith e none pos.line X.env = pure false := by rfl) : PS X (.Expr e pos) (tDrop te) := by
  intro pins s σ H D I h
  exact wpAny_Expr_any (thn (he pins s σ H _ I h) fun v s1 ⟨x, H1, I1, r1, q1⟩ => ⟨σ, H1, I1, q1⟩) I.quiet hs
noncomputable def tRet (te : TE) : TS := fun D σ H => te σ H D.rt
theorem ps_ret (he : PE X e te) : PS X (.Return (some e) pos) (tRet te) := by
  intro pins s σ H D I h
  exact wpAny_Return_some (thn (he pins s σ H _ I h) fun v s1 ⟨x, H1, I1, r1, q1⟩ => ⟨x, σ, H1, I1, r1, q1⟩)
noncomputable def tIfS (c : TT) (t u : TS) : TS := fun D σ H => c σ H fun b H1 => if b = true then t D σ H1 else u D σ H1
theorem ps_if {c : Expr} {a b : List Stmt} {tc : TT} (hc : PT X c tc) (ha : PSs X a t) (hb : PSs X b u) : PS X (.If c a b pos) (tIfS tc t u) := by
  intro pins s σ H D I h
  refine wpAny_If (thn (hc pins s σ H _ I h) fun d s1 ⟨H1, I1, q1⟩ => ?_)
  cases d with
  | true => exact ha pins s1 σ H1 D I1 q1
  | false => exact hb pins s1 σ H1 D I1 q1
end
noncomputable abbrev TG := V → St → Hp → (St → Hp → Prop) → Prop
noncomputable abbrev TGs := List V → St → Hp → (St → Hp → Prop) → Prop
noncomputable def PG (X : Cx) (target : Expr) (t : TG) : Prop :=
  ∀ (pins : List (Addr × Obj)) (s : Shared) (σ : St) (H : Hp) (v : V) (u : Value) (Q : St → Hp → Prop), Inv X pins σ H s → RelV v u → t v σ H Q →
    wpAny (model X.prog X.w) X.A (assign target X.env u) (fun _ s' => ∃ σ' H', Inv X pins σ' H' s' ∧ Q σ' H') X.xe s
/-- several targets, one after another -/
noncomputable def PGs (X : Cx) (ts : List Expr) (t : TGs) : Prop :=
  ∀ (pins : List (Addr × Obj)) (s : Shared) (σ : St) (H : Hp) (vs : List V) (us : List Value) (Q : St → Hp → Prop), Inv X pins σ H s → Vals vs us → t vs σ H Q →
    wpAny (model X.prog X.w) X.A (assignInOrder ((assignEach ts X.env).map (·.2)) us) (fun _ s' => ∃ σ' H', Inv X pins σ' H' s' ∧ Q σ' H') X.xe s
/-- o[i] = v, by values -/
noncomputable abbrev TSet := V → V → V → Hp → (Hp → Prop) → Prop
noncomputable def PSet (X : Cx) (t : TSet) : Prop :=
  ∀ (pins : List (Addr × Obj)) (s : Shared) (σ : St) (H : Hp) (o i v : V) (ov iv u : Value) (Q : Hp → Prop), Inv X pins σ H s → RelV o ov → RelV i iv → RelV v u → t o i v H Q →
    wpAny (model X.prog X.w) X.A (setItem ov iv u) (fun _ s' => ∃ H', Inv X pins σ H' s' ∧ Q H') X.xe s
/-- a op= b, by values -/
noncomputable abbrev TIp := V → V → Hp → VK → Prop
noncomputable def PIp (X : Cx) (op : Operator) (t : TIp) : Prop :=
  ∀ (pins : List (Addr × Obj)) (s : Shared) (σ : St) (H : Hp) (x y : V) (v u : Value) (Q : VK), Inv X pins σ H s → RelV x v → RelV y u → t x y H Q →
    wpAny (model X.prog X.w) X.A (inplaceOp op v u) (EP X pins σ Q) X.xe s
section
variable {X : Cx} {pos : Pos}
noncomputable def gName (i : Nat) : TG := fun v σ H Q => Q (σ.set i (some v)) H
theorem pg_name {i : Nat} {x : Str} (hN : X.N.Nodup) (hi : X.N[i]? = some x) (hx : Loc X.env.scope x) (hf : X.fn x = true ∨ X.env.scope.names.lookup x = some .local := by first | exact .inl rfl | exact .inr rfl | assumption) : PG X (.Name x pos) (gName i) := by
  intro pins s σ H v u Q I r h
  exact wpAny_assign_Name (store_ok I hN hi hx r (fun s' I' => ⟨_, H, I', h⟩) hf)
noncomputable def gNil : TGs := fun vs σ H Q => vs = [] ∧ Q σ H
noncomputable def gCons (t : TG) (u : TGs) : TGs := fun vs σ H Q => ∃ v r, vs = v :: r ∧ t v σ H fun σ' H' => u r σ' H' Q
theorem pgs_nil : PGs X [] gNil := by
  intro pins s σ H vs us Q I r h
  obtain ⟨e, h⟩ := h
  subst e
  cases r
  exact assignInOrder_nil ⟨σ, H, I, h⟩
theorem pgs_cons {e : Expr} {es : List Expr} {t : TG} {u : TGs} (h1 : PG X e t) (h2 : PGs X es u)
    (hs : (assignEach (e :: es) X.env).map (·.2) = assign e X.env :: (assignEach es X.env).map (·.2) := by rfl) : PGs X (e :: es) (gCons t u) := by
  intro pins s σ H vs us Q I r h
  obtain ⟨v, vr, e1, h⟩ := h
  subst e1
  cases r with
  | cons r rr =>
    rw [hs]
    refine assignInOrder_cons (thn (h1 pins s σ H _ _ _ I r h) fun _ s1 ⟨σ1, H1, I1, q1⟩ => ?_)
    exact h2 pins s1 σ1 H1 _ _ Q I1 rr q1
/-- (a, b, ..) = a tuple of that length -/
noncomputable def gTup (K : PySem.W.Frag) (n : Nat) (t : TGs) : TG := fun v σ H Q => ∃ a xs, v = .ref a ∧ SqT K H a xs ∧ xs.length = n ∧ t xs σ H Q
theorem pg_tup {es : List Expr} {k : Nat} {t : TGs} {n : Nat} (hc : X.calm = true) (h : PGs X es t)
    (hn : (assignEach es X.env).length = n := by rfl) (hst : (assignEach es X.env).findIdx? (·.1) = none := by rfl) : PG X (.Tuple es k pos) (gTup X.K n t) := by
  intro pins s σ H v u Q I r hw
  obtain ⟨a, xs, e1, hq, hl, hw⟩ := hw
  subst e1
  cases r
  obtain ⟨its, rv, ht, hz⟩ := I.tuple hq
  refine assign_Tuple_tuple (I.ok.hd hc) ht (by simp [hn, ← hl, rv.length]) hst fun h' hx => ?_
  have I1 : Inv X pins σ H { s with heap := h' } := I.kept (t' := s.toks) fun b o e => hx b o (Nat.ne_of_lt (Heap.lt_size e)) e
  exact h pins _ σ H xs _ Q I1 (by simpa using rv) hw
/-- o[i] = .. -/
noncomputable def gSub (to ti : TE) (t : TSet) : TG := fun v σ H Q => to σ H fun o H1 => ti σ H1 fun i H2 => t o i v H2 fun H3 => Q σ H3
theorem pg_sub {o i : Expr} {to ti : TE} {t : TSet} (ho : PE X o to) (hi : PE X i ti) (hs : PSet X t)
    (ha : ∀ v, assign (.Subscript o i pos) X.env v = (do
      let ov ← holding [v] (eval o X.env)
      let iv ← holding [v, ov] (eval i X.env)
      standAt pos
      holding [v, ov, iv] (setItem ov iv v)
      release [v, ov, iv] []) := by intro _; rfl) : PG X (.Subscript o i pos) (gSub to ti t) := by
  intro pins s σ H v u Q I r h
  rw [ha]
  refine wpAny_bind (wpAny_holding (thn (ho pins s σ H _ I h) fun ov s1 ⟨x, H1, I1, r1, q1⟩ => ?_))
  refine wpAny_bind (wpAny_holding (thn (hi pins s1 σ H1 _ I1 q1) fun iv s2 ⟨y, H2, I2, r2, q2⟩ => ?_))
  refine wpAny_bind (wpAny_standAt (wpAny_bind (wpAny_holding (thn (hs pins s2 σ H2 x y v ov iv u _ I2 r1 r2 r q2) fun _ s3 ⟨H3, I3, q3⟩ => ?_))))
  exact wpAny_release ⟨σ, H3, I3, q3⟩
/-- target = value -/
noncomputable def tAsg (te : TE) (g : TG) : TS := fun D σ H => te σ H fun x H1 => g x σ H1 D.nx
theorem ps_asg {tg e : Expr} {te : TE} {g : TG} (he : PE X e te) (hg : PG X tg g) (hs : swapsWithSole [tg] e pos.line X.env = pure false := by rfl) (hw : swappedStores [tg] e X.env = pure none := by rfl)
    (h1 : (assignEach [tg] X.env).map (·.2) = [assign tg X.env] := by rfl) : PS X (.Assign [tg] e pos) (tAsg te g) := by
  intro pins s σ H D I h
  refine wpAny_Assign_stores (thn (he pins s σ H _ I h) fun v s1 ⟨x, H1, I1, r1, q1⟩ => ?_) hs hw
  rw [h1]
  exact thn (hg pins s1 σ H1 x v _ I1 r1 q1) fun _ s2 q => q
/-- name = value -/
theorem ps_set {i : Nat} {x : Str} {e : Expr} {te : TE} {pos' : Pos} (hN : X.N.Nodup) (hi : X.N[i]? = some x) (hx : Loc X.env.scope x) (he : PE X e te) (hs : swapsWith e (some (.Name x pos')) pos.line X.env = pure false := by rfl) (hf : X.fn x = true ∨ X.env.scope.names.lookup x = some .local := by first | exact .inl rfl | exact .inr rfl | assumption) :
    PS X (.Assign [.Name x pos'] e pos) (tAsg te (gName i)) := by
  intro pins s σ H D I h
  refine wpAny_Assign_Name (thn (he pins s σ H _ I h) fun v s1 ⟨y, H1, I1, r1, q1⟩ => ?_) hs
  exact store_ok I1 hN hi hx r1 (fun s2 I2 => ⟨_, H1, I2, q1⟩) hf
/-- name op= e -/
noncomputable def tAug (i : Nat) (te : TE) (ti : TIp) : TS := fun D σ H => ∃ x, σ[i]? = some (some x) ∧ te σ H fun y H1 => ti x y H1 fun z H2 => D.nx (σ.set i (some z)) H2
theorem ps_aug {i : Nat} {x : Str} {e : Expr} {te : TE} {op : Operator} {ti : TIp} {pos' : Pos} (hN : X.N.Nodup) (hi : X.N[i]? = some x) (hx : Loc X.env.scope x) (he : PE X e te) (ho : PIp X op ti) (hf : X.fn x = true ∨ X.env.scope.names.lookup x = some .local := by first | exact .inl rfl | exact .inr rfl | assumption) :
    PS X (.AugAssign (.Name x pos') op e pos) (tAug i te ti) := by
  intro pins s σ H D I h
  obtain ⟨v, e1, h⟩ := h
  obtain ⟨m, hn, hl⟩ := I.loc
  have vis : Vis X.env.scope x := by rcases hx with k | k; exact .inl k; exact .inr (.inl k)
  obtain ⟨u, r, l⟩ := hl i x v hi e1 vis
  refine wpAny_AugAssign_Name ?_
  have go : wpAny (model X.prog X.w) X.A (eval e X.env) (fun w s₂ => wpAny (model X.prog X.w) X.A (inplaceOp op u w) (fun r s₃ => wpAny (model X.prog X.w) X.A (storeName X.env x r) (fun _ => SP X pins D .next) X.xe s₃) X.xe s₂) X.xe s := by
    refine thn (he pins s σ H _ I h) fun w s1 ⟨y, H1, I1, r1, q1⟩ => ?_
    refine thn (ho pins s1 σ H1 v y u w _ I1 r r1 q1) fun z s2 ⟨zv, H2, I2, r2, q2⟩ => ?_
    exact store_ok I2 hN hi hx r2 (fun s3 I3 => ⟨_, H2, I3, q2⟩) hf
  rcases l with ⟨hk, hm⟩ | ⟨hk, c, hc, hcell⟩
  · exact wpAny_loadName_local I.ok.kind hk hn hm go
  · rcases hk with hk | hk
    · exact wpAny_loadName_cell I.ok.kind hk hc hcell go
    · rcases hx with k | k
      · have : X.env.scope.names.lookup x = some .free := hk
        rw [k] at this; cases this
      · have : X.env.scope.names.lookup x = some .free := hk
        rw [k] at this; cases this
/-- ints -/
noncomputable def ipI (f : Int → Int → Int) : TIp := fun x y H Q => ∃ i j, x = .int i ∧ y = .int j ∧ Q (.int (f i j)) H
theorem ip_add : PIp X .Add (ipI fun i j => i + j) := by
  intro pins s σ H x y v u Q I r1 r2 h
  obtain ⟨i, j, e1, e2, q⟩ := h
  subst e1; subst e2
  obtain ⟨t, rfl⟩ := r1
  obtain ⟨t', rfl⟩ := r2
  exact iadd_int ⟨.int _, H, I.tok _, ⟨_, rfl⟩, q⟩
end
section
variable {X : Cx} {pos : Pos}
end
/-- at turn i: it yields x (the heap may grow), or it stops -/
structure It where
  go : Nat → Hp → Prop
  yld : Nat → Hp → V → Hp → Prop
  stop : Nat → Hp → Prop
/-- the iterator's own objects may turn: they are not the frame's, not pinned, younger than the entry (or a comprehension's own) -/
noncomputable def FpOk (X : Cx) (pins : List (Addr × Obj)) (H : Hp) (b : Addr) : Prop :=
  H b = none ∧ b ≠ X.env.locals ∧ b ∉ X.fs ∧ (b ∈ X.ex ∨ X.s₀.heap.objs.size ≤ b) ∧ (∀ x c, X.env.cells.lookup x = some c → c ≠ b) ∧ ∀ p ∈ X.pn ++ pins, p.1 ≠ b
theorem Inv.fpOk {X : Cx} {pins : List (Addr × Obj)} {σ : St} {H H' : Hp} {s : Shared} {b : Addr} (I : Inv X pins σ H s) (hb : s.heap.objs.size ≤ b) (hn : H' b = none) : FpOk X pins H' b := by
  refine ⟨hn, Nat.ne_of_gt (Nat.lt_of_lt_of_le I.lt hb), I.nofs hb, .inr (Nat.le_trans I.sz hb), fun x c e z => ?_, fun p hp z => ?_⟩
  · obtain ⟨v, q⟩ := I.cell x c e
    exact absurd (Nat.lt_of_lt_of_le q.lt (by rw [z]; exact hb)) (Nat.lt_irrefl _)
  · exact absurd (Nat.lt_of_lt_of_le (Heap.lt_size (I.pin p hp).1) (by rw [z]; exact hb)) (Nat.lt_irrefl _)
structure Turn (P : Program) (w : World) (K : PySem.W.Frag) (tg : Expr) (J : It) (fp : List Addr) (it : Addr) (tn : Nat → Heap → Prop) : Prop where
  mem : it ∈ fp
  obj : ∀ i h, tn i h → ∀ b ∈ fp, ∃ o, h.get? b = some o ∧ ∀ v, o.data ≠ .cell v
  keep : ∀ i h h', tn i h → (∀ b ∈ fp, ∀ o, h.get? b = some o → h'.get? b = some o) → tn i h'
  item : ∀ (X : Cx), X.prog = P → X.w = w → X.K = K → X.calm = true → ∀ (i : Nat) (pins : List (Addr × Obj)) (s : Shared) (σ : St) (H : Hp) (E : Value → Shared → Prop), Inv X pins σ H s → (∀ b ∈ fp, FpOk X pins H b) → tn i s.heap → J.go i H →
    wpAny (model P w) X.A (pyNext (.ref it)) (fun r s1 => ∃ u, r = some u ∧
      wpAny (model P w) X.A (letOwnedTupleGo tg (.ref it) u) (fun _ s2 => ∃ x H', Inv X pins σ H' s2 ∧ RelV x u ∧ J.yld i H x H' ∧ tn (i + 1) s2.heap ∧ ∀ b ∈ fp, H' b = none) E s1) E s
  done : ∀ (X : Cx), X.prog = P → X.w = w → X.K = K → X.calm = true → ∀ (i : Nat) (pins : List (Addr × Obj)) (s : Shared) (σ : St) (H : Hp) (E : Value → Shared → Prop), Inv X pins σ H s → (∀ b ∈ fp, FpOk X pins H b) → tn i s.heap → J.stop i H →
    wpAny (model P w) X.A (pyNext (.ref it)) (fun r s1 => r = none ∧ Inv X pins σ H s1) E s
  self : ∀ (A : Around) (i : Nat) (s : Shared) (Q : Value → Shared → Prop) (E : Value → Shared → Prop), tn i s.heap → Q (.ref it) s → wpAny (model P w) A (pyIter (.ref it)) Q E s
noncomputable abbrev TI := St → Hp → (It → Hp → Prop) → Prop
/-- an iterator has come -/
noncomputable def PIE (X : Cx) (pins : List (Addr × Obj)) (σ : St) (tg : Expr) (R : It → Hp → Prop) (itv : Value) (s2 : Shared) : Prop :=
  ∃ (it : Addr) (fp : List Addr) (tn : Nat → Heap → Prop) (J : It) (H' : Hp), itv = .ref it ∧ Inv X pins σ H' s2 ∧ Turn X.prog X.w X.K tg J fp it tn ∧ tn 0 s2.heap ∧ (∀ b ∈ fp, FpOk X pins H' b) ∧ R J H'
noncomputable def PI (X : Cx) (tg iter : Expr) (wi : TI) : Prop :=
  ∀ (pins : List (Addr × Obj)) (s : Shared) (σ : St) (H : Hp) (R : It → Hp → Prop), Inv X pins σ H s → wi σ H R →
    wpAny (model X.prog X.w) X.A (eval iter X.env) (fun v s1 => wpAny (model X.prog X.w) X.A (pyIter v) (PIE X pins σ tg R) X.xe s1) X.xe s
/-- the step ahead of the store is nothing for an iterator that keeps no tuple -/
theorem go_of {M : Model} {A : Around} {E : Value → Shared → Prop} {s : Shared} {tg : Expr} {it : Addr} {u : Value} {o : Obj} {n : String} {vs : Array Value} {Q : Unit → Shared → Prop} (ho : s.heap.get? it = some o) (hc : o.cls = .type n) (hd : o.data = .fields vs)
    (hn : ["enumerate", "zip", "dict_itemiterator", "dict_reverseitemiterator", "odict_iterator", "itertools.zip_longest", "itertools.pairwise"].contains n = false) (hQ : Q () s) : wpAny M A (letOwnedTupleGo tg (.ref it) u) Q E s := by
  unfold letOwnedTupleGo
  cases tg <;> first
    | exact wpAny_pure hQ
    | (cases u <;> first
        | exact wpAny_pure hQ
        | (refine wpAny_bind (wpAny_load ho ?_)
           rw [hc, hd]
           show wpAny M A (if (["enumerate", "zip", "dict_itemiterator", "dict_reverseitemiterator", "odict_iterator", "itertools.zip_longest", "itertools.pairwise"].contains n && vs[0]? == some (rawInt _)) = true then _ else _) Q E s
           rw [if_neg (by intro h; rw [hn, Bool.false_and] at h; cases h)]
           exact wpAny_pure hQ))
/-- the list at a, as it stands at each turn (a loop may append to it) -/
noncomputable def Itl (K : PySem.W.Frag) (a : Addr) : It :=
  ⟨fun i H => ∃ xs x, SqL K H a xs ∧ xs[i]? = some x, fun i H x H' => H' = H ∧ ∀ xs, SqL K H a xs → xs[i]? = some x, fun i H => ∃ xs, SqL K H a xs ∧ xs.length ≤ i⟩
noncomputable def Itt (K : PySem.W.Frag) (a : Addr) : It :=
  ⟨fun i H => ∃ xs x, SqT K H a xs ∧ xs[i]? = some x, fun i H x H' => H' = H ∧ ∀ xs, SqT K H a xs → xs[i]? = some x, fun i H => ∃ xs, SqT K H a xs ∧ xs.length ≤ i⟩
/-- lo, lo + 1, .. (n of them) -/
noncomputable def Itr (lo : Int) (n : Nat) : It := ⟨fun i _ => i < n, fun i H x H' => H' = H ∧ x = .int (lo + i), fun i _ => n ≤ i⟩
theorem turn_list {P : Program} {w : World} {K : PySem.W.Frag} {tg : Expr} (a it : Addr) : Turn P w K tg (Itl K a) [it] it (fun i h => h.IsListIter it a i) where
  mem := by simp
  obj := fun i h st b hb => by
    have e : b = it := by simpa using hb
    subst e
    obtain ⟨o, e, c, d⟩ := st
    exact ⟨o, e, fun v z => by rw [d] at z; cases z⟩
  keep := fun i h h' st k => st.at fun o e => k it (by simp) o e
  item := by
    intro X hP hw hK hc i pins s σ H E I hf st hg
    subst hP hw hK
    obtain ⟨xs, x, hq, hx⟩ := hg
    obtain ⟨its, rv, p, hz⟩ := I.list hq
    obtain ⟨u, hu, ru⟩ := rv.get hx
    obtain ⟨f0, f1, f2, f3, f4, f5⟩ := hf it (by simp)
    refine wpAny_pyNext_list_item st p.isList (x := u) (by simpa using hu) fun h' st' sb => ?_
    have I1 : Inv X pins σ H { s with heap := h' } := I.turned (t' := s.toks) (fun b o hb e => (sb.2 b hb).trans e) f0 f1 f3 f4 f5
    obtain ⟨o, e, c, d⟩ := id st'
    exact ⟨u, rfl, go_of (s := { s with heap := h' }) e c d (by decide) ⟨x, H, I1, ru, ⟨rfl, fun ys hy => by rw [I.list_inj hy hq]; exact hx⟩, st', fun b hb => (hf b hb).1⟩⟩
  done := by
    intro X hP hw hK hc i pins s σ H E I hf st hg
    subst hP hw hK
    obtain ⟨xs, hq, hx⟩ := hg
    obtain ⟨its, rv, p, hz⟩ := I.list hq
    obtain ⟨f0, f1, f2, f3, f4, f5⟩ := hf it (by simp)
    have hl := rv.length
    exact wpAny_pyNext_list_end (I.ok.hd hc) st p.isList (by simp; omega) fun h' eb => ⟨rfl, I.turned (t' := s.toks) (fun b o hb e => eb b o hb e) f0 f1 f3 f4 f5⟩
  self := fun _ _ _ _ _ st h => wpAny_pyIter_listiter st h
theorem turn_tuple {P : Program} {w : World} {K : PySem.W.Frag} {tg : Expr} (a it : Addr) : Turn P w K tg (Itt K a) [it] it (fun i h => h.IsTupleIter it a i) where
  mem := by simp
  obj := fun i h st b hb => by
    have e : b = it := by simpa using hb
    subst e
    obtain ⟨o, e, c, d⟩ := st
    exact ⟨o, e, fun v z => by rw [d] at z; cases z⟩
  keep := fun i h h' st k => st.at fun o e => k it (by simp) o e
  item := by
    intro X hP hw hK hc i pins s σ H E I hf st hg
    subst hP hw hK
    obtain ⟨xs, x, hq, hx⟩ := hg
    obtain ⟨its, rv, p, hz⟩ := I.tuple hq
    obtain ⟨u, hu, ru⟩ := rv.get hx
    obtain ⟨f0, f1, f2, f3, f4, f5⟩ := hf it (by simp)
    refine wpAny_pyNext_tuple_item st (show s.heap.IsTuple a its.toArray from p) (x := u) (by simpa using hu) fun h' st' sb => ?_
    have I1 : Inv X pins σ H { s with heap := h' } := I.turned (t' := s.toks) (fun b o hb e => (sb.2 b hb).trans e) f0 f1 f3 f4 f5
    obtain ⟨o, e, c, d⟩ := id st'
    exact ⟨u, rfl, go_of (s := { s with heap := h' }) e c d (by decide) ⟨x, H, I1, ru, ⟨rfl, fun ys hy => by rw [I.tuple_inj hy hq]; exact hx⟩, st', fun b hb => (hf b hb).1⟩⟩
  done := by
    intro X hP hw hK hc i pins s σ H E I hf st hg
    subst hP hw hK
    obtain ⟨xs, hq, hx⟩ := hg
    obtain ⟨its, rv, p, hz⟩ := I.tuple hq
    obtain ⟨f0, f1, f2, f3, f4, f5⟩ := hf it (by simp)
    have hl := rv.length
    exact wpAny_pyNext_tuple_end (I.ok.hd hc) st (show s.heap.IsTuple a its.toArray from p) (by simp; omega) fun h' eb => ⟨rfl, I.turned (t' := s.toks) (fun b o hb e => eb b o hb e) f0 f1 f3 f4 f5⟩
  self := fun _ _ _ _ _ st h => wpAny_pyIter_tupleiter st h
theorem turn_range {P : Program} {w : World} {K : PySem.W.Frag} {tg : Expr} (it : Addr) (lo : Int) (n : Nat) : Turn P w K tg (Itr lo n) [it] it (fun i h => IsRangeIter h it (lo + (i : Nat) * 1) ((n : Int) - (i : Nat)) 1) where
  mem := by simp
  obj := fun i h st b hb => by
    have e : b = it := by simpa using hb
    subst e
    exact ⟨_, st, fun v z => by
      have z' : Data.fields _ = Data.cell v := z
      cases z'⟩
  keep := fun i h h' st k => k it (by simp) _ st
  item := by
    intro X hP hw hK hc i pins s σ H E I hf st hg
    subst hP hw hK
    obtain ⟨f0, f1, f2, f3, f4, f5⟩ := hf it (by simp)
    have W := Walks.range (prog := X.prog) (w := X.w) (I.ok.hd hc) it lo 1 n
    refine W.item i s _ _ hg st fun v h' tk hv st' kk => ?_
    obtain ⟨t, rfl⟩ := hv
    have I1 : Inv X pins σ H { s with heap := h', toks := tk } := I.turned (fun b o hb e => kk b o (by simpa using hb) e) f0 f1 f3 f4 f5
    refine ⟨_, rfl, go_of (s := { s with heap := h', toks := tk }) (n := "range_iterator") st' rfl rfl (by decide) ⟨.int (lo + i), H, I1, ⟨t, ?_⟩, ⟨rfl, rfl⟩, st', fun b hb => (hf b hb).1⟩⟩
    rw [Int.mul_one]
  done := by
    intro X hP hw hK hc i pins s σ H E I hf st hg
    subst hP hw hK
    obtain ⟨f0, f1, f2, f3, f4, f5⟩ := hf it (by simp)
    exact wpAny_pyNext_range_end (I.ok.hd hc) st (by have : n ≤ i := hg; omega) fun h' eb => ⟨rfl, I.turned (t' := s.toks) (fun b o hb e => eb b o hb e) f0 f1 f3 f4 f5⟩
  self := fun _ _ _ _ _ st h => wpAny_pyIter_rangeiter st h
end L2
namespace L2
open PySem PySem.Spec PyProof.Rows
section
variable {X : Cx} {tg : Expr}
noncomputable def iList (K : PySem.W.Frag) (tl : TE) : TI := fun σ H R => tl σ H fun x H1 => ∃ a, x = .ref a ∧ (∃ xs, SqL K H1 a xs) ∧ R (Itl K a) H1
noncomputable def iTup (K : PySem.W.Frag) (tl : TE) : TI := fun σ H R => tl σ H fun x H1 => ∃ a, x = .ref a ∧ (∃ xs, SqT K H1 a xs) ∧ R (Itt K a) H1
/-- a range object just made, walked -/
theorem range_it {pins : List (Addr × Obj)} {σ : St} {H : Hp} {s : Shared} {R : It → Hp → Prop} {E : Value → Shared → Prop} {lo hi : Int} {t u v : Tok} {tk : Nat} (I : Inv X pins σ H s) (h1 : -(2 ^ 62) ≤ lo) (h2 : lo < 2 ^ 62) (h3 : -(2 ^ 62) ≤ hi) (h4 : hi < 2 ^ 62)
    (q : R (Itr lo (hi - lo).toNat) H) : wpAny (model X.prog X.w) X.A (pyIter (.ref s.heap.objs.size)) (PIE X pins σ tg R) E { s with heap := s.heap.push { cls := .type "range", data := .fields #[.int lo t, .int hi u, .int 1 v] }, toks := tk } := by
  refine wpAny_pyIter_range (IsRange.new ..) (small_one h1 h2 h3 h4) ?_
  have I1 : Inv X pins σ H { s with heap := s.heap.push { cls := .type "range", data := .fields #[.int lo t, .int hi u, .int 1 v] }, toks := tk } := I.kept fun b o e => Heap.get?_push_of_some _ e
  refine ⟨(s.heap.push { cls := .type "range", data := .fields #[.int lo t, .int hi u, .int 1 v] }).objs.size, [(s.heap.push { cls := .type "range", data := .fields #[.int lo t, .int hi u, .int 1 v] }).objs.size], _, _, H, rfl,
    I1.kept (t' := tk) fun b o e => Heap.get?_push_of_some _ e, turn_range _ lo (hi - lo).toNat, ?_, fun b hb => ?_, q⟩
  · have e1 : lo + ((0 : Nat) : Int) * 1 = lo := by simp
    have e2 : (((hi - lo).toNat : Nat) : Int) - ((0 : Nat) : Int) = Builtin.Range.rangeSize lo hi 1 := by rw [rangeSize_one]; split <;> omega
    show IsRangeIter _ _ (lo + ((0 : Nat) : Int) * 1) ((((hi - lo).toNat : Nat) : Int) - ((0 : Nat) : Int)) 1
    rw [e1, e2]
    exact Heap.get?_push_size _ rfl
  · have e : b = (s.heap.push { cls := .type "range", data := .fields #[.int lo t, .int hi u, .int 1 v] }).objs.size := by simpa using hb
    subst e
    exact I1.fpOk (Nat.le_refl _) (I1.hok.fresh (Nat.le_refl _))
noncomputable def iRng1 (ta : TA) : TI := fun σ H R => ta σ H fun vs H1 => ∃ j : Int, vs = [.int j] ∧ -(2 ^ 62) ≤ j ∧ j < 2 ^ 62 ∧ R (Itr 0 j.toNat) H1
theorem pi_range1 {a : Expr} {ta : TA} {p pos : Pos} (hg : Gl X "range") (hm : X.mg "range" = none) (ha : PA X [a] ta) (hs : starEach [a] X.env = [(false, eval a X.env)] := by rfl) : PI X tg (.Call (.Name "range" p) [a] [] pos) (iRng1 ta) := by
  intro pins s σ H R I h
  refine Call_ (ld_blt I hg hm boot_range (PyProof.Rows.callWith_type1 (thn (ha pos pins s σ H _ I h) fun us s1 ⟨vs, H1, I1, r1, q1⟩ => ?_) hs rfl))
  obtain ⟨j, e, q1, q2, q⟩ := q1
  subst e
  cases r1 with
  | cons r rr =>
    cases rr
    obtain ⟨t, rfl⟩ := r
    exact call_range_1 (range_it I1 (by omega) (by omega) q1 q2 (by simpa using q))
/-- W: the invariant by the turn and a measure; N: what the body is to reach -/
noncomputable def tFor (wi : TI) (g : TG) (tb : TS) : TS := fun D σ H => wi σ H fun J H1 => ∃ W : Nat → Nat → St → Hp → Prop, (∃ m, W 0 m σ H1) ∧ ∀ i m σ H, W i m σ H →
  (J.stop i H ∧ D.nx σ H) ∨ (J.go i H ∧ ∃ N : St → Hp → Prop, (∀ σ' H', N σ' H' → ∃ m', m' < m ∧ W (i + 1) m' σ' H') ∧ ∀ x H', J.yld i H x H' → g x σ H' fun σ2 H2 => tb { D with nx := N, ct := N, bk := D.nx } σ2 H2)
/-- the records at fp as they stand -/
noncomputable def pinsAt (fp : List Addr) (h : Heap) : List (Addr × Obj) := fp.filterMap fun b => (h.get? b).map fun o => (b, o)
theorem mem_pinsAt {fp : List Addr} {h : Heap} {b : Addr} {o : Obj} (hb : b ∈ fp) (e : h.get? b = some o) : (b, o) ∈ pinsAt fp h := List.mem_filterMap.mpr ⟨b, hb, by rw [e]; rfl⟩
theorem of_pinsAt {fp : List Addr} {h : Heap} {p : Addr × Obj} (hp : p ∈ pinsAt fp h) : p.1 ∈ fp ∧ h.get? p.1 = some p.2 := by
  obtain ⟨b, hb, e⟩ := List.mem_filterMap.mp hp
  cases q : h.get? b with
  | none => rw [q] at e; cases e
  | some o =>
    rw [q] at e
    have e' : (b, o) = p := Option.some.inj e
    subst e'
    exact ⟨hb, q⟩
theorem Inv.pinned {pins : List (Addr × Obj)} {σ : St} {H : Hp} {s : Shared} {fp : List Addr} (I : Inv X pins σ H s) (hf : ∀ b ∈ fp, FpOk X pins H b) (ho : ∀ b ∈ fp, ∃ o, s.heap.get? b = some o ∧ ∀ v, o.data ≠ .cell v) : Inv X (pins ++ pinsAt fp s.heap) σ H s :=
  I.pins_of fun p hp => (List.mem_append.mp hp).elim (fun z => I.pin p (List.mem_append_right _ z)) fun z => by
    obtain ⟨hb, e⟩ := of_pinsAt z
    obtain ⟨f0, f1, f2, _⟩ := hf p.1 hb
    obtain ⟨o, e', d⟩ := ho p.1 hb
    rw [e] at e'; cases e'
    exact ⟨e, f0, f1, f2, d⟩
theorem Inv.unpinned {pins pl : List (Addr × Obj)} {σ : St} {H : Hp} {s : Shared} (I : Inv X (pins ++ pl) σ H s) : Inv X pins σ H s := I.pins_of fun p hp => I.pin p (List.mem_append_right _ (List.mem_append_left _ hp))
theorem ps_for {iter : Expr} {body : List Stmt} {wi : TI} {g : TG} {tb : TS} {pos : Pos} (hp : PassesOwn (model X.prog X.w) X.A X.env X.xe) (hc : X.calm = true) (hi : PI X tg iter wi) (hg : PG X tg g) (hb : PSs X body tb)
    (hs : ∀ x, foldedSetIterable iter X.env x = pure x := by intro _; rfl) : PS X (.For tg iter body [] pos) (tFor wi g tb) := by
  intro pins s σ H D I h
  refine wpAny_For (thn (hi pins s σ H _ I h) fun v s1 h1 => thn h1 fun itv s2 h2 => ?_) hs
  obtain ⟨it, fp, tn, J, H2, e, I2, T, st2, f2, W, ⟨m0, w0⟩, turn⟩ := h2
  subst e
  -- what stays true of the iterator's objects through the loop
  have stat : ∀ {H' : Hp}, (∀ b ∈ fp, H' b = none) → ∀ b ∈ fp, FpOk X pins H' b := fun hn b hb => ⟨hn b hb, (f2 b hb).2⟩
  refine codeAny_forLoop_any (fun n s' => ∃ i σ' H', Inv X pins σ' H' s' ∧ tn i s'.heap ∧ (∀ b ∈ fp, H' b = none) ∧ W i n σ' H') ?_ m0 ⟨0, σ, H2, I2, st2, fun b hb => (f2 b hb).1, w0⟩
  rintro n s3 ⟨i, σ3, H3, I3, st3, fr3, w3⟩
  rcases turn i n σ3 H3 w3 with ⟨stop, qn⟩ | ⟨go, N, hN, step⟩
  · refine wpAny_passesOwn hp (thn (T.done X rfl rfl rfl hc i pins s3 σ3 H3 X.xe I3 (stat fr3) st3 stop) fun r s4 ⟨hr, I4⟩ => ?_)
    subst hr
    exact wpAny_execs_nil ⟨σ3, H3, I4, qn⟩
  · refine wpAny_passesOwn hp (thn (T.item X rfl rfl rfl hc i pins s3 σ3 H3 X.xe I3 (stat fr3) st3 go) fun r s4 ⟨u, hr, h4⟩ => ?_)
    subst hr
    refine wpAny_passesOwn hp (thn h4 fun _ s5 ⟨x, H5, I5, r5, y5, st5, fr5⟩ => ?_)
    have I5' := I5.pinned (stat fr5) (T.obj _ _ st5)
    refine wpAny_passesOwn hp (thn (hg _ s5 σ3 H5 x u _ I5' r5 (step x H5 y5)) fun _ s6 ⟨σ6, H6, I6, q6⟩ => ?_)
    refine wpAny_passesOwn hp (thn (hb _ s6 σ6 H6 _ I6 q6) fun f s7 q7 => ?_)
    have again : ∀ {σ7 : St} {H7 : Hp}, Inv X (pins ++ pinsAt fp s5.heap) σ7 H7 s7 → N σ7 H7 → ∃ m, m < n ∧ ∃ i σ' H', Inv X pins σ' H' s7 ∧ tn i s7.heap ∧ (∀ b ∈ fp, H' b = none) ∧ W i m σ' H' := fun {σ7 H7} I7 n7 => by
      obtain ⟨m', hm, w7⟩ := hN σ7 H7 n7
      refine ⟨m', hm, i + 1, σ7, H7, I7.unpinned, T.keep _ _ _ st5 fun b hb o e => (I7.pin (b, o) (List.mem_append_right _ (List.mem_append_right _ (mem_pinsAt hb e)))).1, fun b hb => ?_, w7⟩
      obtain ⟨o, e, d⟩ := T.obj _ _ st5 b hb
      exact (I7.pin (b, o) (List.mem_append_right _ (List.mem_append_right _ (mem_pinsAt hb e)))).2.1
    cases f with
    | next => obtain ⟨σ7, H7, I7, n7⟩ := q7; exact again I7 n7
    | cont => obtain ⟨σ7, H7, I7, n7⟩ := q7; exact again I7 n7
    | brk => obtain ⟨σ7, H7, I7, q7⟩ := q7; exact ⟨σ7, H7, I7.unpinned, q7⟩
    | ret v => obtain ⟨x7, σ7, H7, I7, r7, q7⟩ := q7; exact ⟨x7, σ7, H7, I7.unpinned, r7, q7⟩
end
end L2
namespace L2
open PySem PySem.Spec PyProof.Rows
noncomputable abbrev R2 := V → V → Hp → VK → Prop
/-- a two-place operation on values: f is binaryOp op, inplaceOp op or compareOp op -/
noncomputable def OpR (X : Cx) (f : Value → Value → Sem Value) (r : R2) : Prop :=
  ∀ (pins : List (Addr × Obj)) (s : Shared) (σ : St) (H : Hp) (x y : V) (v u : Value) (Q : VK), Inv X pins σ H s → RelV x v → RelV y u → r x y H Q →
    wpAny (model X.prog X.w) X.A (f v u) (EP X pins σ Q) X.xe s
/-- a call of a value that is known (a builtin, a type) with values -/
noncomputable def CallR (X : Cx) (f : Value) (r : List V → Hp → VK → Prop) : Prop :=
  ∀ (pins : List (Addr × Obj)) (s : Shared) (σ : St) (H : Hp) (xs : List V) (us : List Value) (Q : VK), Inv X pins σ H s → Vals xs us → r xs H Q →
    wpAny (model X.prog X.w) X.A (call f us) (EP X pins σ Q) X.xe s
/-- a value's truth -/
noncomputable def TruR (X : Cx) (r : V → Hp → (Bool → Hp → Prop) → Prop) : Prop :=
  ∀ (pins : List (Addr × Obj)) (s : Shared) (σ : St) (H : Hp) (x : V) (v : Value) (Q : Bool → Hp → Prop), Inv X pins σ H s → RelV x v → r x H Q →
    wpAny (model X.prog X.w) X.A (truthy v) (TP X pins σ Q) X.xe s
noncomputable def tOp (r : R2) (ta tb : TE) : TE := fun σ H Q => ta σ H fun x H1 => tb σ H1 fun y H2 => r x y H2 Q
/-- ints in, under C, and a value out -/
noncomputable def rI (C : Int → Int → Prop) (g : Int → Int → V) : R2 := fun x y H Q => ∃ i j, x = .int i ∧ y = .int j ∧ C i j ∧ Q (g i j) H
noncomputable def rI0 (g : Int → Int → V) : R2 := fun x y H Q => ∃ i j, x = .int i ∧ y = .int j ∧ Q (g i j) H
section
variable {X : Cx} {a b c : Expr} {ta tb tc : TE} {pos : Pos}
theorem binT (ha : PE X a ta) (hb : PE X b tb) {pins : List (Addr × Obj)} {s : Shared} {σ : St} {H : Hp} {R : V → V → Hp → Prop} (I : Inv X pins σ H s)
    (h : ta σ H fun x H1 => tb σ H1 fun y H2 => R x y H2) {Q : Value → Shared → Prop} {f : Value → Value → Sem Value}
    (hf : ∀ v u s2 x y H2, Inv X pins σ H2 s2 → RelV x v → RelV y u → R x y H2 → wpAny (model X.prog X.w) X.A (f v u) Q X.xe s2) :
    wpAny (model X.prog X.w) X.A (eval a X.env) (fun v s₁ => wpAny (model X.prog X.w) X.A (eval b X.env) (fun u s₂ => wpAny (model X.prog X.w) X.A (f v u) Q X.xe s₂) X.xe s₁) X.xe s := by
  refine thn (ha pins s σ H _ I h) fun v s1 ⟨x, H1, I1, r1, q1⟩ => ?_
  refine thn (hb pins s1 σ H1 _ I1 q1) fun u s2 ⟨y, H2, I2, r2, q2⟩ => ?_
  exact hf v u s2 x y H2 I2 r1 r2 q2
theorem pe_op {op : Operator} {r : R2} (ho : OpR X (binaryOp op) r) (ha : PE X a ta) (hb : PE X b tb) : PE X (.BinOp a op b pos) (tOp r ta tb) := by
  intro pins s σ H Q I h
  exact wpAny_BinOp (binT ha hb I h fun v u s2 x y H2 I2 rx ry q => ho pins s2 σ H2 x y v u Q I2 rx ry q)
theorem opI {f : Value → Value → Sem Value} {C : Int → Int → Prop} {g : Int → Int → Int}
    (rule : ∀ (i j : Int) (t u : Tok) (s : Shared) (Q : Value → Shared → Prop) (E : Value → Shared → Prop), C i j → Q (.int (g i j) s.toks) { s with toks := s.toks + 1 } → wpAny (model X.prog X.w) X.A (f (.int i t) (.int j u)) Q E s) :
    OpR X f (rI C fun i j => .int (g i j)) := by
  intro pins s σ H x y v u Q I rx ry h
  obtain ⟨i, j, rfl, rfl, hc, q⟩ := h
  obtain ⟨t, rfl⟩ := rx
  obtain ⟨t', rfl⟩ := ry
  exact rule i j t t' s _ _ hc ⟨.int (g i j), H, I.tok _, ⟨_, rfl⟩, q⟩
theorem opI0 {f : Value → Value → Sem Value} {g : Int → Int → Int}
    (rule : ∀ (i j : Int) (t u : Tok) (s : Shared) (Q : Value → Shared → Prop) (E : Value → Shared → Prop), Q (.int (g i j) s.toks) { s with toks := s.toks + 1 } → wpAny (model X.prog X.w) X.A (f (.int i t) (.int j u)) Q E s) :
    OpR X f (rI0 fun i j => .int (g i j)) := by
  intro pins s σ H x y v u Q I rx ry h
  obtain ⟨i, j, rfl, rfl, q⟩ := h
  obtain ⟨t, rfl⟩ := rx
  obtain ⟨t', rfl⟩ := ry
  exact rule i j t t' s _ _ ⟨.int (g i j), H, I.tok _, ⟨_, rfl⟩, q⟩
theorem opB0 {f : Value → Value → Sem Value} {g : Int → Int → Bool}
    (rule : ∀ (i j : Int) (t u : Tok) (s : Shared) (Q : Value → Shared → Prop) (E : Value → Shared → Prop), Q (.bool (g i j)) s → wpAny (model X.prog X.w) X.A (f (.int i t) (.int j u)) Q E s) :
    OpR X f (rI0 fun i j => .bl (g i j)) := by
  intro pins s σ H x y v u Q I rx ry h
  obtain ⟨i, j, rfl, rfl, q⟩ := h
  obtain ⟨t, rfl⟩ := rx
  obtain ⟨t', rfl⟩ := ry
  exact rule i j t t' s _ _ ⟨.bl (g i j), H, I, rfl, q⟩
noncomputable def CDiv (i j : Int) : Prop := 0 < j ∧ j < 1073741824
noncomputable def CPow (i j : Int) : Prop := 0 ≤ j ∧ j ≤ 1000000 ∧ i.natAbs < 2 ^ 64
theorem op_add : OpR X (binaryOp .Add) (rI0 fun i j => .int (i + j)) := opI0 fun _ _ _ _ _ _ _ q => add_int q
theorem op_sub : OpR X (binaryOp .Sub) (rI0 fun i j => .int (i - j)) := opI0 fun _ _ _ _ _ _ _ q => sub_int q
/-- // by a positive divisor -/
theorem op_fdiv : OpR X (binaryOp .FloorDiv) (rI CDiv fun i j => .int (i / j)) := opI fun i j _ _ _ _ _ hc q => by
  have h1 : (0 : Int) < j := hc.1
  have h2 : j < 1073741824 := hc.2
  exact floordiv_int (by omega) (by rw [Int.fdiv_eq_ediv_of_nonneg i (by omega)]; exact q) (.inl (PyProof.noPylong_small (by omega)))
/-- % by a positive divisor of any size -/
theorem op_mod : OpR X (binaryOp .Mod) (rI (fun _ j => 0 < j) fun i j => .int (i % j)) := opI fun i j _ _ _ _ _ hc q => by
  have h1 : (0 : Int) < j := hc
  exact mod_int' (by omega) (by rw [Int.fmod_eq_emod_of_nonneg i (by omega)]; exact q)
theorem op_pow : OpR X (binaryOp .Pow) (rI CPow fun i j => .int (i ^ j.toNat)) := opI fun _ _ _ _ _ _ _ hc q => pow_int_small hc.1 hc.2.1 hc.2.2 q
end
/-- the scalars that == tells apart as data does -/
noncomputable def scal : V → V → Bool
  | .non, .non => true | .non, .int _ => true | .int _, .non => true | .non, .bl _ => true | .bl _, .non => true | .non, .str _ => true | .str _, .non => true
  | .int _, .int _ => true | .bl _, .bl _ => true | .str _, .str _ => true | .byt _, .byt _ => true
  | .int _, .str _ => true | .str _, .int _ => true | .bl _, .str _ => true | .str _, .bl _ => true
  | _, _ => false
noncomputable def rEq : R2 := fun x y H Q => scal x y = true ∧ Q (.bl (decide (x = y))) H
noncomputable def rNe : R2 := fun x y H Q => scal x y = true ∧ Q (.bl (!decide (x = y))) H
theorem dec_int {i j : Int} : decide (V.int i = V.int j) = (i == j) := by
  rw [Bool.eq_iff_iff]
  simp
theorem dec_bl {i j : Bool} : decide (V.bl i = V.bl j) = (i == j) := by
  rw [Bool.eq_iff_iff]
  simp
theorem dec_str {i j : Str} : decide (V.str i = V.str j) = (i == j) := by
  rw [Bool.eq_iff_iff]
  simp
theorem dec_byt {i j : Array UInt8} : decide (V.byt i = V.byt j) = (i.toList == j.toList) := by
  rw [Bool.eq_iff_iff]
  cases i
  cases j
  simp
section
variable {X : Cx} {a b c : Expr} {ta tb tc : TE} {pos : Pos}
theorem fin_bl {pins : List (Addr × Obj)} {σ : St} {H : Hp} {s : Shared} {Q : VK} {k k' : Bool} (I : Inv X pins σ H s) (q : Q (.bl k) H) (e : k = k') : EP X pins σ Q (.bool k') s := by
  subst e
  exact ⟨.bl k, H, I, rfl, q⟩
theorem op_eq : OpR X (compareOp .Eq) rEq := by
  intro pins s σ H x y v u Q I rx ry h
  obtain ⟨hs, q⟩ := h
  cases x with
  | non =>
    cases rx
    cases y with
    | non => cases ry; exact PySem.EqNone.eq_none_none (fin_bl I q (by simp))
    | bl j => cases ry; exact PySem.EqNone.eq_none_bool (fin_bl I q (by simp))
    | int j => obtain ⟨t', rfl⟩ := ry; exact PySem.EqNone.eq_none_int (fin_bl I q (by simp))
    | str j => obtain ⟨t', rfl⟩ := ry; exact PySem.EqNone.eq_none_str (fin_bl I q (by simp))
    | _ => exact absurd (show false = true from hs) Bool.false_ne_true
  | bl i =>
    cases rx
    cases y with
    | non => cases ry; exact PySem.EqNone.eq_bool_none (fin_bl I q (by simp))
    | bl j => cases ry; exact eq_bool (fin_bl I q dec_bl)
    | str j => obtain ⟨t', rfl⟩ := ry; exact PySem.EqMixed.eq_bool_str (fin_bl I q (by simp))
    | _ => exact absurd (show false = true from hs) Bool.false_ne_true
  | int i =>
    obtain ⟨t, rfl⟩ := rx
    cases y with
    | non => cases ry; exact PySem.EqNone.eq_int_none (fin_bl I q (by simp))
    | int j => obtain ⟨t', rfl⟩ := ry; exact eq_int (fin_bl I q dec_int)
    | str j => obtain ⟨t', rfl⟩ := ry; exact PySem.EqMixed.eq_int_str (fin_bl I q (by simp))
    | _ => exact absurd (show false = true from hs) Bool.false_ne_true
  | str i =>
    obtain ⟨t, rfl⟩ := rx
    cases y with
    | non => cases ry; exact PySem.EqNone.eq_str_none (fin_bl I q (by simp))
    | bl j => cases ry; exact PySem.EqMixed.eq_str_bool (fin_bl I q (by simp))
    | int j => obtain ⟨t', rfl⟩ := ry; exact PySem.EqMixed.eq_str_int (fin_bl I q (by simp))
    | str j => obtain ⟨t', rfl⟩ := ry; exact eq_str (fin_bl I q dec_str)
    | _ => exact absurd (show false = true from hs) Bool.false_ne_true
  | byt i =>
    obtain ⟨t, rfl⟩ := rx
    cases y with
    | byt j => obtain ⟨t', rfl⟩ := ry; exact PySem.W.eq_bytes (fin_bl I q dec_byt)
    | _ => exact absurd (show false = true from hs) Bool.false_ne_true
  | _ => cases y <;> exact absurd (show false = true from hs) Bool.false_ne_true
theorem op_ne : OpR X (compareOp .NotEq) rNe := by
  intro pins s σ H x y v u Q I rx ry h
  obtain ⟨hs, q⟩ := h
  cases x with
  | non =>
    cases rx
    cases y with
    | non => cases ry; exact PySem.EqNone.ne_none_none (fin_bl I q (by simp))
    | bl j => cases ry; exact PySem.EqNone.ne_none_bool (fin_bl I q (by simp))
    | int j => obtain ⟨t', rfl⟩ := ry; exact PySem.EqNone.ne_none_int (fin_bl I q (by simp))
    | str j => obtain ⟨t', rfl⟩ := ry; exact PySem.EqNone.ne_none_str (fin_bl I q (by simp))
    | _ => exact absurd (show false = true from hs) Bool.false_ne_true
  | bl i =>
    cases rx
    cases y with
    | non => cases ry; exact PySem.EqNone.ne_bool_none (fin_bl I q (by simp))
    | bl j => cases ry; exact ne_bool (fin_bl I q (congrArg not dec_bl))
    | str j => obtain ⟨t', rfl⟩ := ry; exact PySem.EqMixed.ne_bool_str (fin_bl I q (by simp))
    | _ => exact absurd (show false = true from hs) Bool.false_ne_true
  | int i =>
    obtain ⟨t, rfl⟩ := rx
    cases y with
    | non => cases ry; exact PySem.EqNone.ne_int_none (fin_bl I q (by simp))
    | int j => obtain ⟨t', rfl⟩ := ry; exact ne_int (fin_bl I q (congrArg not dec_int))
    | str j => obtain ⟨t', rfl⟩ := ry; exact PySem.EqMixed.ne_int_str (fin_bl I q (by simp))
    | _ => exact absurd (show false = true from hs) Bool.false_ne_true
  | str i =>
    obtain ⟨t, rfl⟩ := rx
    cases y with
    | non => cases ry; exact PySem.EqNone.ne_str_none (fin_bl I q (by simp))
    | bl j => cases ry; exact PySem.EqMixed.ne_str_bool (fin_bl I q (by simp))
    | int j => obtain ⟨t', rfl⟩ := ry; exact PySem.EqMixed.ne_str_int (fin_bl I q (by simp))
    | str j => obtain ⟨t', rfl⟩ := ry; exact ne_str (fin_bl I q (congrArg not dec_str))
    | _ => exact absurd (show false = true from hs) Bool.false_ne_true
  | byt i =>
    obtain ⟨t, rfl⟩ := rx
    cases y with
    | byt j => obtain ⟨t', rfl⟩ := ry; exact PySem.W.ne_bytes (fin_bl I q (congrArg not dec_byt))
    | _ => exact absurd (show false = true from hs) Bool.false_ne_true
  | _ => cases y <;> exact absurd (show false = true from hs) Bool.false_ne_true
theorem op_lt : OpR X (compareOp .Lt) (rI0 fun i j => .bl (decide (i < j))) := opB0 fun _ _ _ _ _ _ _ q => lt_int q
theorem op_le : OpR X (compareOp .LtE) (rI0 fun i j => .bl (decide (i ≤ j))) := opB0 fun _ _ _ _ _ _ _ q => le_int q
theorem op_gt : OpR X (compareOp .Gt) (rI0 fun i j => .bl (decide (j < i))) := opB0 fun _ _ _ _ _ _ _ q => gt_int q
theorem op_ge : OpR X (compareOp .GtE) (rI0 fun i j => .bl (decide (j ≤ i))) := opB0 fun _ _ _ _ _ _ _ q => ge_int q
/-- the one string within the other -/
theorem op_in_str : OpR X (compareOp .In) (fun x y H Q => ∃ i j, x = .str i ∧ y = .str j ∧ Q (.bl (!(Builtin.Str.occurrences j i 0 j.length 1).isEmpty)) H) := by
  intro pins s σ H x y v u Q I rx ry h
  obtain ⟨i, j, rfl, rfl, q⟩ := h
  obtain ⟨t, rfl⟩ := rx
  obtain ⟨t', rfl⟩ := ry
  exact in_str (fin_bl I q rfl)
/-- is None, is not None: the right side a value none -/
theorem op_isN : OpR X (compareOp .Is) (fun x y H Q => y = .non ∧ Q (.bl (decide (x = .non))) H) := by
  intro pins s σ H x y v u Q I rx ry h
  obtain ⟨rfl, q⟩ := h
  cases ry
  refine is_none_gen (fin_bl I q ?_)
  cases x <;> first
    | (cases rx; rfl)
    | (obtain ⟨t, rfl⟩ := rx; rfl)
theorem op_notN : OpR X (compareOp .IsNot) (fun x y H Q => y = .non ∧ Q (.bl (!decide (x = .non))) H) := by
  intro pins s σ H x y v u Q I rx ry h
  obtain ⟨rfl, q⟩ := h
  cases ry
  refine isnot_none_gen (fin_bl I q ?_)
  cases x <;> first
    | (cases rx; rfl)
    | (obtain ⟨t, rfl⟩ := rx; rfl)
/-- a comparison as a value; hm: nomark b, or (for in, not in) by with_unfolding_all rfl -/
theorem pe_cmpR {op : CmpOp} {r : R2} (ho : OpR X (compareOp op) r) (ha : PE X a ta) (hb : PE X b tb) (hm : behindInMarks op b = false) : PE X (.Compare a [op] [b] pos) (tOp r ta tb) := by
  intro pins s σ H Q I h
  exact wpAny_Compare1 (binT ha hb I h fun v u s2 x y H2 I2 rx ry q => ho pins s2 σ H2 x y v u Q I2 rx ry q) hm
/-- a reading of a value as a test -/
noncomputable def tTest (t : TE) : TT := fun σ H Q => t σ H fun x H' => ∃ k, x = .bl k ∧ Q k H'
theorem pt_cmpR {op : CmpOp} {r : R2} (ho : OpR X (compareOp op) r) (ha : PE X a ta) (hb : PE X b tb) (hm : behindInMarks op b = false) : PT X (.Compare a [op] [b] pos) (tTest (tOp r ta tb)) := by
  intro pins s σ H Q I h
  refine wpAny_isTrue_Compare1 (thn (ha pins s σ H _ I h) fun v s1 ⟨x, H1, I1, r1, q1⟩ => thn (hb pins s1 σ H1 _ I1 q1) fun u s2 ⟨y, H2, I2, r2, q2⟩ =>
    thn (ho pins s2 σ H2 x y v u _ I2 r1 r2 q2) fun c s3 ⟨z, H3, I3, r3, k, e, q3⟩ => ?_) hm
  subst e
  cases r3
  exact wpAny_truthy_bool ⟨H3, I3, q3⟩
/-- a op1 b op2 c -/
noncomputable def tChain (r r' : R2) (ta tb tc : TE) : TE := fun σ H Q => ta σ H fun x H1 => tb σ H1 fun y H2 => r x y H2 fun z H3 => ∃ k, z = .bl k ∧
  (if k = true then tc σ H3 fun w' H4 => r' y w' H4 Q else Q (.bl false) H3)
theorem pe_chain {op op' : CmpOp} {r r' : R2} (ho : OpR X (compareOp op) r) (ho' : OpR X (compareOp op') r') (ha : PE X a ta) (hb : PE X b tb) (hc : PE X c tc)
    (hm : lastMarks [op, op'] [b, c] = false := by with_unfolding_all rfl) : PE X (.Compare a [op, op'] [b, c] pos) (tChain r r' ta tb tc) := by
  intro pins s σ H Q I h
  refine Compare_chain (thn (ha pins s σ H _ I h) fun v s1 ⟨x, H1, I1, r1, q1⟩ => chain_link (thn (hb pins s1 σ H1 _ I1 q1) fun u s2 ⟨y, H2, I2, r2, q2⟩ =>
    thn (ho pins s2 σ H2 x y v u _ I2 r1 r2 q2) fun d s3 ⟨z, H3, I3, r3, k, e, q3⟩ => ?_)) hm
  subst e
  cases r3
  refine wpAny_truthy_bool ?_
  cases k with
  | false => exact ite_ff ⟨.bl false, H3, I3, rfl, q3⟩
  | true => exact ite_tt (chain_last (thn (hc pins s3 σ H3 _ I3 q3) fun w' s4 ⟨z', H4, I4, r4, q4⟩ => ho' pins s4 σ H4 y z' u w' Q I4 r2 r4 q4))
theorem pt_chain {op op' : CmpOp} {r r' : R2} (ho : OpR X (compareOp op) r) (ho' : OpR X (compareOp op') r') (ha : PE X a ta) (hb : PE X b tb) (hc : PE X c tc)
    (hm : lastMarks [op, op'] [b, c] = false := by with_unfolding_all rfl) : PT X (.Compare a [op, op'] [b, c] pos) (tTest (tChain r r' ta tb tc)) := by
  intro pins s σ H Q I h
  refine isTrue_chain (thn (ha pins s σ H _ I h) fun v s1 ⟨x, H1, I1, r1, q1⟩ => test_link (thn (hb pins s1 σ H1 _ I1 q1) fun u s2 ⟨y, H2, I2, r2, q2⟩ =>
    thn (ho pins s2 σ H2 x y v u _ I2 r1 r2 q2) fun d s3 ⟨z, H3, I3, r3, k, e, q3⟩ => ?_)) hm
  subst e
  cases r3
  refine wpAny_truthy_bool ?_
  cases k with
  | false =>
    obtain ⟨k', e', q'⟩ := q3
    cases e'
    exact ite_ff ⟨H3, I3, q'⟩
  | true =>
    refine ite_tt (test_last (thn (hc pins s3 σ H3 _ I3 q3) fun w' s4 ⟨z', H4, I4, r4, q4⟩ => thn (ho' pins s4 σ H4 y z' u w' _ I4 r2 r4 q4) fun d' s5 ⟨z2, H5, I5, r5, k2, e2, q5⟩ => ?_))
    subst e2
    cases r5
    exact wpAny_truthy_bool ⟨H5, I5, q5⟩
/-- a value's truth by the abstract heap -/
noncomputable def TruV (K : PySem.W.Frag) (x : V) (H : Hp) (k : Bool) : Prop :=
  match x with
  | .non => k = false
  | .bl b => k = b
  | .int i => k = (i != 0)
  | .str y => y.length ≤ sizeLine ∧ k = ((y.length : Int) != 0)
  | .byt y => y.size ≤ sizeLine ∧ k = ((y.size : Int) != 0)
  | .ref p => (∃ xs, SqL K H p xs ∧ k = !xs.isEmpty) ∨ (∃ xs, SqT K H p xs ∧ k = !xs.isEmpty) ∨ ∃ kvs, H p = some (.dK kvs) ∧ k = !kvs.isEmpty
  | _ => False
theorem isEmpty_kv {κ : Type} {kvs : List (κ × V)} {vs : List (κ × Value)} (r : KV kvs vs) : (!vs.isEmpty) = !kvs.isEmpty := by
  cases r <;> rfl
theorem isEmpty_of {xs : List V} {its : List Value} (r : Vals xs its) : (!its.toArray.isEmpty) = !xs.isEmpty := by
  cases r <;> simp
theorem line63 : (sizeLine : Nat) < 2 ^ 63 := by rw [sizeLine_eq]; decide
theorem tru_ok : TruR X (fun x H Q => ∃ k, TruV X.K x H k ∧ Q k H) := by
  intro pins s σ H x v Q I rx h
  obtain ⟨k, e, q⟩ := h
  have hl := line63
  have hs : sizeLine = 16777216 := sizeLine_eq
  cases x with
  | non =>
    cases rx
    have e' : k = false := e
    subst e'
    exact truthy_none ⟨H, I, q⟩
  | bl b =>
    cases rx
    have e' : k = b := e
    subst e'
    exact wpAny_truthy_bool ⟨H, I, q⟩
  | int i =>
    obtain ⟨t, rfl⟩ := rx
    have e' : k = (i != 0) := e
    subst e'
    exact PySem.P.truthy_int ⟨H, I, q⟩
  | str y =>
    obtain ⟨t, rfl⟩ := rx
    obtain ⟨hy, e'⟩ : y.length ≤ sizeLine ∧ k = ((y.length : Int) != 0) := e
    subst e'
    exact PySem.P.truthy_str (by omega) ⟨H, I.tok _, q⟩
  | byt y =>
    obtain ⟨t, rfl⟩ := rx
    obtain ⟨hy, e'⟩ : y.size ≤ sizeLine ∧ k = ((y.size : Int) != 0) := e
    subst e'
    exact PySem.W.truthy_bytes (by omega) ⟨H, I.tok _, q⟩
  | ref p =>
    cases rx
    have e' : (∃ xs, SqL X.K H p xs ∧ k = !xs.isEmpty) ∨ (∃ xs, SqT X.K H p xs ∧ k = !xs.isEmpty) ∨ ∃ kvs, H p = some (.dK kvs) ∧ k = !kvs.isEmpty := e
    rcases e' with ⟨xs, hx, e'⟩ | ⟨xs, hx, e'⟩ | ⟨kvs, hx, e'⟩
    · subst e'
      obtain ⟨its, r, pl, hz⟩ := I.list hx
      have hlen := r.length
      exact wpAny_truthy_list pl.isList (by simp only [List.size_toArray]; omega) ⟨H, I.tok _, by rw [isEmpty_of r]; exact q⟩
    · subst e'
      obtain ⟨its, r, pl, hz⟩ := I.tuple hx
      have hlen := r.length
      exact truthy_tuple pl (by simp only [List.size_toArray]; omega) ⟨H, I.tok _, by rw [isEmpty_of r]; exact q⟩
    · subst e'
      obtain ⟨hz, hS, vs, r, m⟩ : kvs.length ≤ sizeLine ∧ (p == sysModules) = false ∧ ∃ vs, KV kvs vs ∧ s.heap.DictOf (mixKind X.prog X.w) p vs := I.hok p _ hx
      have hlen : kvs.length = vs.length := Paired.length r
      exact wpAny_truthy_dict hS m (by omega) ⟨H, I.tok _, by rw [isEmpty_kv r]; exact q⟩
  | _ => exact (show False from e).elim
/-- any expression whose test is its value's truth (a name, a call, a subscript, a field ..: he by fun _ => rfl) -/
theorem pt_truth (ha : PE X a ta) (he : ∀ whole, isTrue a X.env whole = (do let v ← whole; standAt a.pos; holding [v] (truthy v))) :
    PT X a (fun σ H Q => ta σ H fun x H' => ∃ k, TruV X.K x H' k ∧ Q k H') := by
  intro pins s σ H Q I h
  exact isTrue_plain (thn (ha pins s σ H _ I h) fun v s1 ⟨x, H1, I1, r1, q1⟩ => tru_ok pins s1 σ H1 x v Q I1 r1 q1) (he _)
theorem op_add_str : OpR X (binaryOp .Add) (fun x y H Q => ∃ i j, x = .str i ∧ y = .str j ∧ i.length + j.length ≤ sizeLine ∧ Q (.str (i ++ j)) H) := by
  intro pins s σ H x y v u Q I rx ry h
  obtain ⟨i, j, rfl, rfl, hz, q⟩ := h
  obtain ⟨t, rfl⟩ := rx
  obtain ⟨t', rfl⟩ := ry
  exact add_str (fun t' tk => ⟨.str (i ++ j), H, I.tok _, ⟨_, rfl⟩, q⟩) hz
theorem vals1 {x : V} {us : List Value} (r : Vals [x] us) : ∃ u, us = [u] ∧ RelV x u := by
  cases r with
  | cons r1 r2 => cases r2; exact ⟨_, rfl, r1⟩
theorem vals2 {x y : V} {us : List Value} (r : Vals [x, y] us) : ∃ u w', us = [u, w'] ∧ RelV x u ∧ RelV y w' := by
  cases r with
  | cons r1 r2 =>
    cases r2 with
    | cons r3 r4 => cases r4; exact ⟨_, _, rfl, r1, r3⟩
theorem call_abs : CallR X (.builtin "abs") (fun xs H Q => ∃ i, xs = [.int i] ∧ Q (.int (if i < 0 then -i else i)) H) := by
  intro pins s σ H xs us Q I r h
  obtain ⟨i, rfl, q⟩ := h
  obtain ⟨u, rfl, t, rfl⟩ := vals1 r
  exact call_abs_int fun u tk => ⟨.int (if i < 0 then -i else i), H, I.tok _, ⟨_, rfl⟩, q⟩
theorem call_max2 (hc : X.calm = true) : CallR X (.builtin "max") (fun xs H Q => ∃ i j, xs = [.int i, .int j] ∧ Q (.int (if j > i then j else i)) H) := by
  intro pins s σ H xs us Q I r h
  obtain ⟨i, j, rfl, q⟩ := h
  obtain ⟨u, w', rfl, ⟨t, rfl⟩, ⟨t', rfl⟩⟩ := vals2 r
  refine max_two_ints (I.ok.hd hc) fun h' tk k => ⟨_, H, I.kept k, ?_, q⟩
  by_cases hj : j > i
  · rw [if_pos hj, if_pos hj]; exact ⟨_, rfl⟩
  · rw [if_neg hj, if_neg hj]; exact ⟨_, rfl⟩
theorem call_min2 (hc : X.calm = true) : CallR X (.builtin "min") (fun xs H Q => ∃ i j, xs = [.int i, .int j] ∧ Q (.int (if j < i then j else i)) H) := by
  intro pins s σ H xs us Q I r h
  obtain ⟨i, j, rfl, q⟩ := h
  obtain ⟨u, w', rfl, ⟨t, rfl⟩, ⟨t', rfl⟩⟩ := vals2 r
  refine min_two_ints (I.ok.hd hc) fun h' tk k => ⟨_, H, I.kept k, ?_, q⟩
  by_cases hj : j < i
  · rw [if_pos hj, if_pos hj]; exact ⟨_, rfl⟩
  · rw [if_neg hj, if_neg hj]; exact ⟨_, rfl⟩
theorem call_int1 : CallR X (.type "int") (fun xs H Q => (∃ i, xs = [.int i] ∧ Q (.int i) H) ∨ ∃ k, xs = [.bl k] ∧ Q (.int (if k then 1 else 0)) H) := by
  intro pins s σ H xs us Q I r h
  rcases h with ⟨i, rfl, q⟩ | ⟨k, rfl, q⟩
  · obtain ⟨u, rfl, t, rfl⟩ := vals1 r
    exact call_int_int ⟨.int i, H, I, ⟨_, rfl⟩, q⟩
  · obtain ⟨u, rfl, r1⟩ := vals1 r
    cases r1
    exact call_int_bool ⟨.int (if k then 1 else 0), H, I.tok _, ⟨_, rfl⟩, q⟩
/-- divmod: a new tuple -/
theorem call_divmod : CallR X (.builtin "divmod") (fun xs H Q => ∃ i j, xs = [.int i, .int j] ∧ CDiv i j ∧ ∀ p, H p = none → Q (.ref p) (upd H p (.tup [.int (i / j), .int (i % j)]))) := by
  intro pins s σ H xs us Q I r h
  obtain ⟨i, j, rfl, ⟨h1, h2⟩, q⟩ := h
  obtain ⟨u, w', rfl, ⟨t, rfl⟩, ⟨t', rfl⟩⟩ := vals2 r
  refine divmod_int (by omega) ?_ (.inl (PyProof.noPylong_small (by omega)))
  rw [Int.fdiv_eq_ediv_of_nonneg i (by omega), Int.fmod_eq_emod_of_nonneg i (by omega)]
  have hn : H s.heap.objs.size = none := I.hok.fresh (Nat.le_refl _)
  refine ⟨.ref s.heap.objs.size, _, ?_, rfl, q _ hn⟩
  refine I.laid (fun b o e => Heap.get?_push_of_some _ e) (Nat.le_refl _) ⟨by simp only [List.length_cons, List.length_nil]; rw [sizeLine_eq]; decide, [.int (i / j) s.toks, .int (i % j) (s.toks + 1)], .cons ⟨_, rfl⟩ (.cons ⟨_, rfl⟩ .nil), ?_⟩
  exact ⟨_, Heap.get?_push_size s.heap rfl, rfl, 0, rfl⟩
end
end L2
namespace L2
open PySem PySem.Spec PyProof.Rows
structure ObjM (h : Heap) (x dx C : Addr) (mA : Str → Option Value) : Prop where
  obj : h.get? x = some (PySem.W.instObj C dx)
  ns : h.Ns1 dx mA
  ne : dx ≠ x
theorem lookIn_ns {h : Heap} {dx : Addr} {mA : Str → Option Value} (n : h.Ns1 dx mA) : ∃ od, h.get? dx = some od ∧ ∀ name, PySem.W.lookIn name od = some (mA name) := by
  obtain ⟨o, es, ep, ho, hd, hk, _, hm⟩ := n
  refine ⟨o, ho, fun name => ?_⟩
  have e := hm name
  unfold nsFind findBy at e
  rw [← Array.find?_toList] at e
  unfold PySem.W.lookIn
  rw [hd]
  dsimp only
  split
  · rename_i y q
    rw [q] at e
    exact congrArg some e
  · rename_i q
    rw [q] at e
    have a : es.toList.any (·.refKey) = false := by
      rw [List.any_eq_false]
      intro y hy
      obtain ⟨z, t, hkey⟩ := hk y (Array.mem_toList_iff.mp hy)
      simp [DictEntry.refKey, hkey]
    have a' : ¬ es.toList.any (·.refKey) = true := by rw [a]; exact Bool.false_ne_true
    rw [if_neg a']
    exact congrArg some e
theorem ObjM.look {h : Heap} {x dx C : Addr} {mA : Str → Option Value} (I : ObjM h x dx C mA) : ∃ od, PySem.W.InstAt h x (PySem.W.instObj C dx) C (some od) ∧ ∀ name, PySem.W.lookIn name od = some (mA name) :=
  let ⟨od, ho, hl⟩ := lookIn_ns I.ns
  ⟨od, ⟨I.obj, rfl, rfl, ho⟩, hl⟩
section
variable {prog : Program} {w : World} {A : Around} {E : Value → Shared → Prop} {s : Shared} {K : PySem.W.Frag} {x dx C f : Addr} {mA : Str → Option Value} {name : Str} {v : Value}
end
theorem RelO.some_of {v : V} {o : Option Value} (r : RelO (some v) o) : ∃ u, o = some u ∧ RelV v u := by
  cases o with
  | none => exact (show False from r).elim
  | some u => exact ⟨u, rfl, r⟩
theorem RelO.none_of {o : Option Value} (r : RelO none o) : o = none := by
  cases o with
  | none => rfl
  | some u => exact (show False from r).elim
section
variable {P : Program} {w : World} {H H' : Hp} {h h' : Heap} {a C dx : Addr} {fs fs' : List (Str × V)}
theorem ins_get (hok : HOk P w H h) (e : H a = some (.ins C dx fs)) : ∃ mA, ObjM h a dx C mA ∧ (∀ f, RelO (fs.lookup f) (mA f)) ∧ PySem.Within mA (fs.map (·.1)) ∧ fs.length ≤ 1000 ∧ H dx = some (.own a) := by
  obtain ⟨d, z, ne, ob, mA, n, r, q⟩ := (show ObjOk P w H h a (.ins C dx fs) from hok a _ e)
  exact ⟨mA, ⟨ob, n, ne⟩, r, q, z, d⟩
end
structure Cls (K : PySem.W.Frag) (C : Addr) : Prop where
  pg : PySem.W.plainGet K C Str.empty = true
  hd : PySem.W.hasDictIn K C = true
  po : PySem.W.plainOver K C = true
  sa : PySem.W.findIn K (.ref C) "__setattr__" = some (some (.builtin "object.__setattr__"))
theorem Cls.get {K : PySem.W.Frag} {C : Addr} (c : Cls K C) (f : Str) : PySem.W.plainGet K C f = true := c.pg
section
variable {X : Cx} {pins : List (Addr × Obj)} {σ : St} {H : Hp} {s : Shared} {a C dx : Addr} {fs : List (Str × V)} {f : Str} {v : V} {A : Around} {E : Value → Shared → Prop}
end
section
variable {X : Cx} {o e value : Expr} {f : Str} {pos pos' tpos : Pos} {ta tv : TE}
end
section
variable {X : Cx} {pins : List (Addr × Obj)} {σ : St} {H : Hp} {s : Shared} {A : Around} {E : Value → Shared → Prop} {Q : Value → Shared → Prop} {c : Value} {b : Bool}
/-- the type of a value, as the fragment's deciders take it; for an instance its class -/
inductive TyOf (K : PySem.W.Frag) (H : Hp) : V → Value → Prop where
  | non : TyOf K H .non (.type "NoneType")
  | bl (x : Bool) : TyOf K H (.bl x) (.type "bool")
  | int (i : Int) : TyOf K H (.int i) (.type "int")
  | str (x : Str) : TyOf K H (.str x) (.type "str")
  | flt (x : UInt64) : TyOf K H (.flt x) (.type "float")
  | lst {a : Addr} {xs : List V} (e : H a = some (.lst xs)) : TyOf K H (.ref a) (.type "list")
  | frz {a : Addr} {o : Obj} {xs : List V} (e : H a = some (.frz o (.lst xs))) : TyOf K H (.ref a) (.type "list")
  | tup {a : Addr} {xs : List V} (e : H a = some (.tup xs)) : TyOf K H (.ref a) (.type "tuple")
  | dK {a : Addr} {kvs : List (Key × V)} (e : H a = some (.dK kvs)) : TyOf K H (.ref a) (.type "dict")
  | dT {a : Addr} {kvs : List (List Key × V)} (e : H a = some (.dT kvs)) : TyOf K H (.ref a) (.type "dict")
  | ins {a C dx : Addr} {fs : List (Str × V)} (e : H a = some (.ins C dx fs)) (cl : Cls K C) (ha : PySem.W.findIn K (.ref C) "__class__" = some (some (.builtin "object.__class__")))
      (hn : PySem.W.specialIn K (.builtin "object.__class__") "__get__" = some (some (.builtin "getset_descriptor.__get__"))) (htk : PySem.W.takesIn K (.builtin "object.__class__") = some true)
      (hm : PySem.W.mroIn K C (.type "object") = some true) : TyOf K H (.ref a) (.ref C)
/-- isinstance(x, c) for one class c, a built-in or an own one: kitOne's answer -/
theorem isinst_ok {x : V} {u t : Value} (I : Inv X pins σ H s) (rx : RelV x u) (ty : TyOf X.K H x t) (e : PySem.W.kitOne X.K t c = some b) (h : ∀ tk, Q (.bool b) { s with toks := tk }) :
    wpAny (model X.prog X.w) A (call (.builtin "isinstance") [u, c]) Q E s := by
  cases ty with
  | non => cases (show u = Value.none from rx); exact PySem.W.kia_one PySem.W.kitx_none I.kIn True.intro e (fun z => nomatch z) h
  | bl y => cases (show u = Value.bool y from rx); exact PySem.W.kia_one PySem.W.kitx_bool I.kIn True.intro e (fun z => nomatch z) h
  | int i => obtain ⟨t, q⟩ := (show ∃ t, u = Value.int i t from rx); cases q; exact PySem.W.kia_one PySem.W.kitx_int I.kIn True.intro e (fun z => nomatch z) h
  | str y => obtain ⟨t, q⟩ := (show ∃ t, u = Value.str y t from rx); cases q; exact PySem.W.kia_one PySem.W.kitx_str I.kIn True.intro e (fun z => nomatch z) h
  | flt y => obtain ⟨t, q⟩ := (show ∃ t, u = Value.float y t from rx); cases q; exact PySem.W.kia_one PySem.W.kitx_float I.kIn True.intro e (fun z => nomatch z) h
  | @lst a xs ea =>
    cases (show u = Value.ref a from rx)
    obtain ⟨_, _, n, _, h1⟩ := (show ObjOk X.prog X.w H s.heap a (.lst xs) from I.hok a _ ea)
    exact PySem.W.kia_one PySem.W.kitx_list I.kIn ⟨_, h1, rfl⟩ e (fun z => nomatch z) h
  | @frz a ob xs ea =>
    cases (show u = Value.ref a from rx)
    obtain ⟨_, _, _, n, _, h1⟩ := (show ObjOk X.prog X.w H s.heap a (.frz ob (.lst xs)) from I.hok a _ ea)
    exact PySem.W.kia_one PySem.W.kitx_list I.kIn ⟨_, h1, rfl⟩ e (fun z => nomatch z) h
  | @tup a xs ea =>
    cases (show u = Value.ref a from rx)
    obtain ⟨_, _, _, p⟩ := (show ObjOk X.prog X.w H s.heap a (.tup xs) from I.hok a _ ea)
    obtain ⟨o, h1, h2, _⟩ := p
    exact PySem.W.kia_one PySem.W.kitx_tuple I.kIn ⟨o, h1, h2⟩ e (fun z => nomatch z) h
  | @dK a kvs ea =>
    cases (show u = Value.ref a from rx)
    obtain ⟨_, _, vs, _, p⟩ := (show ObjOk X.prog X.w H s.heap a (.dK kvs) from I.hok a _ ea)
    obtain ⟨o, es, ep, h1, h2, _⟩ := p
    exact PySem.W.kia_one PySem.W.kitx_dict I.kIn ⟨o, h1, h2.1⟩ e (fun z => nomatch z) h
  | @dT a kvs ea =>
    cases (show u = Value.ref a from rx)
    obtain ⟨_, _, xs, _, o, es, ep, h1, h2, _⟩ := (show ObjOk X.prog X.w H s.heap a (.dT kvs) from I.hok a _ ea)
    exact PySem.W.kia_one PySem.W.kitx_dict I.kIn ⟨o, h1, h2.1⟩ e (fun z => nomatch z) h
  | @ins a C dx fs ea cl ha hn htk hm =>
    cases (show u = Value.ref a from rx)
    obtain ⟨mA, O, _⟩ := ins_get I.hok ea
    obtain ⟨od, J, _⟩ := O.look
    exact PySem.W.kia_one (PySem.W.kitx_own (cl.get _) cl.hd ha hn htk hm) I.kIn J e (fun z => nomatch z) h
end
end L2
namespace L2
open PySem PySem.Spec PyProof.Rows
structure Room (k : Nat) (A : Around) : Prop where
  hd : A.handled = none
  dp : A.depth + 3 * k + 5 < recursionLimit
  un : A.units + 16 * k + 200 < cLine
theorem Room.deeper {k : Nat} {A : Around} (r : Room (k + 1) A) (env : Env) : Room k (A.deeper env) :=
  ⟨r.hd, by have := r.dp; show A.depth + 1 + 3 * k + 5 < _; omega, by have := r.un; show A.units + 3 + 16 * k + 200 < _; omega⟩
theorem Room.depth {k : Nat} {A : Around} (r : Room k A) : A.depth < recursionLimit := by have := r.dp; omega
noncomputable def tNil : TA := fun _ H Q => Q [] H
noncomputable def tCons (ta : TE) (tr : TA) : TA := fun σ H Q => ta σ H fun x H1 => tr σ H1 fun xs H2 => Q (x :: xs) H2
section
variable {X : Cx} {e : Expr} {es : List Expr} {te : TE} {t : TA} {pos : Pos}
theorem pa_nil : PA X [] tNil := fun _ _ _ _ H Q I h => Calls.spliced_nil ⟨[], H, I, .nil, h⟩
theorem pa_cons (ha : PE X e te) (hr : PA X es t) (hs : starEach (e :: es) X.env = (false, eval e X.env) :: starEach es X.env := by rfl) : PA X (e :: es) (tCons te t) := by
  intro pos pins s σ H Q I h
  rw [hs]
  show wpAny _ _ (spliced ((false, eval e X.env) :: backTo pos (starEach es X.env))) _ _ s
  refine Calls.spliced_cons (thn (ha pins s σ H _ I h) fun u s1 ⟨x, H1, I1, r1, q1⟩ => ?_)
  exact thn (hr pos pins s1 σ H1 _ I1 q1) fun us s2 ⟨xs, H2, I2, r2, q2⟩ => ⟨x :: xs, H2, I2, .cons r1 r2, q2⟩
/-- a tuple, a list of written items -/
noncomputable def tTup (t : TA) : TE := fun σ H Q => t σ H fun xs H1 => xs.length ≤ sizeLine ∧ ∀ p, H1 p = none → Q (.ref p) (upd H1 p (.tup xs))
noncomputable def tLst (t : TA) : TE := fun σ H Q => t σ H fun xs H1 => xs.length ≤ sizeLine ∧ ∀ p, H1 p = none → Q (.ref p) (upd H1 p (.lst xs))
theorem pe_tup {x1} (h : PA X es t) : PE X (.Tuple es x1 pos) (tTup t) := by
  intro pins s σ H Q I hq
  refine wpAny_Tuple_spliced (thn (h pos pins s σ H _ I hq) fun us s1 ⟨xs, H1, I1, r, z, q⟩ => ⟨by rw [← r.length]; exact z, ?_⟩)
  have hf : H1 s1.heap.objs.size = none := I1.hok.fresh (Nat.le_refl _)
  refine ⟨.ref s1.heap.objs.size, upd H1 s1.heap.objs.size (.tup xs), I1.laid (t' := s1.toks) (fun b u e => Heap.get?_push_of_some _ e) (Nat.le_refl _) ?_, rfl, q _ hf⟩
  exact ⟨z, us, r, ⟨_, Heap.get?_push_size _ rfl, rfl, _, rfl⟩⟩
theorem pe_lst (h : PA X es t) : PE X (.List es pos) (tLst t) := by
  intro pins s σ H Q I hq
  refine wpAny_List_spliced (thn (h pos pins s σ H _ I hq) fun us s1 ⟨xs, H1, I1, r, z, q⟩ => ⟨by rw [← r.length]; exact z, ?_⟩)
  have hf : H1 s1.heap.objs.size = none := I1.hok.fresh (Nat.le_refl _)
  refine ⟨.ref s1.heap.objs.size, upd H1 s1.heap.objs.size (.lst xs), I1.laid (t' := s1.toks) (fun b u e => Heap.get?_push_of_some _ e) (Nat.le_refl _) ?_, rfl, q _ hf⟩
  exact ⟨z, us, 0, r, Heap.get?_push_size _ rfl⟩
end
/-- a def's promise: the bound arguments in the parameters' order, the heap, the wanted end, the wanted exception -/
noncomputable abbrev Sp := List V → Hp → VK → XK → Prop
/-- how an exception lies behind a call (file 08 gives it): the callers' frames, abstract heap and state ahead of the call, the wish, the exception, the state -/
noncomputable abbrev CXT := List Env → Hp → Shared → XK → Value → Shared → Prop
/-- the state at a call -/
structure Env0 (P : Program) (w : World) (K : PySem.W.Frag) (mg : Str → Option Value) (base : Heap) (A : Around) (outer : List Env) (s : Shared) (H : Hp) : Prop where
  frames : A.frames = some outer
  mod : Mod K mg base
  bs : ∀ b o, base.get? b = some o → s.heap.get? b = some o ∧ H b = none
  bsz : base.objs.size ≤ s.heap.objs.size
  funs : s.heap.FunFrames base outer
  frf : ∀ b ∈ frs outer, H b = none
  hok : HOk P w H s.heap
  bare : AllBare s.gens
/-- a call's end -/
noncomputable def CE (outer : List Env) (P : Program) (w : World) (H : Hp) (s : Shared) (Q : VK) (u : Value) (s' : Shared) : Prop :=
  ∃ v H', s'.os = s.os ∧ AllBare s'.gens ∧ Un (frs outer) [] H H' s.heap s'.heap ∧ HOk P w H' s'.heap ∧ RelV v u ∧ Q v H'
noncomputable def CR (CX : CXT) (outer : List Env) (P : Program) (w : World) (H : Hp) (s : Shared) (Q : VK) (E : XK) (r : Result) (s' : Shared) : Prop :=
  match r with
  | .ok (.ret u) => CE outer P w H s Q u s'
  | .ok _ => False
  | .error e => CX outer H s E e s'
structure FnOk (P : Program) (w : World) (K : PySem.W.Frag) (mg : Str → Option Value) (base : Heap) (CX : CXT) (k : Nat) (f : Addr) (fd : FuncData) (ps : List Str) (sp : Sp) : Prop where
  len : ∀ vs H Q E, sp vs H Q E → vs.length = ps.length
  run : ∀ (A : Around) (outer : List Env) (s : Shared) (H : Hp) (args : Args) (us : List Value) (vs : List V) (Q : VK) (E : XK), Room k A → Env0 P w K mg base A outer s H → BindsTo s fd args (ps.zip us) → Vals vs us → sp vs H Q E →
    codeAny (model P w) A (.call (.ref f) args) (CR CX outer P w H s Q E) s
/-- a weaker promise -/
theorem FnOk.imp {P : Program} {w : World} {K : PySem.W.Frag} {mg : Str → Option Value} {base : Heap} {CX : CXT} {k : Nat} {f : Addr} {fd : FuncData} {ps : List Str} {sp sp' : Sp} (F : FnOk P w K mg base CX k f fd ps sp)
    (h : ∀ vs H Q E, sp' vs H Q E → sp vs H Q E) : FnOk P w K mg base CX k f fd ps sp' :=
  ⟨fun vs H Q E q => F.len vs H Q E (h _ _ _ _ q), fun A outer s H args us vs Q E hr he hb hv hs => F.run A outer s H args us vs Q E hr he hb hv (h _ _ _ _ hs)⟩
section
variable {X : Cx} {pins : List (Addr × Obj)} {σ : St} {H : Hp} {s s' : Shared}
/-- from a body: what a callee wants -/
theorem Inv.env0 (I : Inv X pins σ H s) : Env0 X.prog X.w X.K X.mg X.base X.A X.stack s H :=
  ⟨I.ok.frames, I.ok.mod, I.bs, Nat.le_trans I.ok.bsz I.sz, I.stack, I.stkFree, I.hok, I.bare⟩
/-- behind a call -/
theorem Inv.after {Q : VK} {u : Value} (I : Inv X pins σ H s) (h : CE X.stack X.prog X.w H s Q u s') : EP X pins σ Q u s' := by
  obtain ⟨v, H', os, bare, un, hok, r, q⟩ := h
  obtain ⟨hh, g, d, t, os'⟩ := s'
  obtain rfl : os' = s.os := os
  exact ⟨v, H', I.call (h' := hh) (g' := g) (d' := d) (t' := t) (ch := []) un hok bare (fun b z => absurd z (by simp)), r, q⟩
end
/-- how the parameters are bound: us the positional arguments, kw the keywords' values by name, ds the defaults that fill up -/
noncomputable def Binds (K : PySem.W.Frag) (fd : FuncData) (ps : List Str) (ds : List Value) : Prop :=
  ∀ (s : Shared) (us : List Value), K.In s.heap → (us ++ ds).length = ps.length → BindsTo s fd ⟨us, []⟩ (ps.zip (us ++ ds))
/-- every parameter is given -/
theorem Binds.all {K : PySem.W.Frag} {fd : FuncData} {ps : List Str} (h : ∀ us : List Value, us.length = ps.length → bindArgs fd ⟨us, []⟩ = pure (ps.zip us)) : Binds K fd ps [] := fun s us _ hl => by
  rw [List.append_nil] at hl ⊢
  exact .of_eq (h us hl)
section
variable {X : Cx} {CX : CXT} {k : Nat} {f C : Addr} {fd : FuncData} {ps : List Str} {sp : Sp} {dvs : List V} {ds : List Value} {E : XK} {x m : Str} {p pos apos : Pos} {e o : Expr} {es : List Expr} {ta : TE} {t : TA}
end
section
variable {X : Cx} {CX : CXT} {k : Nat} {f C : Addr} {fd : FuncData} {ps ks : List Str} {sp : Sp} {E : XK} {x m : Str} {p pos apos kpos : Pos} {e o : Expr} {es : List Expr} {kws : List Keyword} {te ta : TE} {t tk : TA} {nm : Option Str}
variable {g : List Value → List Value → List Value} {gV : List V → List V → List V}
end
/-- names: the parameters first -/
structure FnScope (N P : List Str) (sc : Scope) : Prop where
  kind : sc.kind = .function
  co : sc.isCoroutine = false
  gen : sc.isGenerator = false
  nd : N.Nodup
  pre : N.take P.length = P
  par : ∀ x ∈ P, sc.names.lookup x = some .local ∨ sc.names.lookup x = some .cell
  nofree : ∀ y ∈ sc.names, y.2 ≠ .free
theorem bindL_out {kindOf : Str → Option NameKind} {x : Str} : ∀ {binds : List (Str × Value)} {m : Str → Option Value}, (∀ v, (x, v) ∉ binds) → bindL kindOf binds m x = m x
  | [], _, _ => rfl
  | (n, v) :: r, m, h => by
    unfold bindL
    rw [bindL_out fun w hw => h w (List.mem_cons_of_mem _ hw)]
    split
    · have : x ≠ n := by rintro rfl; exact h v List.mem_cons_self
      simp [this]
    · rfl
theorem bindC_out {kindOf : Str → Option NameKind} {x : Str} : ∀ {binds : List (Str × Value)} {m : Str → Option Value}, (∀ v, (x, v) ∉ binds) → bindC kindOf binds m x = m x
  | [], _, _ => rfl
  | (n, v) :: r, m, h => by
    unfold bindC
    rw [bindC_out fun w hw => h w (List.mem_cons_of_mem _ hw)]
    split
    · rfl
    · have : x ≠ n := by rintro rfl; exact h v List.mem_cons_self
      simp [this]
theorem bindL_get {kindOf : Str → Option NameKind} {x : Str} {v : Value} : ∀ {P : List Str} {vs : List Value} {i : Nat} {m : Str → Option Value}, P.Nodup → P[i]? = some x → vs[i]? = some v → kindOf x = some .local →
    bindL kindOf (P.zip vs) m x = some v
  | [], _, _, _, _, h, _, _ => by simp at h
  | _ :: _, [], _, _, _, _, h, _ => by simp at h
  | p :: P, w :: vs, 0, m, nd, h1, h2, hk => by
    simp at h1 h2; subst h1; subst h2
    show bindL kindOf ((p, w) :: P.zip vs) m p = _
    unfold bindL
    rw [bindL_out fun v hv => (List.nodup_cons.mp nd).1 (List.of_mem_zip hv).1, if_pos hk]
    simp
  | p :: P, w :: vs, i + 1, m, nd, h1, h2, hk => by
    show bindL kindOf ((p, w) :: P.zip vs) m x = _
    unfold bindL
    exact bindL_get (i := i) (List.nodup_cons.mp nd).2 (by simpa using h1) (by simpa using h2) hk
theorem bindC_get {kindOf : Str → Option NameKind} {x : Str} {v : Value} : ∀ {P : List Str} {vs : List Value} {i : Nat} {m : Str → Option Value}, P.Nodup → P[i]? = some x → vs[i]? = some v → kindOf x ≠ some .local →
    bindC kindOf (P.zip vs) m x = some v
  | [], _, _, _, _, h, _, _ => by simp at h
  | _ :: _, [], _, _, _, _, h, _ => by simp at h
  | p :: P, w :: vs, 0, m, nd, h1, h2, hk => by
    simp at h1 h2; subst h1; subst h2
    show bindC kindOf ((p, w) :: P.zip vs) m p = _
    unfold bindC
    rw [bindC_out fun v hv => (List.nodup_cons.mp nd).1 (List.of_mem_zip hv).1, if_neg hk]
    simp
  | p :: P, w :: vs, i + 1, m, nd, h1, h2, hk => by
    show bindC kindOf ((p, w) :: P.zip vs) m x = _
    unfold bindC
    exact bindC_get (i := i) (List.nodup_cons.mp nd).2 (by simpa using h1) (by simpa using h2) hk
/-- the names' values at the entry -/
noncomputable def start (N : List Str) (vs : List V) : St := vs.map some ++ List.replicate (N.length - vs.length) none
/-- the context of a def's body, at its entry; an exception leaves the frame, then lies as CX says -/
noncomputable def cxOf (CX : CXT) (P : Program) (w : World) (K : PySem.W.Frag) (mg : Str → Option Value) (base : Heap) (N : List Str) (qual : Str) (scope : Scope) (f : Addr) (cd : Value) (A : Around) (outer : List Env) (s : Shared) (H : Hp) (E : XK) : Cx where
  prog := P
  w := w
  K := K
  mg := mg
  base := base
  A := A.deeper (envOfC qual scope s.heap.objs.size f cd)
  N := N
  s₀ := s
  H₀ := H
  env := envOfC qual scope s.heap.objs.size f cd
  outer := outer
  stack := envOfC qual scope s.heap.objs.size f cd :: outer
  ex := []
  calm := true
  fn := fun _ => true
  pn := []
  xe := fun e s' => wpAny (model P w) (A.deeper (envOfC qual scope s.heap.objs.size f cd)) (leaving (envOfC qual scope s.heap.objs.size f cd) e) (fun _ s'' => CX outer H s E e s'') (fun e' s'' => CX outer H s E e' s'') s'
theorem cell_has {sc : Scope} {n : Nat} {x : Str} (h : sc.names.lookup x = some .cell) : ∃ c, (cellsFrom n sc.names []).lookup x = some c := by
  have q := PySem.W.cellsFrom_some sc.names n [] (.inl h)
  exact Option.isSome_iff_exists.mp q
theorem inv_start {CX : CXT} {P : Program} {w : World} {K : PySem.W.Frag} {mg : Str → Option Value} {base : Heap} {N ps : List Str} {qual : Str} {scope : Scope} {f : Addr} {cd : Value} {A : Around} {outer : List Env} {s s1 : Shared} {H : Hp} {E : XK} {us : List Value} {vs : List V}
    (S : FnScope N ps scope) (hd : A.handled = none) (e0 : Env0 P w K mg base A outer s H) (hl : vs.length = ps.length) (r : Vals vs us)
    (x : InCallC s s.heap.objs.size (bindL (envOfC qual scope s.heap.objs.size f cd).kindOf (ps.zip us) fun _ => none) (cellsFrom (s.heap.objs.size + 1) scope.names []) (bindC (envOfC qual scope s.heap.objs.size f cd).kindOf (ps.zip us) fun _ => none) s1) :
    Inv (cxOf CX P w K mg base N qual scope f cd A outer s H E) [] (start N vs) H s1 := by
  have hpl : ps.length ≤ N.length := by have := congrArg List.length S.pre; rw [List.length_take] at this; omega
  obtain ⟨h1, tk, rfl, hk⟩ := x.done
  have noA : ∀ b : Addr, b ∉ (cxOf CX P w K mg base N qual scope f cd A outer s H E).ex := fun b z => absurd (show b ∈ ([] : List Addr) from z) (by simp)
  refine ⟨⟨e0.mod, S.kind, rfl, rfl, Nat.le_refl _, fun y z c h1 h2 => ?_, fun y hy => ?_, fun y c _ h => ?_, fun _ => hd, Around.frames_deeper e0.frames, .inr ⟨rfl, rfl⟩, fun b z => absurd z (noA b), e0.bs, e0.bsz, fun b _ _ => noA b, fun b z => absurd z (noA b), e0.funs, e0.frf⟩,
    rfl, e0.bare, Un.kept hk, ⟨_, x.toInCall.ns, fun i y v h1 h2 h3 => ?_⟩, fun y c h => ⟨_, x.cell y c h⟩, e0.hok.fresh (Nat.le_refl _), fun y c h => ?_, fun p hp => absurd (show p ∈ ([] : List (Addr × Obj)) from hp) (by simp), e0.hok.kept hk, ?_⟩
  · exact name_of_addr x.apart (PySem.mem_of_lookup h1) (PySem.mem_of_lookup h2)
  · have hy : scope.names.lookup y = some .cell ∨ scope.names.lookup y = some .free := hy
    rcases hy with hy | hy
    · exact cell_has hy
    · exact absurd rfl (S.nofree _ (PySem.mem_of_lookup hy))
  · exact Nat.le_of_lt (x.above y c (PySem.mem_of_lookup h))
  · have hi : i < vs.length := by
      unfold start at h2
      by_cases hi : i < vs.length
      · exact hi
      · rw [List.getElem?_append_right (by simpa using hi)] at h2
        rw [List.getElem?_replicate] at h2
        split at h2 <;> cases h2
    have ha : vs[i]? = some v := by
      unfold start at h2
      rw [List.getElem?_append_left (by simpa using hi), List.getElem?_map] at h2
      cases e : vs[i]? with
      | none => rw [e] at h2; cases h2
      | some a => rw [e] at h2; cases h2; rfl
    obtain ⟨u, hu, rv⟩ := r.get ha
    have hp : ps[i]? = some y := by
      rw [← S.pre, List.getElem?_take_of_lt (by omega)]; exact h1
    have ndP : ps.Nodup := by rw [← S.pre]; exact S.nd.sublist (List.take_sublist _ _)
    refine ⟨u, rv, ?_⟩
    rcases S.par y (List.mem_of_getElem? hp) with k | k
    · exact .inl ⟨k, bindL_get ndP hp hu k⟩
    · obtain ⟨c, e⟩ := cell_has (n := s.heap.objs.size + 1) k
      refine .inr ⟨.inl k, c, e, ?_⟩
      have q := x.cell y c e
      rw [bindC_get ndP hp hu (by show scope.names.lookup y ≠ _; rw [k]; decide)] at q
      exact q
  · exact e0.hok.fresh (Nat.le_of_lt (x.above y c (PySem.mem_of_lookup h)))
  · unfold start
    show _ = N.length
    rw [List.length_append, List.length_map, List.length_replicate]
    omega
/-- THE RULE: a def (or a method) of the text, by its body. The body's reading t is chosen for each entry; it is run at the parameters' values -/
theorem fn_of {CX : CXT} {P : Program} {w : World} {K : PySem.W.Frag} {mg : Str → Option Value} {base : Heap} {k : Nat} {f : Addr} {name qual : Str} {params : Arguments} {body : List Stmt} {scope : Scope} {dV kV doc pm cdv ct oc : Value} {an od : Option Addr}
    {osl : Array (Option Value)} {N ps : List Str} {sp : Sp} (lk : K.lookup f = some ⟨oc, od, .func (PySem.W.fnOf name qual params body scope dV kV doc pm an cdv ct), osl⟩) (hcd : PySem.W.codeIn K cdv qual = true) (S : FnScope N ps scope)
    (len : ∀ vs H Q E, sp vs H Q E → vs.length = ps.length)
    (hbody : ∀ (A : Around) (outer : List Env) (s : Shared) (H : Hp) (vs : List V) (Q : VK) (E : XK), Room k (A.deeper (envOfC qual scope s.heap.objs.size f cdv)) → sp vs H Q E →
      ∃ t, PSs (cxOf CX P w K mg base N qual scope f cdv A outer s H E) body t ∧ t { nx := fun _ H' => Q .non H', rt := Q } (start N vs) H) :
    FnOk P w K mg base CX (k + 1) f (PySem.W.fnOf name qual params body scope dV kV doc pm an cdv ct) ps sp := by
  refine ⟨len, fun A outer s H args us vs Q E hr e0 hb r hsp => ?_⟩
  have hl := len _ _ _ _ hsp
  have KX : K.In s.heap := e0.mod.kin.keeps fun b o e => (e0.bs b o e).1
  have lim : s.heap.NoLimit := e0.mod.nolimit.keeps fun b o e => (e0.bs b o e).1
  have hkind : ∀ y ∈ ps.zip us, scope.names.lookup y.1 = some .local ∨ (scope.names.lookup y.1 = some .cell ∧ ((cellsFrom (s.heap.objs.size + 1) scope.names []).lookup y.1).isSome = true) := fun ⟨n, v⟩ hy => by
    rcases S.par n (List.of_mem_zip hy).1 with q | q
    · exact .inl q
    · exact .inr ⟨q, PySem.W.cellsFrom_some _ _ _ (.inl q)⟩
  refine codeAny_call_function hr.depth (KX _ _ lk) rfl S.co S.gen rfl (PySem.W.codeRec_of KX hcd) (hb _ _ _ _ ?_)
  refine wpAny_newFunctionEnv_cells S.kind hkind fun env he s1 x => ?_
  subst he
  refine ⟨lim.keeps x.toInCall.keep, codeAny_func ?_⟩
  obtain ⟨t, ht, hq⟩ := hbody A outer s H vs Q E (hr.deeper _) hsp
  have I : Inv (cxOf CX P w K mg base N qual scope f cdv A outer s H E) [] (start N vs) H s1 := inv_start S hr.hd e0 hl r x
  refine wpAny_mono (ht [] s1 (start N vs) H _ I hq) (fun fl s' hs => ?_) fun e s' hs => hs
  have fin : ∀ {σ' : St} {H' : Hp} {v : V} {u : Value}, Inv (cxOf CX P w K mg base N qual scope f cdv A outer s H E) [] σ' H' s' → RelV v u → Q v H' → CE outer P w H s Q u s' :=
    fun {σ' H' v u} J rv q => ⟨v, H', J.os, J.bare, J.base, J.hok, rv, q⟩
  cases fl with
  | ret u =>
    obtain ⟨v, σ', H', J, rv, q⟩ := hs
    exact fin J rv q
  | next =>
    obtain ⟨σ', H', J, q⟩ := hs
    exact fin (v := V.non) (u := Value.none) J rfl q
  | brk =>
    obtain ⟨_, _, _, q⟩ := hs
    exact False.elim q
  | cont =>
    obtain ⟨_, _, _, q⟩ := hs
    exact False.elim q
end L2
namespace L2
open PySem PySem.Spec PyProof.Rows
section
variable {X : Cx} {x : Str} {p pos : Pos} {e : Expr} {es : List Expr} {t : TA} {id T : String} {r : List V → Hp → VK → Prop}
noncomputable def tCB (r : List V → Hp → VK → Prop) (t : TA) : TE := fun σ H Q => t σ H fun vs H1 => r vs H1 Q
/-- f(e, ..), f a built-in function -/
theorem pe_callB (hc : CallR X (.builtin id) r) (hg : Gl X x) (hm : X.mg x = none) (hv : bootBuiltins x = some (.builtin id)) (ha : PA X (e :: es) t) (hn : x ≠ "__name__" := by decide) (hdb : (x == ("__debug__" : Str)) = false := by decide)
    (he : starEach (e :: es) X.env = (false, eval e X.env) :: starEach es X.env := by rfl) (hpl : (backTo pos (starEach es X.env)).any (·.1) = false := by rfl) : PE X (.Call (.Name x p) (e :: es) [] pos) (tCB r t) := by
  intro pins s σ H Q I h
  refine wpAny_Call_Name_kw (ld_blt I hg hm hv ?_ hn hdb)
  exact PyProof.Rows.callWith_builtin1 (thn (ha pos pins s σ H _ I h) fun us s1 ⟨vs, H1, I1, r1, q1⟩ => hc pins s1 σ H1 vs us Q I1 r1 q1) he hpl
/-- T(e, ..), T a built-in type -/
theorem pe_callTy (hc : CallR X (.type T) r) (hg : Gl X x) (hm : X.mg x = none) (hv : bootBuiltins x = some (.type T)) (ha : PA X (e :: es) t) (hn : x ≠ "__name__" := by decide) (hdb : (x == ("__debug__" : Str)) = false := by decide)
    (he : starEach (e :: es) X.env = (false, eval e X.env) :: starEach es X.env := by rfl) (hpl : (backTo pos (starEach es X.env)).any (·.1) = false := by rfl) : PE X (.Call (.Name x p) (e :: es) [] pos) (tCB r t) := by
  intro pins s σ H Q I h
  refine wpAny_Call_Name_kw (ld_blt I hg hm hv ?_ hn hdb)
  exact PyProof.Rows.callWith_type1 (thn (ha pos pins s σ H _ I h) fun us s1 ⟨vs, H1, I1, r1, q1⟩ => hc pins s1 σ H1 vs us Q I1 r1 q1) he hpl
end
end L2
namespace HT
open PySem PyProof.Rows
section
open PySem.SeqAt
open PySem.AutoSeq1 (wpAny_loadPart')
open PySem.MeetsSeq PySem.MeetsSeq2 PySem.MeetsSeq3
end
section
variable {prog : Program} {w : World} {A : Around} {E : Value → Shared → Prop} {s : Shared}
/-- t + u, t not empty -/
theorem cat_tup {t b : Addr} {vs ws : List Value} {Q : Value → Shared → Prop} (ht : IsTup s.heap t vs.toArray) (hb : IsTup s.heap b ws.toArray) (hv : vs ≠ [])
    (h1 : ws = [] → Q (.ref t) s) (h2 : ws ≠ [] → Q (.ref s.heap.objs.size) { s with heap := s.heap.push { cls := .type "tuple", data := .seq (vs ++ ws).toArray } })
    (hsz : vs.length + ws.length ≤ sizeLine) : wpAny (model prog w) A (binaryOp .Add (.ref t) (.ref b)) Q E s := by
  obtain ⟨⟨cls, dd, data, sl⟩, ho, hc, n, hd⟩ := id ht
  obtain ⟨⟨cls2, dd2, data2, sl2⟩, ho2, hc2, n2, hd2⟩ := id hb
  simp only at hc hd hc2 hd2
  subst hc hd hc2 hd2
  have e : vs.toArray ++ ws.toArray = (vs ++ ws).toArray := by simp
  by_cases hw : ws = []
  · exact concat_meets ⟨_, ho, rfl⟩ ⟨_, ho2, rfl⟩ noFill_tuple_add seq_tuple_add PySem.F.slot_tuple_add PySem.F.entry_tuple_add (PySem.F.args_tuple_add_2 _ _)
      (tuple_addW1 t b vs.toArray ws.toArray n n2 dd dd2 sl sl2 (by simpa using hv) (by simp [hw])) ⟨ho, ho2, h1 hw⟩
  · refine concat_meets ⟨_, ho, rfl⟩ ⟨_, ho2, rfl⟩ noFill_tuple_add seq_tuple_add PySem.F.slot_tuple_add PySem.F.entry_tuple_add (PySem.F.args_tuple_add_2 _ _)
      (tuple_addW2 t b vs.toArray ws.toArray n n2 dd dd2 sl sl2 (by simpa using hv) (by simpa using hw) (by rw [List.size_toArray, List.size_toArray]; exact hsz)) ⟨ho, ho2, ?_⟩
    rw [e]
    exact h2 hw
/-- a slice's bound as a place among n (d where it is left out) -/
noncomputable def sIx (n d : Nat) : Option Int → Nat
  | none => d
  | some v => if v < 0 then (v + (n : Int)).toNat else min v.toNat n
theorem sIx_nat (n d k : Nat) : sIx n d (some (k : Int)) = min k n := by
  show (if (k : Int) < 0 then ((k : Int) + (n : Int)).toNat else min (k : Int).toNat n) = min k n
  rw [if_neg (by omega), Int.toNat_natCast]
theorem sIx_le (n d : Nat) (hd : d ≤ n) (o : Option Int) : sIx n d o ≤ n := by
  cases o with
  | none => exact hd
  | some v =>
    show (if v < 0 then (v + (n : Int)).toNat else min v.toNat n) ≤ n
    by_cases hv : v < 0
    · rw [if_pos hv]; omega
    · rw [if_neg hv]; exact Nat.min_le_right _ _
theorem clip_eq (v : Int) (n d : Nat) : (if v < 0 then max (v + (n : Int)) 0 else min v (n : Int)) = ((sIx n d (some v) : Nat) : Int) := by
  show (if v < 0 then max (v + (n : Int)) 0 else min v (n : Int)) = (((if v < 0 then (v + (n : Int)).toNat else min v.toNat n) : Nat) : Int)
  by_cases hv : v < 0
  · simp only [if_pos hv]; omega
  · simp only [if_neg hv]; omega
theorem adjust_gen (lo hi : Option Int) (n : Nat) : Builtin.Slice.sliceAdjust lo hi 1 (n : Int) = (((sIx n 0 lo : Nat) : Int), ((sIx n n hi : Nat) : Int)) := by
  have h1 : ¬ ((1 : Int) < 0) := by omega
  unfold Builtin.Slice.sliceAdjust
  simp only [h1, if_false]
  refine Prod.ext ?_ ?_
  · cases lo with
    | none => rfl
    | some v => exact clip_eq v n 0
  · cases hi with
    | none => rfl
    | some v => exact clip_eq v n n
theorem places_gen (i j : Nat) : Builtin.Slice.slicePlaces (i : Int) (j : Int) 1 = j - i := by
  unfold Builtin.Slice.slicePlaces
  have h1 : (1 : Int) > 0 := by omega
  simp only [h1, if_true, Int.ediv_one]
  split <;> omega
theorem slicePart_ {v : Value} {o : Option Int} {Q : Option Int → Shared → Prop} (p : IsPart v o) (h : Q o s) : wpAny (model prog w) A (Builtin.Slice.slicePartIndex v) Q E s := by
  cases p with
  | none => exact slicePart_none h
  | int i t => exact slicePart_int h
theorem sliceApplied_gen {sl : Addr} {vl vu : Value} {lo hi : Option Int} {n : Nat} {Q : Int × Int × Nat → Shared → Prop} (hs : s.heap.IsSliceOf sl vl vu .none) (pl : IsPart vl lo) (pu : IsPart vu hi)
    (h : Q (((sIx n 0 lo : Nat) : Int), 1, sIx n n hi - sIx n 0 lo) s) : wpAny (model prog w) A (Builtin.Slice.sliceApplied (.ref sl) (pure (n : Int))) Q E s := by
  obtain ⟨os, hos, hcs, hds⟩ := id hs
  unfold Builtin.Slice.sliceApplied Builtin.Slice.sliceFields
  refine wpAny_bind (wpAny_bind (wpAny_field hos hds (x := vl) rfl (wpAny_bind (wpAny_field hos hds (x := vu) rfl (wpAny_bind (wpAny_field hos hds (x := .none) rfl (wpAny_pure ?_)))))))
  refine wpAny_bind (slicePart_none ?_)
  show wpAny _ _ (if ((1 : Int) == 0) = true then _ else _) _ _ s
  rw [if_neg (by decide)]
  refine wpAny_bind (slicePart_ pl (wpAny_bind (slicePart_ pu (wpAny_bind (wpAny_pure ?_)))))
  show wpAny _ _ (match Builtin.Slice.sliceAdjust lo hi 1 (n : Int) with | (lo, hi) => pure (lo, (1 : Int), Builtin.Slice.slicePlaces lo hi 1)) _ _ s
  rw [adjust_gen lo hi n]
  show wpAny _ _ (pure (((sIx n 0 lo : Nat) : Int), (1 : Int), Builtin.Slice.slicePlaces ((sIx n 0 lo : Nat) : Int) ((sIx n n hi : Nat) : Int) 1)) _ _ s
  rw [places_gen]
  exact wpAny_pure h
theorem pick_gen (xs : Array Value) (i k : Nat) : ((List.range k).filterMap fun (m : Nat) => xs[((i : Int) + (m : Int) * 1).toNat]?).toArray = ((xs.toList.drop i).take k).toArray := by
  have e : (fun (m : Nat) => xs[((i : Int) + (m : Int) * 1).toNat]?) = fun m => xs[i + m]? := by
    funext m
    have : ((i : Int) + (m : Int) * 1).toNat = i + m := by omega
    rw [this]
  rw [e]
  have := pick_run xs i k
  rw [List.filterMap_map] at this
  have e2 : ((fun x => xs[x]?) ∘ fun x => i + x) = fun m => xs[i + m]? := rfl
  rw [e2] at this
  rw [this]
theorem getItem_tuple_cut {t sl : Addr} {items : Array Value} {vl vu : Value} {lo hi : Option Int} {Q : Value → Shared → Prop} (ht : IsTup s.heap t items) (hs : s.heap.IsSliceOf sl vl vu .none) (pl : IsPart vl lo) (pu : IsPart vu hi)
    (hw : ¬ (sIx items.size 0 lo = 0 ∧ sIx items.size items.size hi = items.size))
    (h : Q (.ref s.heap.objs.size) { s with heap := s.heap.push { cls := .type "tuple", data := .seq ((items.toList.drop (sIx items.size 0 lo)).take (sIx items.size items.size hi - sIx items.size 0 lo)).toArray } })
    (hsz : items.size ≤ sizeLine) : wpAny (model prog w) A (getItem (.ref t) (.ref sl)) Q E s := by
  have htake : sizeOk (.seq ((items.toList.drop (sIx items.size 0 lo)).take (sIx items.size items.size hi - sIx items.size 0 lo)).toArray) := by
    show ((items.toList.drop (sIx items.size 0 lo)).take (sIx items.size items.size hi - sIx items.size 0 lo)).toArray.size ≤ sizeLine
    rw [List.size_toArray, List.length_take, List.length_drop, Array.length_toList]
    omega
  have hj : sIx items.size items.size hi ≤ items.size := sIx_le _ _ (Nat.le_refl _) hi
  obtain ⟨os, hos, hcs, hds⟩ := id hs
  have hTs : s.TypeIs (.ref sl) "slice" := ⟨os, hos, hcs⟩
  unfold getItem
  try with_reducible refine wpAny_holding ?_
  first | refine wpAny_bind (wpAny_pure ?_) | skip
  refine wpAny_bind (wpAny_sequenceKey ht.typeIs (by decide) ?_)
  refine wpAny_bind (wpAny_callSpecial?_slot (name := Str.ofString "__getitem__") ht.typeIs PyProof.Rows.slot_tuple_getitem
    (wpAny_call_entry PyProof.Rows.slot_tuple_getitem ht.typeIs entry_tuple_getitem ?_ (args_tuple_getitem _ _)))
  show wpAny _ _ (Builtin.Tuple.tupleItemsOf (.ref t) >>= _) _ _ s
  refine wpAny_bind (tupleItemsOf_ ht ?_)
  refine wpAny_bind (wpAny_typeOf hTs ?_)
  rw [if_pos (by decide)]
  refine wpAny_bind (sliceApplied_gen hs pl pu ?_)
  have hno : ¬ ((((sIx items.size 0 lo : Nat) : Int) == 0 && (1 : Int) == 1 && (sIx items.size items.size hi - sIx items.size 0 lo) == items.size) = true) := by
    intro q
    rw [Bool.and_eq_true, Bool.and_eq_true] at q
    have q1 : ((sIx items.size 0 lo : Nat) : Int) = 0 := eq_of_beq q.1.1
    have q2 : sIx items.size items.size hi - sIx items.size 0 lo = items.size := eq_of_beq q.2
    exact hw ⟨by omega, by omega⟩
  show wpAny _ _ (if (((sIx items.size 0 lo : Nat) : Int) == 0 && (1 : Int) == 1 && (sIx items.size items.size hi - sIx items.size 0 lo) == items.size) = true then _ else _) _ _ s
  rw [if_neg hno, pick_gen]
  first
    | exact wpAny_bind (m := Builtin.Tuple.tupleExact _) (wpAny_newObj_type (wpAny_pure ⟨_, rfl, wpAny_pure h⟩) htake)
    | exact wpAny_bind (m := Builtin.Tuple.tupleExact _) (wpAny_newObj_type (wpAny_bind (wpAny_pure (wpAny_pure ⟨_, rfl, wpAny_pure h⟩))) htake)
    | exact wpAny_bind (wpAny_bind (m := Builtin.Tuple.tupleExact _) (wpAny_newObj_type (wpAny_pure (wpAny_pure ⟨_, rfl, wpAny_pure h⟩)) htake))
    | exact wpAny_bind (wpAny_bind (m := Builtin.Tuple.tupleExact _) (wpAny_newObj_type (wpAny_pure ⟨_, rfl, wpAny_pure h⟩) htake))
end
end HT
namespace L2
open PySem PySem.Spec PyProof.Rows
noncomputable abbrev TO := St → Hp → (Option Int → Hp → Prop) → Prop
/-- a slice's part (left out, or an int) -/
noncomputable def PO (X : Cx) (e : Option Expr) (t : TO) : Prop :=
  ∀ (pins : List (Addr × Obj)) (s : Shared) (σ : St) (H : Hp) (Q : Option Int → Hp → Prop), Inv X pins σ H s → t σ H Q →
    wpAny (model X.prog X.w) X.A (evalPart e X.env) (fun u s' => ∃ o H', Inv X pins σ H' s' ∧ IsPart u o ∧ Q o H') X.xe s
noncomputable def tNoPart : TO := fun _ H Q => Q none H
noncomputable def tPart (t : TE) : TO := fun σ H Q => t σ H fun x H1 => ∃ i, x = .int i ∧ Q (some i) H1
section
variable {X : Cx} {e : Expr} {te : TE} {lo hi : Option Expr} {tl th : TO} {pos p2 : Pos}
theorem po_none : PO X none tNoPart := by
  intro pins s σ H Q I h
  rw [evalPart_none]
  exact wpAny_pure ⟨none, H, I, .none, h⟩
theorem po_some (h : PE X e te) : PO X (some e) (tPart te) := by
  intro pins s σ H Q I hw
  rw [evalPart_some]
  refine thn (h pins s σ H _ I hw) fun u s1 ⟨x, H1, I1, r1, q1⟩ => ?_
  obtain ⟨i, rfl, q⟩ := q1
  obtain ⟨t, rfl⟩ := r1
  exact ⟨some i, H1, I1, .int i t, q⟩
/-- what a slice of a value is, by values: the slice object stands at sl -/
noncomputable def SlR (X : Cx) (r : V → Option Int → Option Int → Hp → VK → Prop) : Prop :=
  ∀ (pins : List (Addr × Obj)) (s : Shared) (σ : St) (H : Hp) (x : V) (v vl vu : Value) (lo hi : Option Int) (sl : Addr) (Q : VK), Inv X pins σ H s → RelV x v → s.heap.IsSliceOf sl vl vu .none → IsPart vl lo → IsPart vu hi → r x lo hi H Q →
    ∃ T id, typeLookup (.type T) "__getitem__" = pure (some (.builtin id)) ∧ s.TypeIs v T ∧ wpAny (model X.prog X.w) X.A (getItem v (.ref sl)) (EP X pins σ Q) X.xe s
noncomputable def tSl (r : V → Option Int → Option Int → Hp → VK → Prop) (te : TE) (tl th : TO) : TE := fun σ H Q => te σ H fun x H1 => tl σ H1 fun l H2 => th σ H2 fun u H3 => r x l u H3 Q
/-- a[lo:hi], any a -/
theorem pe_slice {r : V → Option Int → Option Int → Hp → VK → Prop} (hr : SlR X r) (he : PE X e te) (hl : PO X lo tl) (hu : PO X hi th) : PE X (.Subscript e (.Slice lo hi none p2) pos) (tSl r te tl th) := by
  intro pins s σ H Q I h
  refine Subscript_ (thn (he pins s σ H _ I h) fun v s1 ⟨x, H1, I1, r1, q1⟩ => ?_)
  refine wpAny_Slice (thn (hl pins s1 σ H1 _ I1 q1) fun vl s2 ⟨l, H2, I2, pl, q2⟩ => thn (hu pins s2 σ H2 _ I2 q2) fun vu s3 ⟨u, H3, I3, pu, q3⟩ => ?_)
  rw [evalPart_none]
  refine wpAny_pure ?_
  have I4 : Inv X pins σ H3 { s3 with heap := s3.heap.push { cls := .type "slice", data := .fields #[vl, vu, .none] } } := I3.kept (t' := s3.toks) fun b ob q => Heap.get?_push_of_some _ q
  obtain ⟨T, id, hT, ht, hg⟩ := hr pins { s3 with heap := s3.heap.push { cls := .type "slice", data := .fields #[vl, vu, .none] } } σ H3 x v vl vu l u s3.heap.objs.size Q I4 r1 (Heap.IsSliceOf.new ..) pl pu q3
  show wpAny (model X.prog X.w) X.A (subscriptTail e (.Slice lo hi none p2) v (.ref s3.heap.objs.size)) (EP X pins σ Q) X.xe { s3 with heap := s3.heap.push { cls := .type "slice", data := .fields #[vl, vu, .none] } }
  exact tail_any (ops := [.ref s3.heap.objs.size, v]) ht hT hg (by with_unfolding_all rfl)
/-- the items of xs[lo:hi] -/
noncomputable def cutV (xs : List V) (lo hi : Option Int) : List V := (xs.drop (HT.sIx xs.length 0 lo)).take (HT.sIx xs.length xs.length hi - HT.sIx xs.length 0 lo)
theorem cutV_length (xs : List V) (lo hi : Option Int) : (cutV xs lo hi).length ≤ xs.length := by
  unfold cutV
  rw [List.length_take, List.length_drop]
  omega
/-- t[lo:hi], not the whole of it (the whole would be t itself) -/
noncomputable def rSlT (K : PySem.W.Frag) : V → Option Int → Option Int → Hp → VK → Prop := fun x lo hi H Q => ∃ a xs, x = .ref a ∧ SqT K H a xs ∧
  ¬ (HT.sIx xs.length 0 lo = 0 ∧ HT.sIx xs.length xs.length hi = xs.length) ∧ ∀ p, H p = none → Q (.ref p) (upd H p (.tup (cutV xs lo hi)))
theorem sl_tup : SlR X (rSlT X.K) := by
  intro pins s σ H x v vl vu lo hi sl Q I rx hs pl pu h
  obtain ⟨a, xs, rfl, hx, hw, q⟩ := h
  cases rx
  obtain ⟨its, r, ht, hz⟩ := I.tuple hx
  have hlen : its.toArray.size = xs.length := by rw [List.size_toArray]; exact r.length.symm
  refine ⟨"tuple", _, PyProof.Rows.slot_tuple_getitem.lookup, ht.typeIs, ?_⟩
  refine HT.getItem_tuple_cut ht hs pl pu (by rw [hlen]; exact hw) ?_ (by rw [hlen]; exact hz)
  rw [hlen]
  refine ⟨.ref s.heap.objs.size, _, I.laid (t' := s.toks) (o := .tup (cutV xs lo hi)) (fun b ob q => Heap.get?_push_of_some _ q) (Nat.le_refl _) ?_, rfl, q _ (I.hok.fresh (Nat.le_refl _))⟩
  exact ⟨Nat.le_trans (cutV_length xs lo hi) hz, _, (r.drop (HT.sIx xs.length 0 lo)).take (HT.sIx xs.length xs.length hi - HT.sIx xs.length 0 lo), IsTup.new _ _⟩
/-- t + u, t not empty: u empty gives t itself -/
noncomputable def rCatT (K : PySem.W.Frag) : R2 := fun x y H Q => ∃ a b xs ys, x = .ref a ∧ y = .ref b ∧ SqT K H a xs ∧ SqT K H b ys ∧ xs ≠ [] ∧ xs.length + ys.length ≤ sizeLine ∧
  (ys = [] → Q (.ref a) H) ∧ (ys ≠ [] → ∀ p, H p = none → Q (.ref p) (upd H p (.tup (xs ++ ys))))
theorem Vals.nil_iff {xs : List V} {us : List Value} (r : Vals xs us) : us = [] ↔ xs = [] := by
  cases r with
  | nil => simp
  | cons _ _ => simp
theorem op_catT : OpR X (binaryOp .Add) (rCatT X.K) := by
  intro pins s σ H x y v u Q I rx ry h
  obtain ⟨a, b, xs, ys, rfl, rfl, ha, hb, hx, hz, q1, q2⟩ := h
  cases rx
  cases ry
  obtain ⟨its, r1, p1, _⟩ := I.tuple ha
  obtain ⟨its2, r2, p2, _⟩ := I.tuple hb
  refine HT.cat_tup p1 p2 (fun z => hx (r1.nil_iff.mp z)) (fun z => ⟨.ref a, H, I, rfl, q1 (r2.nil_iff.mp z)⟩) (fun z => ?_) (by rw [← r1.length, ← r2.length]; exact hz)
  refine ⟨.ref s.heap.objs.size, _, I.laid (t' := s.toks) (o := .tup (xs ++ ys)) (fun b ob q => Heap.get?_push_of_some _ q) (Nat.le_refl _) ?_, rfl, q2 (fun w => z (r2.nil_iff.mpr w)) _ (I.hok.fresh (Nat.le_refl _))⟩
  exact ⟨by rw [List.length_append]; exact hz, _, r1.append r2, IsTup.new _ _⟩
end
end L2
namespace L2
open PySem PySem.Spec PyProof.Rows
/-- the place that an index of any sign means -/
noncomputable def ixN (n : Nat) (i : Int) : Option Nat := if 0 ≤ i then (if i < n then some i.toNat else none) else if -(n : Int) ≤ i then some (i + n).toNat else none
noncomputable def atI {α : Type} (xs : List α) (i : Int) : Option α := (ixN xs.length i).bind fun j => xs[j]?
theorem ixN_seq {n : Nat} {i : Int} {j : Nat} (h : ixN n i = some j) : seqIndex? i n = some j ∧ j < n ∧ -(n : Int) ≤ i ∧ i < n := by
  unfold ixN at h
  by_cases h0 : 0 ≤ i
  · rw [if_pos h0] at h
    by_cases h1 : i < n
    · rw [if_pos h1] at h
      have e : i.toNat = j := Option.some.inj h
      exact ⟨by rw [seqIndex_of h0 h1, e], by omega, by omega, h1⟩
    · rw [if_neg h1] at h; cases h
  · rw [if_neg h0] at h
    by_cases h1 : -(n : Int) ≤ i
    · rw [if_pos h1] at h
      have e : (i + n).toNat = j := Option.some.inj h
      exact ⟨by rw [seqIndex_neg (by omega) h1, e], by omega, h1, by omega⟩
    · rw [if_neg h1] at h; cases h
theorem atI_get {α : Type} {xs : List α} {i : Int} {v : α} (h : atI xs i = some v) : ∃ j, seqIndex? i xs.length = some j ∧ xs[j]? = some v ∧ j < xs.length ∧ -(xs.length : Int) ≤ i ∧ i < xs.length := by
  unfold atI at h
  cases e : ixN xs.length i with
  | none => rw [e] at h; cases h
  | some j =>
    rw [e] at h
    obtain ⟨h1, h2, h3, h4⟩ := ixN_seq e
    exact ⟨j, h1, h, h2, h3, h4⟩
/-- what stands as an index of a plain subscript -/
noncomputable def PlainIx (b : Expr) : Prop := ∀ o i, subscripted b false o i = operate [o, i] (getItem o i)
/-- a subscript by values -/
noncomputable def IxR (X : Cx) (r : R2) : Prop :=
  ∀ (value slice : Expr) (pins : List (Addr × Obj)) (s : Shared) (σ : St) (H : Hp) (x y : V) (v u : Value) (Q : VK), Inv X pins σ H s → RelV x v → RelV y u → r x y H Q →
    subscripted slice false v u = operate [v, u] (getItem v u) → wpAny (model X.prog X.w) X.A (subscriptTail value slice v u) (EP X pins σ Q) X.xe s
/-- a call of a builtin's method by values: the receiver, the arguments -/
noncomputable def MtR (X : Cx) (id : String) (r : V → List V → Hp → VK → Prop) : Prop :=
  ∀ (pins : List (Addr × Obj)) (s : Shared) (σ : St) (H : Hp) (x : V) (xs : List V) (v : Value) (us : List Value) (Q : VK), Inv X pins σ H s → RelV x v → Vals xs us → r x xs H Q →
    wpAny (model X.prog X.w) X.A (call (.builtin id) (v :: us)) (EP X pins σ Q) X.xe s
section
variable {X : Cx} {a b : Expr} {ta tb : TE} {pos : Pos}
/-- a[b] -/
theorem pe_ix {r : R2} (hr : IxR X r) (ha : PE X a ta) (hb : PE X b tb) (hs : PlainIx b) : PE X (.Subscript a b pos) (tOp r ta tb) := by
  intro pins s σ H Q I h
  exact Subscript_ (binT ha hb I h fun v u s2 x y H2 I2 rx ry q => hr a b pins s2 σ H2 x y v u Q I2 rx ry q (hs _ _))
noncomputable def rIxL (K : PySem.W.Frag) : R2 := fun x y H Q => ∃ p xs i v, x = .ref p ∧ y = .int i ∧ SqL K H p xs ∧ atI xs i = some v ∧ Q v H
noncomputable def rIxT (K : PySem.W.Frag) : R2 := fun x y H Q => ∃ p xs i v, x = .ref p ∧ y = .int i ∧ SqT K H p xs ∧ atI xs i = some v ∧ Q v H
noncomputable def rIxS : R2 := fun x y H Q => ∃ z i c, x = .str z ∧ y = .int i ∧ z.length ≤ sizeLine ∧ atI z.cps.toList i = some c ∧ Q (.str ⟨#[c]⟩) H
theorem ix_list : IxR X (rIxL X.K) := by
  intro value slice pins s σ H x y v u Q I rx ry h hs
  obtain ⟨p, xs, i, z, rfl, rfl, hq, he, q⟩ := h
  cases rx
  obtain ⟨t, rfl⟩ := ry
  obtain ⟨its, r, pl, hz⟩ := I.list hq
  obtain ⟨j, h1, h2, h3, h4, h5⟩ := atI_get he
  obtain ⟨w, ew, rw'⟩ := r.get h2
  have hl := r.length
  have hn := line63
  have fin : EP X pins σ Q w s := ⟨z, H, I, rw', q⟩
  by_cases h0 : 0 ≤ i
  · have hj : i.toNat = j := by
      rw [seqIndex_of h0 h5] at h1
      exact Option.some.inj h1
    exact item_listR pl.isList h0 (by omega) (by rw [hj]; simpa using ew) fin hs
  · have hj : (i + (its.toArray.size : Int)).toNat = j := by
      rw [seqIndex_neg (by omega) h4] at h1
      rw [List.size_toArray, ← hl]
      exact Option.some.inj h1
    exact subscriptTail_builtinR (x := w) pl.isList.typeIs slot_list_getitem.lookup
      (wpAny_getItem_list_neg (Q := fun r s' => r = w ∧ EP X pins σ Q r s') pl.isList (by omega) (by rw [List.size_toArray] <;> omega) (by omega) (by rw [hj]; simpa using ew) ⟨rfl, fin⟩) hs
theorem ix_tup : IxR X (rIxT X.K) := by
  intro value slice pins s σ H x y v u Q I rx ry h hs
  obtain ⟨p, xs, i, z, rfl, rfl, hq, he, q⟩ := h
  cases rx
  obtain ⟨t, rfl⟩ := ry
  obtain ⟨its, r, pl, hz⟩ := I.tuple hq
  obtain ⟨j, h1, h2, h3, h4, h5⟩ := atI_get he
  obtain ⟨w, ew, rw'⟩ := r.get h2
  have hl := r.length
  have hn := line63
  have fin : EP X pins σ Q w s := ⟨z, H, I, rw', q⟩
  exact subscriptTail_builtinR (x := w) pl.typeIs slot_tuple_getitem.lookup
    (getItem_tuple (j := j) (Q := fun r s' => r = w ∧ EP X pins σ Q r s') pl (by omega) (by omega) (by rw [List.size_toArray, ← hl]; exact h1) (by simpa using ew) ⟨rfl, fin⟩) hs
theorem ix_str : IxR X rIxS := by
  intro value slice pins s σ H x y v u Q I rx ry h hs
  obtain ⟨z, i, c, rfl, rfl, hz, he, q⟩ := h
  obtain ⟨t, rfl⟩ := rx
  obtain ⟨t', rfl⟩ := ry
  obtain ⟨j, h1, h2, h3, h4, h5⟩ := atI_get he
  have hl : z.cps.toList.length = z.length := by simp [Str.length]
  rw [hl] at h1 h4 h5
  have hn := line63
  exact tail_any (typeIs_str s z t) slot_str_getitem.lookup (getItem_str (c := c) (by
    have e1 : decide (i < -(2 ^ 63 : Int)) = false := decide_eq_false (by omega)
    have e2 : decide (i ≥ 2 ^ 63) = false := decide_eq_false (by omega)
    rw [e1, e2, Bool.or_false]) (by rw [h1]; simpa using h2) ⟨.str ⟨#[c]⟩, H, I.tok _, ⟨_, rfl⟩, q⟩) hs
/-- the list's object behind a store -/
theorem mapSeq_set (its : List Value) (n j : Nat) (u : Value) : Obj.mapSeq (·.setIfInBounds j u) { cls := .type "list", data := .seq its.toArray n } = { cls := .type "list", data := .seq (its.set j u).toArray n } := by
  simp [Obj.mapSeq]
theorem Inv.lst {pins : List (Addr × Obj)} {σ : St} {H : Hp} {s : Shared} {p : Addr} {xs : List V} (I : Inv X pins σ H s) (h : H p = some (.lst xs)) :
    ∃ (its : List Value) (n : Nat), Vals xs its ∧ s.heap.get? p = some { cls := .type "list", data := .seq its.toArray n } ∧ xs.length ≤ sizeLine := by
  obtain ⟨z, its, n, r, e⟩ := I.hok p _ h
  exact ⟨its, n, r, e, z⟩
/-- the list at p is written by an update of its object -/
theorem Inv.lstUpd {pins : List (Addr × Obj)} {σ : St} {H : Hp} {s : Shared} {p : Addr} {xs ys : List V} {its its' : List Value} {n n' : Nat} {f : Obj → Obj} (I : Inv X pins σ H s) (h : H p = some (.lst xs))
    (ho : s.heap.get? p = some { cls := .type "list", data := .seq its.toArray n }) (hf : f { cls := .type "list", data := .seq its.toArray n } = { cls := .type "list", data := .seq its'.toArray n' }) (r : Vals ys its') (hz : ys.length ≤ sizeLine) (t : Nat) :
    Inv X pins σ (upd H p (.lst ys)) { s with heap := s.heap.update p f, toks := t } := by
  have e : (s.heap.update p f).get? p = some { cls := .type "list", data := .seq its'.toArray n' } := by
    rw [Heap.get?_update_self f ho (by rw [hf] <;> rfl), hf]
  refine I.write (x := p) (e := p) (by rw [h]; trivial) (.inl rfl) (fun b u hb q => (Heap.get?_update_other _ _ (Ne.symm hb)).trans q) ⟨_, e⟩ ?_
  exact ⟨hz, its', n', r, e⟩
noncomputable def rSetL : V → V → V → Hp → (Hp → Prop) → Prop := fun o i v H Q => ∃ p xs k j, o = .ref p ∧ i = .int k ∧ H p = some (.lst xs) ∧ ixN xs.length k = some j ∧ Q (upd H p (.lst (xs.set j v)))
theorem set_list : PSet X rSetL := by
  intro pins s σ H o i v ov iv u Q I ro ri rv h
  obtain ⟨p, xs, k, j, rfl, rfl, hp, hj, q⟩ := h
  cases ro
  obtain ⟨t, rfl⟩ := ri
  obtain ⟨its, n, r, ho, hz⟩ := I.lst hp
  obtain ⟨h1, h2, h3, h4⟩ := ixN_seq hj
  have hl := r.length
  have hn := line63
  have I' : Inv X pins σ (upd H p (.lst (xs.set j v))) { s with heap := s.heap.update p (Obj.mapSeq (·.setIfInBounds j u)) } :=
    I.lstUpd hp ho (mapSeq_set its n j u) (r.set rv j) (by rw [List.length_set]; exact hz) s.toks
  by_cases h0 : 0 ≤ k
  · have hk : k.toNat = j := by
      rw [seqIndex_of h0 h4] at h1
      exact Option.some.inj h1
    exact PySem.W.ki_setAt ho h0 (by omega) (by rw [List.size_toArray, ← hl]; exact h4) (by rw [hk]; exact ⟨_, I', q⟩)
  · have hk : (k + (its.toArray.size : Int)).toNat = j := by
      rw [seqIndex_neg (by omega) h3] at h1
      rw [List.size_toArray, ← hl]
      exact Option.some.inj h1
    exact PySem.W.ki_setBack ho (by omega) (by rw [List.size_toArray, ← hl]; exact h3) (by omega) (by rw [hk]; exact ⟨_, I', q⟩)
theorem slice_bounds (lo hi : Option Int) (n : Nat) : (sliceBounds lo hi none n).1 = ((HT.sIx n 0 lo : Nat) : Int) ∧ (sliceBounds lo hi none n).2.1 = ((HT.sIx n n hi : Nat) : Int) ∧ (sliceBounds lo hi none n).2.2 = 1 := by
  refine ⟨?_, ?_, rfl⟩
  · cases lo with
    | none => simp [sliceBounds, HT.sIx]
    | some i =>
      simp only [sliceBounds, HT.sIx, Option.getD_none, show (1 : Int) > 0 by decide, if_true]
      by_cases h : i < 0
      · simp only [h, if_true] <;> omega
      · simp only [h, if_false] <;> omega
  · cases hi with
    | none => simp [sliceBounds, HT.sIx]
    | some i =>
      simp only [sliceBounds, HT.sIx, Option.getD_none, show (1 : Int) > 0 by decide, if_true]
      by_cases h : i < 0
      · simp only [h, if_true] <;> omega
      · simp only [h, if_false] <;> omega
theorem slicePick_cut (its : List Value) (lo hi : Option Int) : slicePick its.toArray lo hi none = ((its.drop (HT.sIx its.length 0 lo)).take (HT.sIx its.length its.length hi - HT.sIx its.length 0 lo)).toArray := by
  obtain ⟨h1, h2, h3⟩ := slice_bounds lo hi its.toArray.size
  unfold slicePick
  rw [h1, h2, h3]
  simp only [sliceRange_one, pick_run, List.size_toArray] <;> rfl
/-- xs[lo:hi] of a list: a new list -/
noncomputable def rSlL (K : PySem.W.Frag) : V → Option Int → Option Int → Hp → VK → Prop := fun x lo hi H Q => ∃ a xs, x = .ref a ∧ SqL K H a xs ∧ ∀ p, H p = none → Q (.ref p) (upd H p (.lst (cutV xs lo hi)))
theorem sl_list : SlR X (rSlL X.K) := by
  intro pins s σ H x v vl vu lo hi sl Q I rx hs pl pu h
  obtain ⟨a, xs, rfl, hx, q⟩ := h
  cases rx
  obtain ⟨its, r, ht, hz⟩ := I.list hx
  have hlen := r.length
  refine ⟨"list", _, slot_list_getitem.lookup, ht.isList.typeIs, ?_⟩
  refine wpAny_getItem_list_slice ht.isList hs pl pu .none (by simp) ?_ (by rw [List.size_toArray] <;> omega)
  rw [slicePick_cut, ← hlen]
  refine ⟨.ref s.heap.objs.size, _, I.laid (t' := s.toks) (o := .lst (cutV xs lo hi)) (fun b ob q => Heap.get?_push_of_some _ q) (Nat.le_refl _) ?_, rfl, q _ (I.hok.fresh (Nat.le_refl _))⟩
  exact ⟨Nat.le_trans (cutV_length xs lo hi) hz, _, 0, (r.drop (HT.sIx xs.length 0 lo)).take (HT.sIx xs.length xs.length hi - HT.sIx xs.length 0 lo), Heap.get?_push_size _ rfl⟩
noncomputable def flatV : V → Bool
  | .non => true
  | .bl _ => true
  | .int _ => true
  | .str _ => true
  | _ => false
/-- == of flat values -/
noncomputable def eqV : V → V → Bool
  | .non, .non => true
  | .bl a, .bl b => a == b
  | .bl a, .int b => (if a then 1 else 0) == b
  | .int a, .bl b => a == (if b then 1 else 0)
  | .int a, .int b => a == b
  | .str a, .str b => a == b
  | _, _ => false
theorem eqAt_V {A : Around} {s : Shared} {y x : V} {u v : Value} (ry : RelV y u) (rx : RelV x v) (fy : flatV y = true) (fx : flatV x = true) : SeqAt.EqAt A s u v (eqV y x) := by
  cases y with
  | non =>
    cases ry
    cases x with
    | non => cases rx; exact SeqAt.EqAt.same _
    | bl b => cases rx; exact SeqAt.EqAt.none_bool b
    | int b => obtain ⟨t, rfl⟩ := rx; exact SeqAt.EqAt.none_int b t
    | str b => obtain ⟨t, rfl⟩ := rx; exact SeqAt.EqAt.none_str b t
    | _ => exact absurd (show false = true from fx) Bool.false_ne_true
  | bl a =>
    cases ry
    cases x with
    | non => cases rx; exact SeqAt.EqAt.bool_none a
    | bl b => cases rx; exact SeqAt.EqAt.bool_bool a b
    | int b => obtain ⟨t, rfl⟩ := rx; exact SeqAt.EqAt.bool_int a b t
    | str b => obtain ⟨t, rfl⟩ := rx; exact SeqAt.EqAt.bool_str a b t
    | _ => exact absurd (show false = true from fx) Bool.false_ne_true
  | int a =>
    obtain ⟨t', rfl⟩ := ry
    cases x with
    | non => cases rx; exact SeqAt.EqAt.int_none a t'
    | bl b => cases rx; exact SeqAt.EqAt.int_bool a t' b
    | int b => obtain ⟨t, rfl⟩ := rx; exact SeqAt.EqAt.int_int a t' b t
    | str b => obtain ⟨t, rfl⟩ := rx; exact SeqAt.EqAt.int_str a t' b t
    | _ => exact absurd (show false = true from fx) Bool.false_ne_true
  | str a =>
    obtain ⟨t', rfl⟩ := ry
    cases x with
    | non => cases rx; exact SeqAt.EqAt.str_none a t'
    | bl b => cases rx; exact SeqAt.EqAt.str_bool a t' b
    | int b => obtain ⟨t, rfl⟩ := rx; exact SeqAt.EqAt.str_int a t' b t
    | str b => obtain ⟨t, rfl⟩ := rx; exact SeqAt.EqAt.str_str a t' b t
    | _ => exact absurd (show false = true from fx) Bool.false_ne_true
  | _ => exact absurd (show false = true from fy) Bool.false_ne_true
/-- the items' answers, read off the values (a value's own answer does not lean on its token) -/
noncomputable def eqU (x : V) (u : Value) : Bool := match u with
  | .none => eqV .non x
  | .bool b => eqV (.bl b) x
  | .int i _ => eqV (.int i) x
  | .str z _ => eqV (.str z) x
  | _ => false
theorem eqU_of {x y : V} {u : Value} (r : RelV y u) (f : flatV y = true) : eqU x u = eqV y x := by
  cases y with
  | non => cases r; rfl
  | bl b => cases r; rfl
  | int i => obtain ⟨t, rfl⟩ := r; rfl
  | str z => obtain ⟨t, rfl⟩ := r; rfl
  | _ => exact absurd (show false = true from f) Bool.false_ne_true
theorem any_eqU {x : V} : ∀ {xs : List V} {us : List Value}, Vals xs us → xs.all flatV = true → us.any (eqU x) = xs.any fun y => eqV y x
  | _, _, .nil, _ => rfl
  | y :: xs, u :: us, .cons r t, f => by
    rw [List.all_cons, Bool.and_eq_true] at f
    rw [List.any_cons, List.any_cons, eqU_of r f.1, any_eqU t f.2]
theorem mem_eqAt {A : Around} {s : Shared} {x : V} {v : Value} (rx : RelV x v) (fx : flatV x = true) : ∀ {xs : List V} {us : List Value}, Vals xs us → xs.all flatV = true → ∀ u ∈ us, SeqAt.EqAt A s u v (eqU x u)
  | _, _, .nil, _ => fun u hu => by cases hu
  | y :: xs, u :: us, .cons r t, f => fun u' hu => by
    rw [List.all_cons, Bool.and_eq_true] at f
    rcases List.mem_cons.mp hu with rfl | hu
    · rw [eqU_of r f.1]; exact eqAt_V r rx f.1 fx
    · exact mem_eqAt rx fx t f.2 u' hu
noncomputable def inV (x : V) (xs : List V) : Bool := xs.any fun y => eqV y x
/-- x in a list or tuple of flat items -/
noncomputable def rIn (K : PySem.W.Frag) (neg : Bool) : R2 := fun x y H Q => ∃ p xs, y = .ref p ∧ (SqL K H p xs ∨ SqT K H p xs) ∧ flatV x = true ∧ xs.all flatV = true ∧ Q (.bl (if neg then !inV x xs else inV x xs)) H
theorem op_in_seq : OpR X (compareOp .In) (rIn X.K false) := by
  intro pins s σ H x y v u Q I rx ry h
  obtain ⟨p, xs, rfl, hq, fx, fs, q⟩ := h
  cases ry
  rcases hq with hq | hq
  · obtain ⟨its, r, pl, hz⟩ := I.list hq
    refine SeqAt.in_listAt (eqU x) pl.isList (fun w hw => mem_eqAt rx fx r fs w (by simpa using hw)) ⟨.bl _, H, I, rfl, ?_⟩
    rw [show its.toArray.any (eqU x) = its.any (eqU x) by simp, any_eqU r fs]
    exact q
  · obtain ⟨its, r, pl, hz⟩ := I.tuple hq
    refine SeqAt.in_tupleAt (eqU x) pl (fun w hw => mem_eqAt rx fx r fs w (by simpa using hw)) ⟨.bl _, H, I, rfl, ?_⟩
    rw [show its.toArray.any (eqU x) = its.any (eqU x) by simp, any_eqU r fs]
    exact q
theorem op_notIn_seq : OpR X (compareOp .NotIn) (rIn X.K true) := by
  intro pins s σ H x y v u Q I rx ry h
  obtain ⟨p, xs, rfl, hq, fx, fs, q⟩ := h
  cases ry
  rcases hq with hq | hq
  · obtain ⟨its, r, pl, hz⟩ := I.list hq
    refine SeqAt.notIn_listAt (eqU x) pl.isList (fun w hw => mem_eqAt rx fx r fs w (by simpa using hw)) ⟨.bl _, H, I, rfl, ?_⟩
    rw [show its.toArray.any (eqU x) = its.any (eqU x) by simp, any_eqU r fs]
    exact q
  · obtain ⟨its, r, pl, hz⟩ := I.tuple hq
    refine SeqAt.notIn_tupleAt (eqU x) pl (fun w hw => mem_eqAt rx fx r fs w (by simpa using hw)) ⟨.bl _, H, I, rfl, ?_⟩
    rw [show its.toArray.any (eqU x) = its.any (eqU x) by simp, any_eqU r fs]
    exact q
theorem call_len_seq : CallR X (.builtin "len") (fun xs H Q => ∃ p ys, xs = [.ref p] ∧ (SqL X.K H p ys ∨ SqT X.K H p ys) ∧ Q (.int ys.length) H) := by
  intro pins s σ H xs us Q I r h
  obtain ⟨p, ys, rfl, hq, q⟩ := h
  obtain ⟨u, rfl, rx⟩ := vals1 r
  cases rx
  have hn := line63
  rcases hq with hq | hq
  · obtain ⟨its, r', pl, hz⟩ := I.list hq
    have hlen := r'.length
    exact Calls.call_len_list pl.isList (by simp only [List.size_toArray] <;> omega) ⟨.int ys.length, H, I.tok _, ⟨s.toks + 1, by rw [List.size_toArray, hlen]⟩, q⟩
  · obtain ⟨its, r', pl, hz⟩ := I.tuple hq
    have hlen := r'.length
    exact len_tuple pl (by simp only [List.size_toArray] <;> omega) ⟨.int ys.length, H, I.tok _, ⟨s.toks + 1, by rw [List.size_toArray, hlen]⟩, q⟩
theorem call_len_str : CallR X (.builtin "len") (fun xs H Q => ∃ z, xs = [.str z] ∧ z.length ≤ sizeLine ∧ Q (.int z.length) H) := by
  intro pins s σ H xs us Q I r h
  obtain ⟨z, rfl, hz, q⟩ := h
  obtain ⟨u, rfl, t, rfl⟩ := vals1 r
  have hn := line63
  exact len_str (by omega) ⟨.int z.length, H, I.tok _, ⟨_, rfl⟩, q⟩
theorem call_tuple_of : CallR X (.type "tuple") (fun xs H Q => ∃ p ys, xs = [.ref p] ∧ ((SqL X.K H p ys ∧ ∀ l, H l = none → Q (.ref l) (upd H l (.tup ys))) ∨ (SqT X.K H p ys ∧ Q (.ref p) H))) := by
  intro pins s σ H xs us Q I r h
  obtain ⟨p, ys, rfl, h⟩ := h
  obtain ⟨u, rfl, rx⟩ := vals1 r
  cases rx
  rcases h with ⟨hq, q⟩ | ⟨hq, q⟩
  · obtain ⟨its, r', pl, hz⟩ := I.list hq
    have hlen := r'.length
    refine call_tuple_list pl.isList (fun h' kp => ?_) (by simp only [List.size_toArray] <;> omega)
    have I1 : Inv X pins σ H { s with heap := h' } := I.kept (t' := s.toks) kp
    have I2 : Inv X pins σ (upd H h'.objs.size (.tup ys)) { s with heap := h'.push { cls := .type "tuple", data := .seq its.toArray } } :=
      I1.laid (t' := s.toks) (fun b o e => Heap.get?_push_of_some _ e) (Nat.le_refl _) (show ObjOk X.prog X.w _ _ _ (.tup ys) from ⟨hz, its, r', IsTup.new _ _⟩)
    exact ⟨.ref h'.objs.size, _, I2, rfl, q _ (I1.hok.fresh (Nat.le_refl _))⟩
  · obtain ⟨its, r', pl, hz⟩ := I.tuple hq
    exact call_tuple_same pl ⟨.ref p, H, I, rfl, q⟩
/-- the value is of that builtin type -/
noncomputable def tyV (K : PySem.W.Frag) (T : String) (x : V) (H : Hp) : Prop := match x with
  | .str _ => T = "str"
  | .int _ => T = "int"
  | .ref p => (T = "list" ∧ ∃ xs, SqL K H p xs) ∨ (T = "tuple" ∧ ∃ o, K.lookup p = some o ∧ o.cls = .type "tuple" ∧ o.dict = none) ∨
      (T = "dict" ∧ ((∃ kvs, H p = some (.dK kvs)) ∨ ∃ kvs, H p = some (.dT kvs))) ∨ (T = "set" ∧ ∃ S n, H p = some (.set S n))
  | _ => False
theorem tyV_is {pins : List (Addr × Obj)} {σ : St} {H : Hp} {s : Shared} {T : String} {x : V} {v : Value} (I : Inv X pins σ H s) (r : RelV x v) (ty : tyV X.K T x H) :
    s.TypeIs v T ∧ ∀ a, v = .ref a → ∃ ob, s.heap.get? a = some ob ∧ ob.dict = none := by
  cases x with
  | str z =>
    obtain ⟨t, rfl⟩ := r
    cases (show T = "str" from ty)
    exact ⟨typeIs_str s z t, fun _ e => nomatch e⟩
  | int i =>
    obtain ⟨t, rfl⟩ := r
    cases (show T = "int" from ty)
    exact ⟨typeIs_int s i t, fun _ e => nomatch e⟩
  | ref p =>
    cases r
    rcases ty with ⟨rfl, xs, hq⟩ | ⟨rfl, o, hk, hc, hd⟩ | ⟨rfl, hk⟩ | ⟨rfl, S, n, hk⟩
    · obtain ⟨its, _, pl, _⟩ := I.list hq
      refine ⟨pl.isList.typeIs, fun a e => ?_⟩
      cases e
      obtain ⟨o, n, e, c, hd, _⟩ := pl
      exact ⟨o, e, hd⟩
    · refine ⟨⟨o, I.kIn p o hk, hc⟩, fun a e => ?_⟩
      cases e
      exact ⟨o, I.kIn _ o hk, hd⟩
    · have z : ∃ o, s.heap.get? p = some o ∧ o.ExactDict := by
        rcases hk with ⟨kvs, hk⟩ | ⟨kvs, hk⟩
        · obtain ⟨_, _, _, _, o, _, _, e, ex, _⟩ := I.hok p _ hk
          exact ⟨o, e, ex⟩
        · obtain ⟨_, _, _, _, o, _, _, e, ex, _⟩ := I.hok p _ hk
          exact ⟨o, e, ex⟩
      obtain ⟨o, e, ex⟩ := z
      refine ⟨⟨o, e, ex.1⟩, fun a e2 => ?_⟩
      cases e2
      exact ⟨o, e, ex.2.1⟩
    · obtain ⟨o, _, _, _, e, ex, _⟩ := I.hok p _ hk
      refine ⟨⟨o, e, ex.1⟩, fun a e2 => ?_⟩
      cases e2
      exact ⟨o, e, ex.2.1⟩
  | _ => exact False.elim ty
noncomputable def tBM (K : PySem.W.Frag) (T : String) (r : V → List V → Hp → VK → Prop) (to : TE) (t : TA) : TE := fun σ H Q => to σ H fun x H1 => tyV K T x H1 ∧ t σ H1 fun xs H2 => r x xs H2 Q
variable {o e : Expr} {es : List Expr} {to : TE} {t : TA} {name : Str} {apos cpos : Pos} {T id : String} {r : V → List V → Hp → VK → Prop}
theorem pe_bm (pa : PlainAttrs T) (slot : Slot T name id) (hty : typeOf (.builtin id) = pure (.type "method_descriptor")) (hm : MtR X id r) (ho : PE X o to) (ha : PA X (e :: es) t)
    (hbase : attributeBase o name X.env (eval o X.env) = eval o X.env := by rfl)
    (hfew : ((backTo cpos (starEach (e :: es) X.env)).all (fun x => !x.1) && (backToKw cpos (keywordEach [] X.env)).all (fun x => x.1.isSome)
      && decide ((e :: es).length + ([] : List Keyword).length + (if ([] : List Keyword).isEmpty then 0 else 1) < 30)) = true := by rfl)
    (hline : (apos.endLine == cpos.line) = true := by rfl) (hs : starEach (e :: es) X.env = (false, eval e X.env) :: starEach es X.env := by rfl) (hplain : (backTo cpos (starEach es X.env)).any (·.1) = false := by rfl) :
    PE X (.Call (.Attribute o name apos) (e :: es) [] cpos) (tBM X.K T r to t) := by
  intro pins s σ H Q I h
  refine wpAny_Call_method_late hbase hfew hline rfl (thn (ho pins s σ H _ I h) fun v s1 ⟨x, H1, I1, r1, ty, q1⟩ => ?_)
  obtain ⟨h1, h2⟩ := tyV_is I1 r1 ty
  refine ⟨T, id, pa, slot, hty, h1, h2, ?_⟩
  have hA := ha cpos pins s1 σ H1 _ I1 q1
  rw [hs] at hA ⊢
  refine Calls.callWith_builtin (by show (false || (backTo cpos (starEach es X.env)).any (·.1)) = false; rw [hplain] <;> rfl) (Calls.evalArgs_plain ?_)
  exact thn hA fun us s2 ⟨vs, H2, I2, r2, q2⟩ => hm pins s2 σ H2 x vs v us Q I2 r1 r2 q2
end
end L2
namespace L2
open PySem PySem.Spec PyProof.Rows
noncomputable def MtM (X : Cx) (id : String) (r : V → List V → Hp → VK → Prop) : Prop :=
  ∀ (pins : List (Addr × Obj)) (s : Shared) (σ : St) (H : Hp) (x : V) (xs : List V) (v : Value) (us : List Value) (Q : VK), Inv X pins σ H s → RelV x v → Vals xs us → r x xs H Q →
    wpAny (model X.prog X.w) X.A (call (.builtin id) (v :: us)) (EP X pins σ Q) X.xe s
theorem Vals.one : ∀ {x : V} {us : List Value}, Vals [x] us → ∃ u, us = [u] ∧ RelV x u
  | _, _, .cons r .nil => ⟨_, rfl, r⟩
theorem Vals.two : ∀ {x y : V} {us : List Value}, Vals [x, y] us → ∃ u v, us = [u, v] ∧ RelV x u ∧ RelV y v
  | _, _, _, .cons r (.cons q .nil) => ⟨_, _, rfl, r, q⟩
theorem Vals.eraseIdx : ∀ {xs : List V} {us : List Value} (i : Nat), Vals xs us → Vals (xs.eraseIdx i) (us.eraseIdx i)
  | _, _, _, .nil => .nil
  | _, _, 0, .cons _ t => t
  | _, _, i + 1, .cons r t => .cons r (Vals.eraseIdx i t)
theorem len_erase {α : Type} : ∀ (l : List α) (i : Nat), (l.eraseIdx i).length ≤ l.length
  | [], _ => Nat.le_refl _
  | _ :: _, 0 => Nat.le_succ _
  | _ :: r, i + 1 => Nat.succ_le_succ (len_erase r i)
section
variable {X : Cx} {pins : List (Addr × Obj)} {σ : St} {H : Hp} {s : Shared} {l b : Addr} {xs ys zs : List V}
theorem Inv.lset {its its' : List Value} {n : Nat} {f : Array Value → Array Value} {t' : Nat} (I : Inv X pins σ H s) (hH : H l = some (.lst xs))
    (e : s.heap.get? l = some { cls := .type "list", data := .seq its.toArray n }) (hf : f its.toArray = its'.toArray) (hv : Vals ys its') (hz : ys.length ≤ sizeLine) :
    Inv X pins σ (upd H l (.lst ys)) { s with heap := s.heap.update l (Obj.mapSeq f), toks := t' } := by
  have q := PySem.IsL.update e f
  rw [hf] at q
  refine I.write (x := l) (e := l) (by rw [hH]; exact trivial) (.inl rfl) (fun b' u hb hu => (Heap.get?_update_other s.heap (Obj.mapSeq f) (Ne.symm hb)).trans hu) ⟨_, q⟩ ?_
  exact ⟨hz, its', _, hv, q⟩
theorem Inv.lnew {its : List Value} {t' : Nat} (I : Inv X pins σ H s) (hv : Vals ys its) (hz : ys.length ≤ sizeLine) :
    Inv X pins σ (upd H s.heap.objs.size (.lst ys)) { s with heap := s.heap.push { cls := .type "list", data := .seq its.toArray }, toks := t' } :=
  I.laid (fun _ _ q => Heap.get?_push_of_some _ q) (Nat.le_refl _) ⟨hz, its, 0, hv, Heap.get?_push_size _ rfl⟩
theorem Inv.fresh (I : Inv X pins σ H s) : H s.heap.objs.size = none := I.hok.fresh (Nat.le_refl _)
theorem Inv.lstM (I : Inv X pins σ H s) (hH : H l = some (.lst xs)) : xs.length ≤ sizeLine ∧ ∃ (its : List Value) (n : Nat), Vals xs its ∧ xs.length = its.length ∧ s.heap.get? l = some { cls := .type "list", data := .seq its.toArray n } := by
  obtain ⟨z, its, n, r, e⟩ := I.hok l _ hH
  exact ⟨z, its, n, r, r.length, e⟩
theorem notLongL {n : Nat} (h : n ≤ sizeLine) : Builtin.List.listTooLong n = false := by
  unfold Builtin.List.listTooLong
  exact decide_eq_false (by omega)
end
section
variable {X : Cx}
noncomputable def rAppend : V → List V → Hp → VK → Prop := fun x vs H Q => ∃ l xs y, x = .ref l ∧ vs = [y] ∧ H l = some (.lst xs) ∧ xs.length < sizeLine ∧ Q .non (upd H l (.lst (xs ++ [y])))
theorem mt_append : MtM X "list.append" rAppend := by
  intro pins s σ H x vs v us Q I rx rv h
  obtain ⟨l, xs, y, rfl, rfl, hH, hz, q⟩ := h
  cases rx
  obtain ⟨u, rfl, ru⟩ := rv.one
  obtain ⟨z, its, n, r, hl, e⟩ := I.lstM hH
  refine call_meets F.slot_list_append ⟨_, e, rfl⟩ F.entry_list_append (F.args_list_append_2 _ _) (PySem.list_append l its.toArray n u (by rw [List.size_toArray]; omega)) ⟨e, ?_⟩
  refine ⟨.non, _, I.lset (its' := its ++ [u]) hH e (by simp) (r.append (.cons ru .nil)) ?_, rfl, q⟩
  rw [List.length_append, List.length_singleton]
  omega
noncomputable def rPopAt : V → List V → Hp → VK → Prop := fun x vs H Q => ∃ l xs i k y, x = .ref l ∧ vs = [.int i] ∧ H l = some (.lst xs) ∧ -(2 ^ 63) ≤ i ∧ i < 2 ^ 63 ∧ seqIndex? i xs.length = some k ∧ xs[k]? = some y ∧ Q y (upd H l (.lst (xs.eraseIdx k)))
theorem mt_popAt : MtM X "list.pop" rPopAt := by
  intro pins s σ H x vs v us Q I rx rv h
  obtain ⟨l, xs, i, k, y, rfl, rfl, hH, h1, h2, hk, hy, q⟩ := h
  cases rx
  obtain ⟨u, rfl, ru⟩ := rv.one
  obtain ⟨t, rfl⟩ := ru
  obtain ⟨z, its, n, r, hl, e⟩ := I.lstM hH
  obtain ⟨w, hw, rw'⟩ := r.get hy
  refine call_meets F.slot_list_pop ⟨_, e, rfl⟩ F.entry_list_pop (F.args_list_pop_2 _ _)
    (MeetsSeq.list_pop_at l its.toArray n i t k w (fitsIndex_both h1 h2) (by rw [List.size_toArray, ← hl]; exact hk) (by rw [← Array.getElem?_toList]; exact hw) (by rw [List.size_toArray]; omega)) ⟨e, ?_⟩
  refine ⟨y, _, I.lset (its' := its.eraseIdx k) hH e ?_ (r.eraseIdx k) ?_, rw', q⟩
  · show its.toArray.eraseIdxIfInBounds k = (its.eraseIdx k).toArray
    rw [List.eraseIdxIfInBounds_toArray]
  · have := len_erase xs k
    omega
end
section
variable {prog : Program} {w : World} {A : Around} {E : Value → Shared → Prop} {s : Shared}
end
section
variable {X : Cx}
end
end L2
namespace Att
open PySem PySem.W PySem.Calls PyProof.Rows
theorem ints_of_wellAll {P : Params} {h : Heap} : ∀ (ns : List Int) (vs : List Value), WellAll P h vs (ns.map WData.int) → IntsAre vs ns := by
  intro ns
  induction ns with
  | nil =>
    intro vs w
    rw [List.map_nil] at w
    cases w
    exact .nil
  | cons n ns ih =>
    intro vs w
    rw [List.map_cons] at w
    cases w with
    | cons a b =>
      cases a
      exact .cons _ _ (ih _ b)
theorem script_of {l : OpenLaw} {n : Nat} (hn : l.most = some n) {P : Params} {h : Heap} {args : List WData} {vals : List Value}
    (hpre : l.row.toRowW.claim.pre args = true) (hwl : WellAll P h vals args) :
    ∃ a vs ns, vals = [Value.ref a] ∧ args = [WData.list (ns.map WData.int)] ∧ h.get? a = some { cls := .type "list", data := .seq vs.toArray } ∧ IntsAre vs ns ∧ ns.length ≤ n := by
  have hsh : WShape.hasAll [] args [.list .int] = true := (pre_splitW hpre).1
  have hc : l.pre.holds [] { args := args } = true := (pre_splitW hpre).2
  obtain ⟨d, r, rfl, h1, h2⟩ := hasAllW_cons hsh
  obtain rfl := hasAllW_nil h2
  obtain ⟨xs, rfl, h3⟩ := hasW_list h1
  obtain ⟨ns, rfl⟩ := items_int h3
  have hlen : ns.length ≤ n := by
    unfold OpenLaw.pre at hc
    have h4 : (WTm.not (.lt (.lit (.int (n : Int))) (.len (.arg 0)))).holds [] { args := [.list (ns.map .int)] } = true := by
      have h4 := (holds_andW hc).1
      rw [hn] at h4
      exact h4
    have h5 := condW_of h4 (w_not (w_lt w_lit (w_len_list (w_arg rfl))))
    rw [List.length_map] at h5
    refine Nat.le_of_not_lt fun q => ?_
    have q' : (n : Int) < ((ns.length : Nat) : Int) := by omega
    first
      | (rw [decide_eq_true q'] at h5; exact absurd h5 (by decide))
      | (simp at h5; omega)
  cases hwl with
  | cons w1 w2 =>
    cases w2
    cases w1 with
    | list ho hall => exact ⟨_, _, ns, rfl, rfl, ho, ints_of_wellAll ns _ hall, hlen⟩
theorem post_true (l : OpenLaw) (args : List WData) : l.row.toRowW.claim.post args (.bool true) args = true :=
  postW_of (r := l.row.toRowW) (X := (true == true))
    (show WShape.has [] (.bool true) .bool = true by first | rfl | decide | simp [WShape.has, WShape.arms, WShape.armsAll])
    (show (WTm.eq .res (.lit (.bool true))).value [] { args := args, res := some (.bool true), after := args } = some (.bool (true == true)) from w_eq_bool (w_res rfl) w_lit) rfl
section
variable {prog : Program} {w : World} {A : Around} {E : Value → Shared → Prop} {s : Shared} {K : Frag}
end
end Att
namespace L2
open PySem PySem.Spec PyProof.Rows
theorem vals_ints : ∀ {vs : List Value} {ns : List Int}, IntsAre vs ns → Vals (ns.map V.int) vs
  | _, _, .nil => .nil
  | _, _, .cons n t h => .cons ⟨t, rfl⟩ (vals_ints h)
/-- nothing is tracked but the script, known to the object (or it is an object of the module) -/
noncomputable def Only (H : Hp) : Prop := ∀ b, H b = none ∨ ∃ o xs, H b = some (.frz o (.lst xs))
/-- THE HEAD: the law's promise, at the heap behind the top. F, the promise of the law's def, may use that base is part of the heap (so K.In base, base.Ns mainGlobals mg stand in Mod) -/
theorem law_call {P : Program} {w : World} {K : PySem.W.Frag} {mg mb : Str → Option Value} {CX : CXT} {k : Nat} {fa a : Addr} {fd : FuncData} {x : Str} {sp : Sp} {s₁ : Shared} {vs : List Value} {ns : List Int}
    (KX : K.In s₁.heap) (hns : s₁.heap.Ns mainGlobals mg) (hb : s₁.heap.Ns builtinsNs mb) (hbb : ∀ x : Str, x ≠ "__name__" → mb x = bootBuiltins x) (hlim : s₁.heap.NoLimit) (hg : s₁.gens = #[])
    (ha : s₁.heap.get? a = some { cls := .type "list", data := .seq vs.toArray }) (hi : IntsAre vs ns) (hl : ns.length ≤ sizeLine) (hr : Room k callerA)
    (F : ∀ base : Heap, K.In base → base.Ns mainGlobals mg → FnOk P w K mg base CX k fa fd [x] sp) (hbind : ∀ (s : Shared) (u : Value), BindsTo s fd ⟨[u], []⟩ [(x, u)])
    (hsp : ∀ H : Hp, Only H → SqL K H a (ns.map V.int) → sp [.ref a] H (fun v _ => v = .bl true) fun _ _ _ => False)
    (hCX : ∀ H e s', CX [] H s₁ (fun _ _ _ => False) e s' → False) :
    codeAny (model P w) callerA (.call (.ref fa) ⟨[.ref a], []⟩) (fun r s' => r = .ok (.ret (.bool true)) ∧ OldK s₁.heap s'.heap ∧ s'.os = s₁.os ∧ AllBare s'.gens) s₁ := by
  have rv := vals_ints hi
  have lenV := hi.length
  -- from an abstract heap in which nothing but the script may be tracked
  have core : ∀ H : Hp, Only H → SqL K H a (ns.map V.int) → HOk P w H s₁.heap → (∀ b, H b ≠ none → b = a) → (H a ≠ none → K.lookup a = none) →
      codeAny (model P w) callerA (.call (.ref fa) ⟨[.ref a], []⟩) (fun r s' => r = .ok (.ret (.bool true)) ∧ OldK s₁.heap s'.heap ∧ s'.os = s₁.os ∧ AllBare s'.gens) s₁ := by
    intro H hO hS hok hA hK
    have base_of : ∀ {b : Addr} {o : Obj}, s₁.heap.get? b = some o → H b = none → (hidT s₁.heap H).get? b = some o := fun e n => hidT_get e n
    have noA : ∀ {b : Addr} {o : Obj} {es : Array DictEntry} {ep : Nat}, s₁.heap.get? b = some o → o.data = .dict es ep → H b = none := fun {b o es ep} e d => by
      cases q : H b with
      | none => rfl
      | some u =>
        have e' : b = a := hA b (by rw [q]; simp)
        subst e'
        rw [ha] at e; cases e
        have d' : Data.seq vs.toArray _ = Data.dict es ep := d
        cases d'
    have nsK : ∀ {b : Addr} {m : Str → Option Value}, s₁.heap.Ns b m → (hidT s₁.heap H).Ns b m := fun {b m} ⟨o, es, ep, e, d, r⟩ => ⟨o, es, ep, base_of e (noA e d), d, r⟩
    have hKb : K.In (hidT s₁.heap H) := fun b o e => base_of (KX b o e) (by
      cases q : H b with
      | none => rfl
      | some u =>
        have e' : b = a := hA b (by rw [q]; simp)
        subst e'
        rw [hK (by rw [q]; simp)] at e; cases e)
    have hM : Mod K mg (hidT s₁.heap H) := ⟨hKb, nsK hns, ⟨mb, nsK hb, hbb⟩, let ⟨mc, h1, h2⟩ := hlim; ⟨mc, nsK h1, h2⟩⟩
    have e0 : Env0 P w K mg (hidT s₁.heap H) callerA [] s₁ H := ⟨rfl, hM, fun b o e => of_hidT e, Nat.le_of_eq (hidT_size _ _), trivial, fun b hb => absurd (show b ∈ ([] : List Addr) from hb) (by simp), hok, .of_eq hg⟩
    refine codeAny_mono ((F _ hKb (nsK hns)).run callerA [] s₁ H ⟨[.ref a], []⟩ [.ref a] [.ref a] _ _ hr e0 (hbind s₁ (.ref a)) (.cons rfl .nil) (hsp H hO hS)) fun r s' h => ?_
    cases r with
    | error e => exact (hCX H e s' h).elim
    | ok fl =>
      cases fl with
      | next => exact False.elim h
      | brk => exact False.elim h
      | cont => exact False.elim h
      | ret u =>
        obtain ⟨v, H', os, bare, un, hok', r', q⟩ := h
        have q' : v = .bl true := q
        subst q'
        obtain rfl : u = Value.bool true := r'
        refine ⟨rfl, OldK.of_keep fun b o e => ?_, os, bare⟩
        cases q : H b with
        | none => exact un.keep b o e q (by intro z; exact absurd (show b ∈ ([] : List Addr) from z) (by simp)) (by simp)
        | some u =>
          rcases hO b with z | ⟨ob, xs, z⟩
          · rw [q] at z; cases z
          · have z2 := un.frzs b ob _ z
            obtain ⟨e1, _⟩ := hok b _ z
            obtain ⟨e2, _⟩ := hok' b _ z2
            rw [e] at e1; cases e1
            exact e2
  cases hk : K.lookup a with
  | some o =>
    -- the script is one of the module's own objects
    have e := KX a o hk
    rw [ha] at e
    cases e
    refine core (fun _ => none) (fun _ => .inl rfl) (.inr ⟨_, vs.toArray, _, hk, rfl, rfl, rfl, by rw [List.size_toArray, lenV]; exact hl, by simpa using rv⟩) (fun b u z => by have z' : (none : Option HO) = some u := z; cases z') (fun b z => absurd rfl z) fun z => absurd rfl z
  | none =>
    refine core (fun b => if b = a then some (.frz { cls := .type "list", data := .seq vs.toArray } (.lst (ns.map V.int))) else none) (fun b => ?_) (.inl (.inr ⟨{ cls := .type "list", data := .seq vs.toArray }, if_pos rfl⟩)) (fun b u z => ?_) (fun b z => ?_) fun _ => hk
    · by_cases hb : b = a
      · exact .inr ⟨_, _, if_pos hb⟩
      · exact .inl (if_neg hb)
    · by_cases hb : b = a
      · have z' := (if_pos hb).symm.trans z
        cases z'
        subst hb
        exact ⟨ha, by rw [List.length_map]; exact hl, vs, _, rv, ha⟩
      · have z' := (if_neg hb).symm.trans z
        cases z'
    · by_cases hb : b = a
      · exact hb
      · exact absurd (if_neg hb) z
end L2
namespace L2
open PySem PySem.Spec PyProof.Rows
end L2
namespace L2
open PySem PySem.Spec PyProof.Rows
noncomputable def defArgs (s : Stmt) : Arguments := match s with
  | .FunctionDef _ a _ _ _ _ _ _ _ _ => a
  | _ => { posonlyargs := [], args := [], vararg := none, kwonlyargs := [], kw_defaults := [], kwarg := none, defaults := [] }
noncomputable def defBody (s : Stmt) : List Stmt := match s with
  | .FunctionDef _ _ b _ _ _ _ _ _ _ => b
  | _ => []
noncomputable def defScope (s : Stmt) : Scope := match s with
  | .FunctionDef _ _ _ _ _ _ sc _ _ _ => sc
  | _ => { kind := .function, names := [], isGenerator := false, isCoroutine := false }
structure Fun (K : PySem.W.Frag) (x qual : Str) (st : Stmt) (f : Addr) (fd : FuncData) : Prop where
  ex : ∃ (oc : Value) (od : Option Addr) (kV doc pm : Value) (an : Option Addr) (cdv ct : Value) (osl : Array (Option Value)),
    fd = PySem.W.fnOf x qual (defArgs st) (defBody st) (defScope st) .none kV doc pm an cdv ct ∧ K.lookup f = some ⟨oc, od, .func fd, osl⟩ ∧ PySem.W.codeIn K cdv qual = true
  kp : PySem.W.keepIn K (.ref f) = true
section
variable {P : Program} {w : World} {K : PySem.W.Frag} {mg : Str → Option Value} {base : Heap}
/-- how its arguments bind (no defaults): h is «fun _ _ _ _ _ _ us hl => match us, hl with | [_, _], _ => rfl», one _ a parameter -/
theorem Fun.binds {x qual : Str} {st : Stmt} {f : Addr} {fd : FuncData} {ps : List Str} (F : Fun K x qual st f fd)
    (h : ∀ (kV doc pm : Value) (an : Option Addr) (cdv ct : Value) (us : List Value), us.length = ps.length → bindArgs (PySem.W.fnOf x qual (defArgs st) (defBody st) (defScope st) .none kV doc pm an cdv ct) ⟨us, []⟩ = pure (ps.zip us)) : Binds K fd ps [] := by
  obtain ⟨oc, od, kV, doc, pm, an, cdv, ct, osl, rfl, lk, hcd⟩ := F.ex
  exact .all (h kV doc pm an cdv ct)
theorem fun_mk {x qual : Str} {st : Stmt} {f : Addr} {oc : Value} {od an : Option Addr} {osl : Array (Option Value)} {kV doc pm cdv ct : Value} (l : K.lookup f = some ⟨oc, od, .func (PySem.W.fnOf x qual (defArgs st) (defBody st) (defScope st) .none kV doc pm an cdv ct), osl⟩)
    (c : PySem.W.codeIn K cdv qual = true) (k : PySem.W.keepIn K (.ref f) = true) : Fun K x qual st f (PySem.W.fnOf x qual (defArgs st) (defBody st) (defScope st) .none kV doc pm an cdv ct) := ⟨⟨oc, od, kV, doc, pm, an, cdv, ct, osl, rfl, l, c⟩, k⟩
end
section
variable {X : Cx}
end
/-- all that was tracked is as it was -/
noncomputable def Same (H H' : Hp) : Prop := ∀ b o, H b = some o → H' b = some o
theorem Same.refl (H : Hp) : Same H H := fun _ _ h => h
theorem Same.trans {H H1 H2 : Hp} (a : Same H H1) (b : Same H1 H2) : Same H H2 := fun c o h => b c o (a c o h)
theorem Same.free {H H' : Hp} (e : Same H H') {l : Addr} (h : H' l = Option.none) : H l = Option.none := by
  cases q : H l with
  | none => rfl
  | some o =>
    rw [e l o q] at h
    cases h
theorem Same.seq {K : PySem.W.Frag} {H H' : Hp} {a : Addr} {xs : List V} (e : Same H H') (h : SqL K H a xs) : SqL K H' a xs := by
  rcases h with (h | ⟨o, h⟩) | h
  · exact .inl (.inl (e _ _ h))
  · exact .inl (.inr ⟨o, e _ _ h⟩)
  · exact .inr h
end L2
namespace L2
open PySem PySem.Spec PyProof.Rows
section
variable {prog : Program} {w : World} {A : Around} {R : Result → Shared → Prop} {s : Shared}
/-- a comprehension's loop, whatever its target -/
theorem compLoop_any {elt target iter : Expr} {ifs : List Expr} {scope : Scope} {pos : Pos} {it acc : Value} {env : Env} (J : Nat → Shared → Prop)
    (turn : ∀ n s, J n s → wpAny (model prog w) A (pyNext it) (fun r s1 => match r with
      | none => R (.ok .next) s1
      | some v => wpAny (model prog w) A (letOwnedTupleGo target it v) (fun _ s1' => wpAny (model prog w) A (assign target env v) (fun _ s2 =>
          wpAny (model prog w) A (forIn ifs true fun c r => if r = true then do let ok ← isTrue c env (eval c env); pure (ForInStep.yield ok) else pure (ForInStep.yield r)) (fun ok s3 =>
            if ok = true then wpAny (model prog w) A (eval elt env) (fun x s4 =>
              wpAny (model prog w) A (call (.builtin "list.append") [acc, x]) (fun _ s5 => ∃ m, m < n ∧ J m s5) (fun _ _ => False) s4) (fun _ _ => False) s3
            else ∃ m, m < n ∧ J m s3) (fun _ _ => False) s2) (fun _ _ => False) s1') (fun _ _ => False) s1) (fun _ _ => False) s)
    (n : Nat) (h : J n s) : codeAny (model prog w) A (.compLoop (.ListComp elt [⟨target, iter, ifs, 0⟩] scope pos) 0 it acc env) R s := by
  refine codeAny_loop rfl J (fun n s hI => ?_) n h
  show wpAny _ A ((compTurn (.ListComp elt [⟨target, iter, ifs, 0⟩] scope pos) 0 it acc env).onRaise (fun x => do noteFrame x env; theTreesLotGoes x)) _ _ s
  refine wpAny_noted ?_
  rw [compTurn_list]
  refine wpAny_bind (wpAny_standAt (wpAny_bind (wpAny_mono (turn n s hI) (fun r s1 h1 => ?_) fun _ _ h' => h'.elim)))
  cases r with
  | none => exact wpAny_pure h1
  | some v =>
    refine wpAny_bind (wpAny_mono h1 (fun _ s1' h1' => ?_) fun _ _ h' => h'.elim)
    refine wpAny_bind (wpAny_mono h1' (fun _ s2 h2 => wpAny_bind (wpAny_mono h2 (fun ok s3 h3 => ?_) fun _ _ h' => h'.elim)) fun _ _ h' => h'.elim)
    cases ok with
    | false => exact wpAny_pure ⟨rfl, h3⟩
    | true =>
      exact wpAny_bind (wpAny_bind (wpAny_mono h3 (fun x s4 h4 => wpAny_bind (wpAny_mono h4 (fun _ s5 h5 => wpAny_pure (wpAny_pure ⟨rfl, h5⟩)) fun _ _ h' => h'.elim)) fun _ _ h' => h'.elim))
end
noncomputable def clOf (cells : List (Str × Addr)) : List (Str × NameKind) → List (Str × Addr) → List (Str × Addr)
  | [], acc => acc
  | (n, k) :: r, acc => if k == .free then clOf cells r ((n, (cells.lookup n).getD 0) :: acc) else clOf cells r acc
theorem closure_is {scope : Scope} {env : Env} (h : ∀ y ∈ scope.names, y.2 = .free → ∃ c, env.cells.lookup y.1 = some c) : closureFor scope env = pure (clOf env.cells scope.names []) := by
  have all : ∀ (l : List (Str × NameKind)) (acc : List (Str × Addr)), (∀ y ∈ l, y.2 = .free → ∃ c, env.cells.lookup y.1 = some c) →
      (forIn l acc (fun (x : Str × NameKind) (r : List (Str × Addr)) => match x with | (name, kind) => (if (kind == .free) = true then (do let c ← cellOf env name; pure (ForInStep.yield ((name, c) :: r))) else pure (ForInStep.yield r) : Sem _))) = (pure (clOf env.cells l acc) : Sem _) := by
    intro l
    induction l with
    | nil => intro acc _; rfl
    | cons y l ih =>
      intro acc hl
      obtain ⟨n, k⟩ := y
      rw [List.forIn_cons]
      unfold clOf
      by_cases hk : (k == NameKind.free) = true
      · obtain ⟨c, hc⟩ := hl (n, k) List.mem_cons_self (by simpa using hk)
        have hc' : cellOf env n = pure c := by unfold cellOf; rw [show env.cells.lookup n = some c from hc]
        have hc2 : env.cells.lookup n = some c := hc
        simp only [hk, if_true, hc', hc2, pure_bind, Option.getD_some]
        exact ih _ fun y hy => hl y (List.mem_cons_of_mem _ hy)
      · simp only [hk, if_false, pure_bind]
        exact ih _ fun y hy => hl y (List.mem_cons_of_mem _ hy)
  unfold closureFor
  have := all scope.names [] h
  first
    | (rw [this]; rfl)
    | (simp only [bind_pure]; exact this)
theorem clOf_sub {cells : List (Str × Addr)} : ∀ {l : List (Str × NameKind)} {acc : List (Str × Addr)}, (∀ y ∈ l, y.2 = .free → ∃ c, cells.lookup y.1 = some c) → (∀ x c, acc.lookup x = some c → cells.lookup x = some c) → ∀ x c, (clOf cells l acc).lookup x = some c → cells.lookup x = some c
  | [], _, _, ha, x, c, e => ha x c e
  | (n, k) :: r, acc, hl, ha, x, c, e => by
    unfold clOf at e
    split at e
    · refine clOf_sub (fun y hy => hl y (List.mem_cons_of_mem _ hy)) (fun z d q => ?_) x c e
      rw [List.lookup_cons] at q
      split at q
      · rename_i hk _ hz
        obtain ⟨d', hd⟩ := hl (n, k) List.mem_cons_self (by simpa using hk)
        have hd : cells.lookup n = some d' := hd
        rw [hd] at q
        have hz' : z = n := by simpa using hz
        rw [hz', hd]
        exact q
      · exact ha z d q
    · exact clOf_sub (fun y hy => hl y (List.mem_cons_of_mem _ hy)) ha x c e
theorem clOf_has {cells : List (Str × Addr)} : ∀ {l : List (Str × NameKind)} {acc : List (Str × Addr)} {x : Str}, ((∃ c, acc.lookup x = some c) ∨ (x, NameKind.free) ∈ l) → ∃ c, (clOf cells l acc).lookup x = some c
  | [], _, _, h => by
    rcases h with h | h
    · exact h
    · simp at h
  | (n, k) :: r, acc, x, h => by
    unfold clOf
    split
    · rename_i hk
      refine clOf_has ?_
      rcases h with ⟨c, h⟩ | h
      · refine .inl ?_
        rw [List.lookup_cons]
        split
        · exact ⟨_, rfl⟩
        · exact ⟨c, h⟩
      · rcases List.mem_cons.mp h with e | h
        · refine .inl ?_
          cases e
          rw [List.lookup_cons]
          simp
        · exact .inr h
    · rename_i hk
      refine clOf_has ?_
      rcases h with h | h
      · exact .inl h
      · rcases List.mem_cons.mp h with e | h
        · cases e
          exact absurd (by rfl) hk
        · exact .inr h
/-- what relabel makes of a name's kind -/
theorem relabel_of {scope : Scope} {env : Env} {x : Str} : ∀ {l : List (Str × NameKind)} {k : NameKind}, (l.map fun (n, k) => if (k == NameKind.free && env.scope.kind == .function && env.kindOf n == some .cell) then (n, NameKind.cell) else (n, k)).lookup x = some k →
    l.lookup x = some k ∨ (k = .cell ∧ l.lookup x = some .free)
  | [], _, h => by simp at h
  | (n, j) :: r, k, h => by
    simp only [List.map_cons] at h
    by_cases hx : x = n
    · subst hx
      by_cases hc : (j == NameKind.free && env.scope.kind == .function && env.kindOf x == some .cell) = true
      · rw [if_pos hc] at h
        simp at h
        have hj : j = .free := by
          simp only [Bool.and_eq_true] at hc
          simpa using hc.1.1
        exact .inr ⟨h.symm, by simp [hj]⟩
      · rw [if_neg hc] at h
        simp at h
        exact .inl (by simp [h])
    · have hb : (x == n) = false := by simpa using hx
      by_cases hc : (j == NameKind.free && env.scope.kind == .function && env.kindOf n == some .cell) = true
      · rw [if_pos hc] at h
        simp only [List.lookup_cons, hb] at h ⊢
        exact relabel_of (scope := scope) h
      · rw [if_neg hc] at h
        simp only [List.lookup_cons, hb] at h ⊢
        exact relabel_of (scope := scope) h
theorem relabel_free {env : Env} {x : Str} : ∀ {l : List (Str × NameKind)}, l.lookup x = some .free →
    (l.map fun (n, k) => if (k == NameKind.free && env.scope.kind == .function && env.kindOf n == some .cell) then (n, NameKind.cell) else (n, k)).lookup x = some .cell ∨
    (l.map fun (n, k) => if (k == NameKind.free && env.scope.kind == .function && env.kindOf n == some .cell) then (n, NameKind.cell) else (n, k)).lookup x = some .free
  | [], h => by simp at h
  | (n, j) :: r, h => by
    simp only [List.map_cons]
    by_cases hx : x = n
    · subst hx
      simp at h
      subst h
      by_cases hc : (NameKind.free == NameKind.free && env.scope.kind == .function && env.kindOf x == some .cell) = true
      · rw [if_pos hc]; simp
      · rw [if_neg hc]; simp
    · have hb : (x == n) = false := by simpa using hx
      simp only [List.lookup_cons, hb] at h
      have ih := relabel_free (env := env) h
      by_cases hc : (j == NameKind.free && env.scope.kind == .function && env.kindOf n == some .cell) = true
      · rw [if_pos hc]; simp only [List.lookup_cons, hb]; exact ih
      · rw [if_neg hc]; simp only [List.lookup_cons, hb]; exact ih
/-- a comprehension's scope: O its own names, F the captured ones, cap their slots in the def -/
structure CmpScope (N : List Str) (sc : Scope) (O F : List Str) (cap : List Nat) (scope : Scope) : Prop where
  kind : scope.kind = .function
  nocell : ∀ y ∈ scope.names, y.2 ≠ .cell
  names : ∀ y ∈ scope.names, y.2 = .local → scope.names.lookup y.1 = some .local
  frees : ∀ y ∈ scope.names, y.2 = .free → sc.names.lookup y.1 = some .cell ∨ sc.names.lookup y.1 = some .free
  caps : F.map some = cap.map (fun j => N[j]?)
  capf : ∀ x ∈ F, scope.names.lookup x = some .free
noncomputable def cxComp (X : Cx) (N : List Str) (scope : Scope) (cl : List (Str × Addr)) (C : Addr) (ex : List Addr) (s : Shared) (H : Hp) : Cx :=
  { X with N := N, s₀ := s, H₀ := H, env := compEnvC scope cl C X.env, outer := X.stack, ex := ex, fn := fun _ => false, pn := [], xe := fun _ _ => False }
/-- the slots of a comprehension's block at the start of a turn -/
noncomputable def cmpSt (O : List Str) (cap : List Nat) (σ : St) : St := O.map (fun _ => none) ++ cap.map (fun j => (σ[j]?).getD none)
/-- the tests of a comprehension -/
noncomputable def PTs (X : Cx) (ifs : List Expr) (t : TT) : Prop :=
  ∀ (pins : List (Addr × Obj)) (s : Shared) (σ : St) (H : Hp) (Q : Bool → Hp → Prop), Inv X pins σ H s → t σ H Q →
    wpAny (model X.prog X.w) X.A (forIn ifs true fun c r => if r = true then do let ok ← isTrue c X.env (eval c X.env); pure (ForInStep.yield ok) else pure (ForInStep.yield r)) (TP X pins σ Q) X.xe s
noncomputable def tTrue : TT := fun _ H Q => Q true H
theorem pts_nil {X : Cx} : PTs X [] tTrue := fun _ _ _ H _ I h => wpAny_tests_nil ⟨H, I, h⟩
theorem pts_one {X : Cx} {c : Expr} {t : TT} (h : PT X c t) : PTs X [c] t := fun pins s σ H Q I q => wpAny_tests_one (h pins s σ H Q I q)
/-- W: the invariant by the turn, a measure, what was made; -/
noncomputable def tComp (wi : TI) (O : List Str) (cap : List Nat) (g : TG) (tt : TT) (te : TE) : TE := fun σ H Q => wi σ H fun J H1 => ∃ W : Nat → Nat → List V → Hp → Prop, (∃ m, W 0 m [] H1) ∧ ∀ i m ys H, W i m ys H → ys.length ≤ sizeLine ∧
  ((J.stop i H ∧ ∀ l, H l = none → Q (.ref l) (upd H l (.lst ys))) ∨
   (J.go i H ∧ ∃ N : List V → Hp → Prop, (∀ ys' H', N ys' H' → ∃ m', m' < m ∧ W (i + 1) m' ys' H') ∧ ∀ x H', J.yld i H x H' → g x (cmpSt O cap σ) H' fun σ2 H2 => tt σ2 H2 fun b H3 => if b = true then te σ2 H3 fun y H4 => N (ys ++ [y]) H4 else N ys H3))
end L2
namespace L2
open PySem PySem.Spec PyProof.Rows
section
variable {X : Cx} {tg iter elt : Expr} {ifs : List Expr} {scope : Scope} {pos : Pos} {wi : TI} {g : TG} {tt : TT} {te : TE} {O F : List Str} {cap : List Nat}
/-- the block's entry -/
theorem Inv.comp {pins : List (Addr × Obj)} {σ : St} {H : Hp} {s : Shared} {fp : List Addr} {h1 : Heap} {tk : Nat} (S : CmpScope X.N X.env.scope O F cap scope) (I : Inv X pins σ H s)
    (hf : ∀ b ∈ fp, FpOk X pins H b) (ho : ∀ b ∈ fp, ∃ o, s.heap.get? b = some o ∧ ∀ v, o.data ≠ .cell v) (hs : s.heap.objs.size ≤ C) (D : Addr) (hD : s.heap.objs.size ≤ D) (hDC : D < C) {h0 : Heap} (h0s : h0.objs.size = C)
    (k0 : ∀ b o, s.heap.get? b = some o → h0.get? b = some o) (k1 : ∀ b o, h0.get? b = some o → h1.get? b = some o) (hn : h1.Ns C fun _ => none) :
    Inv (cxComp X (O ++ F) scope (clOf X.env.cells scope.names []) C (D :: fp) { s with heap := h0 } H) [] (cmpSt O cap σ) H { s with heap := h1, toks := tk } := by
  have hfr : ∀ y ∈ scope.names, y.2 = .free → ∃ c, X.env.cells.lookup y.1 = some c := fun y hy e => I.ok.has y.1 (S.frees y hy e)
  have sub : ∀ x c, (clOf X.env.cells scope.names []).lookup x = some c → X.env.cells.lookup x = some c := clOf_sub hfr (fun x c e => by simp at e)
  have clt : ∀ x c, X.env.cells.lookup x = some c → c < s.heap.objs.size := fun x c e => by
    obtain ⟨v, q⟩ := I.cell x c e
    exact q.lt
  have flt : ∀ b ∈ fp, b < s.heap.objs.size := fun b hb => by
    obtain ⟨o, e, _⟩ := ho b hb
    exact Heap.lt_size e
  have bsz : X.base.objs.size ≤ s.heap.objs.size := Nat.le_trans I.ok.bsz I.sz
  have blt : ∀ b o, X.base.get? b = some o → b < X.s₀.heap.objs.size := fun b o e => Heap.lt_size (I.ok.bs b o e).1
  have k : ∀ b o, s.heap.get? b = some o → h1.get? b = some o := fun b o e => k1 b o (k0 b o e)
  refine ⟨⟨I.ok.mod, S.kind, I.ok.glob, I.ok.blt, ?_, fun x y c e1 e2 => I.ok.inj x y c (sub x c e1) (sub y c e2), fun x hx => ?_, fun x c e _ => ?_, I.ok.hd, I.ok.frames, .inl rfl, fun b hb => ?_, fun b o e => ?_, ?_, fun b o e hb => ?_, fun b hb => ?_, ?_, I.stkFree⟩,
    rfl, I.bare, Un.kept k1, ⟨_, hn, fun i x v e1 e2 e3 => ?_⟩, fun x c e => ?_, I.hok.fresh hs, fun x c e => I.freeC x c (sub x c e), fun p hp => ?_, I.hok.kept k, ?_⟩
  · show h0.objs.size ≤ C
    exact Nat.le_of_eq h0s
  · have hx : (relabel scope X.env).names.lookup x = some .cell ∨ (relabel scope X.env).names.lookup x = some .free := hx
    have hx' : scope.names.lookup x = some .free := by
      rcases hx with hx | hx
      · rcases relabel_of (scope := scope) hx with e | ⟨_, e⟩
        · exact absurd rfl (S.nocell _ (PySem.mem_of_lookup e))
        · exact e
      · rcases relabel_of (scope := scope) hx with e | ⟨e, _⟩
        · exact e
        · cases e
    exact clOf_has (.inr (PySem.mem_of_lookup hx'))
  · exact absurd (show false = true from e) Bool.false_ne_true
  · rcases List.mem_cons.mp hb with e | hb
    · subst e
      exact ⟨Nat.ne_of_lt hDC, fun x c e => Nat.ne_of_lt (Nat.lt_of_lt_of_le (clt x c (sub x c e)) hD)⟩
    · exact ⟨Nat.ne_of_lt (Nat.lt_of_lt_of_le (flt b hb) hs), fun x c e => (hf b hb).2.2.2.2.1 x c (sub x c e)⟩
  · exact ⟨k0 b o (I.bs b o e).1, (I.bs b o e).2⟩
  · show X.base.objs.size ≤ h0.objs.size
    rw [h0s]
    exact Nat.le_trans bsz hs
  · rcases List.mem_cons.mp hb with q | hb
    · subst q
      exact absurd (Nat.lt_of_lt_of_le (Heap.lt_size (I.bk b o e)) hD) (Nat.lt_irrefl _)
    · rcases (hf b hb).2.2.2.1 with q | q
      · exact I.ok.noex b o e q
      · exact absurd (Nat.lt_of_lt_of_le (blt b o e) q) (Nat.lt_irrefl _)
  · intro hb2
    have hb3 : b ∈ X.env.locals :: X.fs := I.stkSub b hb2
    rcases List.mem_cons.mp hb with q | hb
    · subst q
      rcases List.mem_cons.mp hb3 with q | q
      · exact absurd I.lt (by rw [← q]; exact Nat.not_lt.mpr hD)
      · exact I.nofs hD q
    · rcases List.mem_cons.mp hb3 with q | q
      · exact (hf b hb).2.1 q
      · exact (hf b hb).2.2.1 q
  · exact I.stack.of_keeps fun b o e _ => ⟨o, k0 b o e, rfl⟩
  · -- the captured names
    have e1 : (O ++ F)[i]? = some x := e1
    have e2 : (cmpSt O cap σ)[i]? = some (some v) := e2
    unfold cmpSt at e2
    have hi : ¬ i < O.length := fun hi => by
      rw [List.getElem?_append_left (by simpa using hi)] at e2
      rw [List.getElem?_map] at e2
      cases q : O[i]? with
      | none => rw [q] at e2; cases e2
      | some z => rw [q] at e2; cases e2
    have hi' : O.length ≤ i := Nat.not_lt.mp hi
    rw [List.getElem?_append_right hi'] at e1
    rw [List.getElem?_append_right (by simpa using hi'), List.length_map, List.getElem?_map] at e2
    have hc := congrArg (fun l => l[i - O.length]?) S.caps
    simp only [List.getElem?_map, e1, Option.map_some] at hc
    cases q : cap[i - O.length]? with
    | none => rw [q] at e2; cases e2
    | some j =>
      rw [q] at e2 hc
      simp only [Option.map_some, Option.some.injEq] at e2 hc
      have hj : X.N[j]? = some x := hc.symm
      have hv : σ[j]? = some (some v) := by
        cases z : σ[j]? with
        | none => rw [z] at e2; cases e2
        | some y => rw [z] at e2; simp at e2; rw [e2]
      have hxf : scope.names.lookup x = some .free := S.capf x (List.mem_of_getElem? e1)
      have hxs := S.frees _ (PySem.mem_of_lookup hxf) rfl
      obtain ⟨m, hm, hl⟩ := I.loc
      obtain ⟨u, ru, l⟩ := hl j x v hj hv (hxs.elim (fun z => .inr (.inl z)) fun z => .inr (.inr z))
      refine ⟨u, ru, .inr ⟨relabel_free hxf, ?_⟩⟩
      rcases l with ⟨l, _⟩ | ⟨_, c, ec, z⟩
      · have l : X.env.scope.names.lookup x = some .local := l
        rcases hxs with q | q
        · rw [q] at l; cases l
        · rw [q] at l; cases l
      · obtain ⟨c', hc'⟩ := clOf_has (cells := X.env.cells) (l := scope.names) (acc := []) (.inr (PySem.mem_of_lookup hxf))
        have e' := sub x c' hc'
        rw [ec] at e'
        cases e'
        obtain ⟨o, ho, hd⟩ := z
        exact ⟨c, hc', o, k c o ho, hd⟩
  · obtain ⟨v, o, ho, hd⟩ := I.cell x c (sub x c e)
    exact ⟨v, o, k c o ho, hd⟩
  · exact absurd (show p ∈ ([] : List (Addr × Obj)) from hp) (by simp)
  · show (cmpSt O cap σ).length = (O ++ F).length
    have := congrArg List.length S.caps
    simp only [List.length_map] at this
    unfold cmpSt
    simp [this]
/-- behind the block -/
theorem Inv.uncomp {pins : List (Addr × Obj)} {σ σ' : St} {H H' : Hp} {s s4 : Shared} {N : List Str} {cl : List (Str × Addr)} {fp : List Addr} {C D : Addr} {h0 h' : Heap} {ys : List V} {us : List Value} {n : Nat} (I : Inv X pins σ H s)
    (hf : ∀ b ∈ fp, FpOk X pins H b) (hs : s.heap.objs.size ≤ C) (hD : s.heap.objs.size ≤ D) (hDC : D < C)
    (k0 : ∀ b o, s.heap.get? b = some o → h0.get? b = some o)
    (I4 : Inv (cxComp X N scope cl C (D :: fp) { s with heap := h0 } H) [] σ' H' s4) (fD : H' D = none) (oD : s4.heap.get? D = some { cls := .type "list", data := .seq us.toArray n }) (rv : Vals ys us) (hz : ys.length ≤ sizeLine)
    (sb : Heap.SameBut C s4.heap h') : Inv X pins σ (upd H' D (.lst ys)) { s4 with heap := h' } := by
  have kC : ∀ b o, b ≠ C → s4.heap.get? b = some o → h'.get? b = some o := fun b o hb e => (sb.2 b hb).trans e
  have lt : ∀ b o, s.heap.get? b = some o → b < s.heap.objs.size := fun b o e => Heap.lt_size e
  have neD : ∀ b o, s.heap.get? b = some o → b ≠ D := fun b o e => Nat.ne_of_lt (Nat.lt_of_lt_of_le (lt b o e) hD)
  have neC : ∀ b o, s.heap.get? b = some o → b ≠ C := fun b o e => Nat.ne_of_lt (Nat.lt_of_lt_of_le (lt b o e) hs)
  have nin : ∀ b o, s.heap.get? b = some o → b ∉ fp → b ∉ D :: fp := fun b o e h hb => (List.mem_cons.mp hb).elim (neD b o e) h
  have HD : H D = none := I.hok.fresh hD
  have neDH : ∀ b u, H b = some u → b ≠ D := fun b u e => ne_of_none e HD
  have fC : H' C = none := I4.free
  have un : Un (frs X.stack) (D :: fp) H H' h0 s4.heap := I4.base
  refine I.call' (ch := fp) (s' := { s4 with heap := h' }) (H' := upd H' D (.lst ys)) I4.os ⟨fun b o e n hb hx => ?_, fun b o e n hb hx => ?_, fun b o e n hx => ?_, fun b o e hx => ?_, fun b xs e => ?_, fun b o u e => ?_, fun b ps e => ?_⟩ (fun b u e => ?_) I4.bare (fun b hb => ?_)
  · exact kC b o (neC b o e) (un.keep b o (k0 b o e) n hb (nin b o e hx))
  · obtain ⟨sl, q⟩ := un.slot b o (k0 b o e) n hb (nin b o e hx)
    exact ⟨sl, kC b _ (neC b o e) q⟩
  · rw [upd_ne (neD b o e)]
    exact un.free b o (k0 b o e) n (nin b o e hx)
  · obtain ⟨o', q⟩ := un.there b o (k0 b o e) (nin b o e hx)
    exact ⟨o', kC b _ (neC b o e) q⟩
  · rw [upd_ne (neDH b _ e)]
    exact un.tups b xs e
  · rw [upd_ne (neDH b _ e)]
    exact un.frzs b o u e
  · rw [upd_ne (neDH b _ e)]
    exact un.tbls b ps e
  · by_cases hb : b = D
    · subst hb
      rw [upd_same] at e
      cases e
      exact ⟨hz, us, n, rv, kC b _ (Nat.ne_of_lt hDC) oD⟩
    · rw [upd_ne hb] at e
      refine (I4.hok b u e).stay (fun c v hc q => kC c v ?_ q) (fun c q => by rw [upd_ne (ne_of_none q fD)]; exact q) fun c xs q => by rw [upd_ne (ne_of_none q fD)]; exact q
      rcases hc with q | q
      · rw [q]; exact ne_of_none e fC
      · exact ne_of_none q fC
  · obtain ⟨_, h1, _, h2, h3, h4⟩ := hf b hb
    exact ⟨h2, h1, h3, h4⟩
/-- a target that stores in the slots below n alone -/
noncomputable def Own (n : Nat) (g : TG) : Prop := ∀ x σ H Q, g x σ H Q → g x σ H fun σ2 H2 => (σ2.length = σ.length ∧ ∀ j, n ≤ j → σ2[j]? = σ[j]?) ∧ Q σ2 H2
noncomputable def OwnS (n : Nat) (g : TGs) : Prop := ∀ x σ H Q, g x σ H Q → g x σ H fun σ2 H2 => (σ2.length = σ.length ∧ ∀ j, n ≤ j → σ2[j]? = σ[j]?) ∧ Q σ2 H2
theorem own_name {n i : Nat} (h : i < n) : Own n (gName i) := fun x σ H Q q => ⟨⟨by simp, fun j hj => by rw [List.getElem?_set_ne (by omega)]⟩, q⟩
theorem own_nil {n : Nat} : OwnS n gNil := fun x σ H Q ⟨e, q⟩ => ⟨e, ⟨rfl, fun _ _ => rfl⟩, q⟩
theorem own_cons {n i : Nat} {u : TGs} (h : i < n) (hu : OwnS n u) (mu : ∀ x σ H (Q Q' : St → Hp → Prop), (∀ σ H, Q σ H → Q' σ H) → u x σ H Q → u x σ H Q') : OwnS n (gCons (gName i) u) := fun x σ H Q ⟨v, r, e, q⟩ => ⟨v, r, e, by
  have q : u r (σ.set i (some v)) H Q := q
  show u r (σ.set i (some v)) H _
  refine mu _ _ _ _ _ (fun σ2 H2 z => ?_) (hu _ _ _ _ q)
  obtain ⟨⟨h1, h2⟩, h3⟩ := z
  exact ⟨⟨by rw [h1]; simp, fun j hj => by rw [h2 j hj, List.getElem?_set_ne (by omega)]⟩, h3⟩⟩
theorem mono_nil : ∀ x σ H (Q Q' : St → Hp → Prop), (∀ σ H, Q σ H → Q' σ H) → gNil x σ H Q → gNil x σ H Q' := fun x σ H Q Q' h ⟨e, q⟩ => ⟨e, h _ _ q⟩
theorem mono_cons {i : Nat} {u : TGs} (mu : ∀ x σ H (Q Q' : St → Hp → Prop), (∀ σ H, Q σ H → Q' σ H) → u x σ H Q → u x σ H Q') : ∀ x σ H (Q Q' : St → Hp → Prop), (∀ σ H, Q σ H → Q' σ H) → gCons (gName i) u x σ H Q → gCons (gName i) u x σ H Q' :=
  fun x σ H Q Q' h ⟨v, r, e, q⟩ => ⟨v, r, e, mu _ _ _ _ _ h q⟩
theorem own_tup {n k : Nat} {K : PySem.W.Frag} {u : TGs} (hu : OwnS n u) : Own n (gTup K k u) := fun x σ H Q ⟨a, xs, e, h1, h2, q⟩ => ⟨a, xs, e, h1, h2, hu _ _ _ _ q⟩
/-- [elt for tg in iter if ..] -/
theorem pe_comp (hc : X.calm = true) (S : CmpScope X.N X.env.scope O F cap scope) (hi : PI X tg iter wi)
    (hg : ∀ cl C ex s H, PG (cxComp X (O ++ F) scope cl C ex s H) tg g) (ht : ∀ cl C ex s H, PTs (cxComp X (O ++ F) scope cl C ex s H) ifs tt) (he : ∀ cl C ex s H, PE (cxComp X (O ++ F) scope cl C ex s H) elt te)
    (ho : Own O.length g) (hs : ∀ x, foldedSetIterable iter X.env x = pure x := by intro _; rfl) : PE X (.ListComp elt [⟨tg, iter, ifs, 0⟩] scope pos) (tComp wi O cap g tt te) := by
  intro pins s σ H Q I h
  have hfr : ∀ y ∈ scope.names, y.2 = .free → ∃ c, X.env.cells.lookup y.1 = some c := fun y hy e => I.ok.has y.1 (S.frees y hy e)
  rw [eval_ListComp]
  refine wpAny_comprehension_free (use := none) rfl hs (closure_is hfr) S.kind S.names (thn (hi pins s σ H _ I h) fun v s1 h1 => thn h1 fun itv s2 h2 => ?_)
  obtain ⟨it, fp, tn, J, H2, e, I2, T, st2, f2, W, ⟨m0, w0⟩, turn⟩ := h2
  subst e
  refine wpAny_newObj_type (wpAny_newFunctionEnv S.nocell (by intro y hy; simp at hy) (fun h1 hns1 hsb1 => ?_) S.kind)
  dsimp only at hns1 hsb1 ⊢
  generalize hH0 : s2.heap.push { cls := .type "list", dict := none, data := .seq ([] : List Value).toArray } = h0 at hns1 hsb1 ⊢
  have h0s : h0.objs.size = s2.heap.objs.size + 1 := by rw [← hH0, Heap.size_push]
  have k0 : ∀ b o, s2.heap.get? b = some o → h0.get? b = some o := fun b o e => hH0 ▸ Heap.get?_push_of_some _ e
  have k1 : ∀ b o, h0.get? b = some o → h1.get? b = some o := fun b o e => hsb1.extBut b o (Nat.ne_of_lt (Heap.lt_size e)) (Heap.get?_push_of_some _ e)
  have oD0 : h0.get? s2.heap.objs.size = some { cls := .type "list", data := .seq ([] : List Value).toArray } := hH0 ▸ Heap.get?_push_size _ rfl
  have hDC : s2.heap.objs.size < h0.objs.size := by rw [h0s]; exact Nat.lt_succ_self _
  have hsC : s2.heap.objs.size ≤ h0.objs.size := Nat.le_of_lt hDC
  have flt : ∀ b ∈ fp, b < s2.heap.objs.size := fun b hb => by
    obtain ⟨o, e, _⟩ := T.obj _ _ st2 b hb
    exact Heap.lt_size e
  have Dfp : s2.heap.objs.size ∉ fp := fun z => Nat.lt_irrefl _ (flt _ z)
  have I3 : Inv (cxComp X (O ++ F) scope (clOf X.env.cells scope.names []) h0.objs.size (s2.heap.objs.size :: fp) { s2 with heap := h0 } H2) [] (cmpSt O cap σ) H2 { s2 with heap := h1, toks := s2.toks + ([] : List (Str × Value)).length } :=
    I2.comp S f2 (T.obj _ _ st2) hsC s2.heap.objs.size (Nat.le_refl _) hDC rfl k0 k1 hns1
  generalize hX' : cxComp X (O ++ F) scope (clOf X.env.cells scope.names []) h0.objs.size (s2.heap.objs.size :: fp) { s2 with heap := h0 } H2 = X' at I3
  have hg' : PG X' tg g := hX' ▸ hg _ _ _ _ _
  have ht' : PTs X' ifs tt := hX' ▸ ht _ _ _ _ _
  have he' : PE X' elt te := hX' ▸ he _ _ _ _ _
  have fpok : ∀ {H' : Hp}, (∀ b ∈ s2.heap.objs.size :: fp, H' b = none) → ∀ b ∈ s2.heap.objs.size :: fp, FpOk X' [] H' b := fun {H'} hn b hb => by
    have hex : b ∈ X'.ex := by rw [← hX']; exact hb
    refine ⟨hn b hb, (I3.ok.exf b hex).1, I3.ok.exfs b hex, .inl hex, (I3.ok.exf b hex).2, fun p hp => ?_⟩
    rw [← hX'] at hp
    exact absurd (show p ∈ ([] : List (Addr × Obj)) from hp) (by simp)
  have eP : X'.prog = X.prog := by rw [← hX']; rfl
  have eW : X'.w = X.w := by rw [← hX']; rfl
  have eK : X'.K = X.K := by rw [← hX']; rfl
  have eA : X'.A = X.A := by rw [← hX']; rfl
  have eC : X'.calm = true := by rw [← hX']; exact hc
  have eE : X'.env = compEnvC scope (clOf X.env.cells scope.names []) h0.objs.size X.env := by rw [← hX']; rfl
  have eX : X'.xe = fun _ _ => False := by rw [← hX']; rfl
  have loop : ∀ s3 : Shared, s3 = { s2 with heap := h1, toks := s2.toks + ([] : List (Str × Value)).length } →
      codeAny (model X.prog X.w) X.A (.compLoop (.ListComp elt [⟨tg, iter, ifs, 0⟩] scope pos) 0 (.ref it) (.ref s2.heap.objs.size) (compEnvC scope (clOf X.env.cells scope.names []) h0.objs.size X.env))
        (compPost (model X.prog X.w) X.A X.xe none (EP X pins σ Q) (.ref s2.heap.objs.size) h0.objs.size) s3 := by
    rintro s3 rfl
    refine compLoop_any (fun n s' => ∃ i ys us k H', Inv X' [] (cmpSt O cap σ) H' s' ∧ tn i s'.heap ∧ (∀ b ∈ s2.heap.objs.size :: fp, H' b = none) ∧ s'.heap.get? s2.heap.objs.size = some { cls := .type "list", data := .seq us.toArray k } ∧ Vals ys us ∧ W i n ys H') ?_ m0
      ⟨0, [], [], _, H2, I3, T.keep _ _ _ st2 (fun b _ o e => k1 b o (k0 b o e)), fun b hb => ?_, k1 _ _ oD0, .nil, w0⟩
    · rintro n s3 ⟨i, ys, us, k, H3, I3', st3, fr3, o3, rv3, w3⟩
      obtain ⟨hz, step⟩ := turn i n ys H3 w3
      have fpI : ∀ b ∈ fp, FpOk X' [] H3 b := fun b hb => fpok fr3 b (List.mem_cons_of_mem _ hb)
      rcases step with ⟨stop, q⟩ | ⟨go, NN, hNN, step⟩
      · have := T.done X' eP eW eK eC i [] s3 (cmpSt O cap σ) H3 (fun _ _ => False) I3' fpI st3 stop
        rw [eA] at this
        have hk : ∀ {s4 : Shared}, Inv X' [] (cmpSt O cap σ) H3 s4 → s4.heap.get? s2.heap.objs.size = some { cls := .type "list", data := .seq us.toArray k } → compPost (model X.prog X.w) X.A X.xe none (EP X pins σ Q) (.ref s2.heap.objs.size) h0.objs.size (.ok .next) s4 := fun {s4} I4 o4 => by
          obtain ⟨m, hm, _⟩ := id I4.loc
          rw [eE] at hm
          refine ⟨m, hm, fun h' sb => ⟨.ref s2.heap.objs.size, upd H3 s2.heap.objs.size (.lst ys), ?_, rfl, q _ (fr3 _ List.mem_cons_self)⟩⟩
          rw [← hX'] at I4
          exact I2.uncomp f2 hsC (Nat.le_refl _) hDC k0 I4 (fr3 _ List.mem_cons_self) o4 rv3 hz sb
        -- the accumulator is pinned while the iterator ends
        have J3 : Inv X' [(s2.heap.objs.size, { cls := .type "list", data := .seq us.toArray k })] (cmpSt O cap σ) H3 s3 := I3'.pins_of fun p hp => by
          have : p = (s2.heap.objs.size, { cls := .type "list", data := .seq us.toArray k }) := by simpa using hp
          subst this
          obtain ⟨f0, f1, f2', _⟩ := fpok fr3 s2.heap.objs.size List.mem_cons_self
          exact ⟨o3, f0, f1, f2', fun v z => by cases z⟩
        have fpJ : ∀ b ∈ fp, FpOk X' [(s2.heap.objs.size, { cls := .type "list", data := .seq us.toArray k })] H3 b := fun b hb => by
          obtain ⟨f0, f1, f3, f4, f5, f6⟩ := fpI b hb
          refine ⟨f0, f1, f3, f4, f5, fun p hp => ?_⟩
          rcases List.mem_append.mp hp with z | z
          · exact f6 p (List.mem_append_left _ z)
          · have : p = (s2.heap.objs.size, { cls := .type "list", data := .seq us.toArray k }) := by simpa using z
            subst this
            intro e
            exact Dfp (by rw [show s2.heap.objs.size = b from e]; exact hb)
        have fin := T.done X' eP eW eK eC i _ s3 (cmpSt O cap σ) H3 (fun _ _ => False) J3 fpJ st3 stop
        rw [eA] at fin
        refine thn fin fun r s4 ⟨hr, J4⟩ => ?_
        subst hr
        exact hk (J4.pins_of fun p hp => absurd hp (by simp)) (J4.pin (s2.heap.objs.size, { cls := .type "list", data := .seq us.toArray k }) (List.mem_append_right _ (List.mem_singleton.mpr rfl))).1
      · have J3 : Inv X' (pinsAt [s2.heap.objs.size] s3.heap) (cmpSt O cap σ) H3 s3 := by
          have := I3'.pinned (fp := [s2.heap.objs.size]) (fun b hb => fpok fr3 b (by simp at hb; simp [hb])) (fun b hb => by
            have e : b = s2.heap.objs.size := by simpa using hb
            subst e
            exact ⟨_, o3, fun v z => by cases z⟩)
          simpa using this
        have fpJ : ∀ b ∈ fp, FpOk X' (pinsAt [s2.heap.objs.size] s3.heap) H3 b := fun b hb => by
          obtain ⟨f0, f1, f3, f4, f5, f6⟩ := fpI b hb
          refine ⟨f0, f1, f3, f4, f5, fun p hp => ?_⟩
          rcases List.mem_append.mp hp with z | z
          · exact f6 p (List.mem_append_left _ z)
          · have := (of_pinsAt z).1
            have e' : p.1 = s2.heap.objs.size := by simpa using this
            intro e
            exact Dfp (by rw [← e', e]; exact hb)
        have it3 := T.item X' eP eW eK eC i _ s3 (cmpSt O cap σ) H3 (fun _ _ => False) J3 fpJ st3 go
        rw [eA] at it3
        refine thn it3 fun r s4 ⟨u, hr, h4⟩ => ?_
        subst hr
        refine thn h4 fun _ s5 ⟨x, H5, I5, r5, y5, st5, fr5⟩ => ?_
        have o5 : s5.heap.get? s2.heap.objs.size = some { cls := .type "list", data := .seq us.toArray k } := (I5.pin (_, _) (List.mem_append_right _ (mem_pinsAt (by simp) o3))).1
        have d5 : H5 s2.heap.objs.size = none := (I5.pin (_, _) (List.mem_append_right _ (mem_pinsAt (by simp) o3))).2.1
        have fr5' : ∀ b ∈ s2.heap.objs.size :: fp, H5 b = none := fun b hb => (List.mem_cons.mp hb).elim (fun z => by rw [z]; exact d5) (fr5 b)
        have I5' : Inv X' (pinsAt (s2.heap.objs.size :: fp) s5.heap) (cmpSt O cap σ) H5 s5 := by
          have := (I5.pins_of (pins' := []) fun p hp => absurd hp (by simp)).pinned (fp := s2.heap.objs.size :: fp) (fpok fr5') (fun b hb => by
            rcases List.mem_cons.mp hb with e | hb
            · subst e
              exact ⟨_, o5, fun v z => by cases z⟩
            · exact T.obj _ _ st5 b hb)
          simpa using this
        have a5 := hg' _ s5 (cmpSt O cap σ) H5 x u _ I5' r5 (ho _ _ _ _ (step x H5 y5))
        rw [eP, eW, eA, eE, eX] at a5
        refine thn a5 fun _ s6 ⟨σ6, H6, I6, ⟨l6, w6⟩, q6⟩ => ?_
        have t6 := ht' _ s6 σ6 H6 _ I6 q6
        rw [eP, eW, eA, eE, eX] at t6
        refine thn t6 fun ok s7 ⟨H7, I7, q7⟩ => ?_
        -- behind the turn
        have back : ∀ {σ8 : St} {H8 : Hp} {s8 : Shared}, σ8.length = (cmpSt O cap σ).length → Inv X' (pinsAt (s2.heap.objs.size :: fp) s5.heap) σ8 H8 s8 → (∀ (j : Nat) v, (cmpSt O cap σ)[j]? = some (some v) → σ8[j]? = some (some v)) →
            Inv X' [] (cmpSt O cap σ) H8 s8 ∧ tn (i + 1) s8.heap ∧ (∀ b ∈ s2.heap.objs.size :: fp, H8 b = none) ∧ s8.heap.get? s2.heap.objs.size = some { cls := .type "list", data := .seq us.toArray k } := fun {σ8 H8 s8} hl I8 hw => by
          have pin8 : ∀ b ∈ s2.heap.objs.size :: fp, ∀ o, s5.heap.get? b = some o → s8.heap.get? b = some o ∧ H8 b = none := fun b hb o e => by
            have := I8.pin (b, o) (List.mem_append_right _ (mem_pinsAt hb e))
            exact ⟨this.1, this.2.1⟩
          refine ⟨(I8.pins_of fun p hp => absurd hp (by simp)).weak hl.symm hw, T.keep _ _ _ st5 fun b hb o e => (pin8 b (List.mem_cons_of_mem _ hb) o e).1, fun b hb => ?_, (pin8 _ List.mem_cons_self _ o5).1⟩
          rcases List.mem_cons.mp hb with e | hb'
          · exact (pin8 b hb _ (by rw [e]; exact o5)).2
          · obtain ⟨o, e, _⟩ := T.obj _ _ st5 b hb'
            exact (pin8 b hb o e).2
        have w6' : ∀ (j : Nat) v, (cmpSt O cap σ)[j]? = some (some v) → σ6[j]? = some (some v) := fun j v e => by
          by_cases hj : O.length ≤ j
          · rw [w6 j hj]; exact e
          · exfalso
            unfold cmpSt at e
            rw [List.getElem?_append_left (by simpa using Nat.not_le.mp hj), List.getElem?_map] at e
            cases q : O[j]? with
            | none => rw [q] at e; cases e
            | some z => rw [q] at e; cases e
        cases ok with
        | false =>
          rw [if_neg Bool.false_ne_true] at q7 ⊢
          obtain ⟨m', hm, w7⟩ := hNN _ _ q7
          obtain ⟨b1, b2, b3, b4⟩ := back l6 I7 w6'
          exact ⟨m', hm, i + 1, ys, us, k, H7, b1, b2, b3, b4, rv3, w7⟩
        | true =>
          rw [if_pos rfl] at q7 ⊢
          have e7 := he' _ s7 σ6 H7 _ I7 q7
          rw [eP, eW, eA, eE, eX] at e7
          refine thn e7 fun y s8 ⟨z, H8, I8, r8, q8⟩ => ?_
          obtain ⟨m', hm, w8⟩ := hNN _ _ q8
          obtain ⟨b1, b2, b3, b4⟩ := back l6 I8 w6'
          have hzs : us.toArray.size ≤ sizeLine := by rw [List.size_toArray, ← rv3.length]; exact hz
          refine append_at (hsz := hzs) b4 fun h9 hs9 hD9 => ?_
          obtain ⟨f0, f1, f2', f3, f4, f5⟩ := fpok b3 s2.heap.objs.size List.mem_cons_self
          have I9 : Inv X' [] (cmpSt O cap σ) H8 { s8 with heap := h9 } := b1.turned (t' := s8.toks) (fun b o hb e => (hs9.2 b hb).trans e) f0 f1 f3 f4 f5
          refine ⟨m', hm, i + 1, ys ++ [z], us ++ [y], k + 1, H8, I9, T.keep _ _ _ b2 fun b hb o e => (hs9.2 b fun q => Dfp (by rw [← q]; exact hb)).trans e, b3, ?_, rv3.snoc r8, w8⟩
          rw [hD9, List.push_toArray]
    · rcases List.mem_cons.mp hb with e | hb
      · rw [e]; exact I2.hok.fresh (Nat.le_refl _)
      · exact (f2 b hb).1
  exact codeAny_compStart_list (loop _ rfl) (T.self _ 0 _ _ _ (T.keep _ _ _ st2 (fun b _ o e => k1 b o (k0 b o e))) (loop _ rfl))
end
end L2
namespace L2
open PySem PySem.Spec PyProof.Rows
noncomputable def Its (x : Str) : It := ⟨fun i _ => i < x.cps.size, fun i H v H' => H' = H ∧ ∃ c, x.cps[i]? = some c ∧ v = .str ⟨#[c]⟩, fun i _ => x.cps.size ≤ i⟩
theorem turn_str {P : Program} {w : World} {K : PySem.W.Frag} {tg : Expr} (it : Addr) (x : Str) (t : Tok) (cl : String) (hc : cl = "str_ascii_iterator" ∨ cl = "str_iterator") : Turn P w K tg (Its x) [it] it (fun i h => h.IsStrIter it cl x t i) where
  mem := by simp
  obj := fun i h st b hb => by
    have e : b = it := by simpa using hb
    subst e
    obtain ⟨o, e, c, d⟩ := st
    exact ⟨o, e, fun v z => by rw [d] at z; cases z⟩
  keep := fun i h h' st k => by
    obtain ⟨o, e, r⟩ := st
    exact ⟨o, k it (by simp) o e, r⟩
  item := by
    intro X hP hw hK hcm i pins s σ H E I hf st hg
    subst hP hw hK
    obtain ⟨f0, f1, f2, f3, f4, f5⟩ := hf it (by simp)
    have hi : i < x.cps.size := hg
    have nm : ["enumerate", "zip", "dict_itemiterator", "dict_reverseitemiterator", "odict_iterator", "itertools.zip_longest", "itertools.pairwise"].contains cl = false := by
      rcases hc with rfl | rfl <;> decide
    have go : ∀ (h' : Heap) (st' : h'.IsStrIter it cl x t (i + 1)) (sb : ∀ b o, b ≠ it → s.heap.get? b = some o → h'.get? b = some o) (tk : Nat) (u : Tok), ∃ v, some (Value.str ⟨#[x.cps[i]]⟩ u) = some v ∧
        wpAny (model X.prog X.w) X.A (letOwnedTupleGo tg (.ref it) v) (fun _ s2 => ∃ y H', Inv X pins σ H' s2 ∧ RelV y v ∧ (Its x).yld i H y H' ∧ s2.heap.IsStrIter it cl x t (i + 1) ∧ ∀ b ∈ [it], H' b = none) E { s with heap := h', toks := tk } := fun h' st' sb tk u => by
      have I1 : Inv X pins σ H { s with heap := h', toks := tk } := I.turned (fun b o hb e => sb b o hb e) f0 f1 f3 f4 f5
      obtain ⟨o, e, c, d⟩ := id st'
      exact ⟨_, rfl, go_of (s := { s with heap := h', toks := tk }) e c d nm ⟨.str ⟨#[x.cps[i]]⟩, H, I1, ⟨_, rfl⟩, ⟨rfl, x.cps[i], by simp [hi], rfl⟩, st', fun b hb => (hf b hb).1⟩⟩
    rcases hc with rfl | rfl
    · exact wpAny_pyNext_ascii_item st (c := x.cps[i]) (by simp [hi]) fun h' st' sb => go h' st' (fun b o hb e => sb.extBut b o hb e) _ _
    · exact wpAny_pyNext_wide_item st (c := x.cps[i]) (by simp [hi]) fun h' st' sb => go h' st' (fun b o hb e => sb.extBut b o hb e) _ _
  done := by
    intro X hP hw hK hcm i pins s σ H E I hf st hg
    subst hP hw hK
    obtain ⟨f0, f1, f2, f3, f4, f5⟩ := hf it (by simp)
    have hi : x.cps.size ≤ i := hg
    rcases hc with rfl | rfl
    · exact wpAny_pyNext_ascii_end (I.ok.hd hcm) st (by simp [hi]) fun h' eb => ⟨rfl, I.turned (t' := s.toks) (fun b o hb e => eb b o hb e) f0 f1 f3 f4 f5⟩
    · exact wpAny_pyNext_wide_end (I.ok.hd hcm) st (by simp [hi]) fun h' eb => ⟨rfl, I.turned (t' := s.toks) (fun b o hb e => eb b o hb e) f0 f1 f3 f4 f5⟩
  self := fun _ _ _ _ _ st h => by
    rcases hc with rfl | rfl
    · exact wpAny_pyIter_striter_ascii st h
    · exact wpAny_pyIter_striter_wide st h
section
variable {X : Cx} {tg : Expr}
noncomputable def iStr (tl : TE) : TI := fun σ H R => tl σ H fun v H1 => ∃ x, v = .str x ∧ R (Its x) H1
end
end L2
namespace L2
open PySem PySem.Spec PyProof.Rows
theorem boolsAre_of : ∀ {bs : List Bool} {us : List Value}, Vals (bs.map V.bl) us → LSm.BoolsAre us bs := by
  intro bs
  induction bs with
  | nil => intro us r; rw [List.map_nil] at r; cases r; exact .nil
  | cons b bs ih =>
    intro us r
    rw [List.map_cons] at r
    cases r with
    | cons r1 r2 =>
      cases r1
      exact .cons b (ih r2)
section
variable {X : Cx}
theorem call_all (hc : X.calm = true) : CallR X (.builtin "all") (fun xs H Q => ∃ (p : Addr) (bs : List Bool), xs = [.ref p] ∧ SqL X.K H p (bs.map V.bl) ∧ Q (.bl (bs.all id)) H) := by
  intro pins s σ H xs us Q I r h
  obtain ⟨p, bs, rfl, hq, q⟩ := h
  cases r with
  | cons r rr =>
    cases rr
    cases r
    obtain ⟨its, rv, pl, hz⟩ := I.list hq
    obtain ⟨m, F⟩ := I.fr
    have hb := boolsAre_of rv
    have hlt : p < s.heap.objs.size := by obtain ⟨_, e, _⟩ := pl.isList; exact Heap.lt_size e
    refine call_all_walk (wpAny_pyIter_list pl.isList ?_)
    refine ⟨s.heap.objs.size, [s.heap.objs.size, p], [s.heap.objs.size], its.toArray.size, _, _, fun i => (bs[i]?).getD true, rfl, Walks.list (A := X.A.in1) (I.ok.hd hc) _ p (Nat.ne_of_lt hlt) its.toArray,
      ⟨⟨_, Heap.get?_push_size _ rfl, rfl, rfl⟩, pl.isList.push _⟩, fun i v s' Q' E' hP hQ => ?_, fun h' tk hk => ?_⟩
    · obtain ⟨b, e, rfl⟩ := hb.get i v (by simpa using hP)
      simp only [e, Option.getD_some] at hQ
      exact wpAny_truthy_bool hQ
    · have e : ((List.range its.toArray.size).all fun i => (bs[i]?).getD true) = bs.all id := by
        rw [List.size_toArray, hb.length]; exact LSm.range_all bs
      rw [e]
      exact ⟨.bl (bs.all id), H, I.kept (LSm.kept_iter hk), rfl, q⟩
theorem call_any (hc : X.calm = true) : CallR X (.builtin "any") (fun xs H Q => ∃ (p : Addr) (bs : List Bool), xs = [.ref p] ∧ SqL X.K H p (bs.map V.bl) ∧ Q (.bl (bs.any id)) H) := by
  intro pins s σ H xs us Q I r h
  obtain ⟨p, bs, rfl, hq, q⟩ := h
  cases r with
  | cons r rr =>
    cases rr
    cases r
    obtain ⟨its, rv, pl, hz⟩ := I.list hq
    have hb := boolsAre_of rv
    have hlt : p < s.heap.objs.size := by obtain ⟨_, e, _⟩ := pl.isList; exact Heap.lt_size e
    refine call_any_walk (wpAny_pyIter_list pl.isList ?_)
    refine ⟨s.heap.objs.size, [s.heap.objs.size, p], [s.heap.objs.size], its.toArray.size, _, _, fun i => (bs[i]?).getD false, rfl, Walks.list (A := X.A.in1) (I.ok.hd hc) _ p (Nat.ne_of_lt hlt) its.toArray,
      ⟨⟨_, Heap.get?_push_size _ rfl, rfl, rfl⟩, pl.isList.push _⟩, fun i v s' Q' E' hP hQ => ?_, fun h' tk hk => ?_⟩
    · obtain ⟨b, e, rfl⟩ := hb.get i v (by simpa using hP)
      simp only [e, Option.getD_some] at hQ
      exact wpAny_truthy_bool hQ
    · have e : ((List.range its.toArray.size).any fun i => (bs[i]?).getD false) = bs.any id := by
        rw [List.size_toArray, hb.length]; exact LSm.range_any bs
      rw [e]
      exact ⟨.bl (bs.any id), H, I.kept (LSm.kept_iter hk), rfl, q⟩
noncomputable def rSlS : V → Option Int → Option Int → Hp → VK → Prop := fun x lo hi H Q => ∃ z : Str, x = .str z ∧ z.length ≤ sizeLine ∧ Q (.str (Txt.slice z lo hi)) H
theorem sl_str : SlR X rSlS := by
  intro pins s σ H x v vl vu lo hi sl Q I rx hs pl pu h
  obtain ⟨z, rfl, hz, q⟩ := h
  obtain ⟨t, rfl⟩ := rx
  refine ⟨"str", _, F.slot_str_getitem.lookup, typeIs_str _ _ _, ?_⟩
  have fin : ∀ t' k, EP X pins σ Q (.str (Txt.slice z lo hi) t') { s with toks := k } := fun t' k => ⟨.str (Txt.slice z lo hi), H, I.tok k, ⟨_, rfl⟩, q⟩
  cases pl with
  | none =>
    cases pu with
    | none => exact wpAny_getItem_str_slice (l := none) (u := none) (st := none) hs rfl (post_val_or_str ⟨Nat.le_trans (Txt.slice_le z _ _) hz, fin⟩)
    | int j tj => exact wpAny_getItem_str_slice (l := none) (u := some (j, tj)) (st := none) hs rfl (post_val_or_str ⟨Nat.le_trans (Txt.slice_le z _ _) hz, fin⟩)
  | int i ti =>
    cases pu with
    | none => exact wpAny_getItem_str_slice (l := some (i, ti)) (u := none) (st := none) hs rfl (post_val_or_str ⟨Nat.le_trans (Txt.slice_le z _ _) hz, fin⟩)
    | int j tj => exact wpAny_getItem_str_slice (l := some (i, ti)) (u := some (j, tj)) (st := none) hs rfl (post_val_or_str ⟨Nat.le_trans (Txt.slice_le z _ _) hz, fin⟩)
theorem Inv.big {pins : List (Addr × Obj)} {σ : St} {H : Hp} {s : Shared} (I : Inv X pins σ H s) : sysModules < s.heap.objs.size := by
  have h : mainGlobals < s.heap.objs.size := (I.mod.glob.keeps I.bk).lt
  exact Nat.lt_trans (by decide) h
theorem dk_empty {P : Program} {w : World} {H : Hp} (h : Heap) (hb : sysModules < h.objs.size) : ObjOk P w H (h.push { cls := .type "dict", data := .dict #[] }) h.objs.size (.dK []) :=
  ⟨Nat.zero_le _, beq_eq_false_iff_ne.mpr (Ne.symm (Nat.ne_of_lt hb)), [], .nil, Heap.DictOf.new h⟩
noncomputable def tDNewK : TE := fun _ H Q => ∀ p, H p = none → Q (.ref p) (upd H p (.dK []))
theorem pe_dnewK {pos : Pos} : PE X (.Dict [] [] pos) tDNewK := fun pins s σ H Q I h =>
  wpAny_Dict_empty ⟨.ref s.heap.objs.size, _, I.laid (a := s.heap.objs.size) (o := .dK []) (t' := s.toks) (fun _ _ q => Heap.get?_push_of_some _ q) (Nat.le_refl _) (dk_empty s.heap I.big), rfl, h _ (I.hok.fresh (Nat.le_refl _))⟩
end
end L2
namespace L2
open PySem PySem.Spec PyProof.Rows
section
variable {X : Cx}
end
end L2
namespace HT
open PySem PySem.Spec PyProof.Rows
section
variable {prog : Program} {w : World} {A : Around} {E : Value → Shared → Prop} {s : Shared}
/-- t[lo:hi], the whole of it: t itself -/
theorem getItem_tuple_all {t sl : Addr} {items : Array Value} {vl vu : Value} {lo hi : Option Int} {Q : Value → Shared → Prop} (ht : IsTup s.heap t items) (hs : s.heap.IsSliceOf sl vl vu .none) (pl : IsPart vl lo) (pu : IsPart vu hi)
    (hw : sIx items.size 0 lo = 0 ∧ sIx items.size items.size hi = items.size)
    (h : Q (.ref t) s) : wpAny (model prog w) A (getItem (.ref t) (.ref sl)) Q E s := by
  obtain ⟨os, hos, hcs, hds⟩ := id hs
  have hTs : s.TypeIs (.ref sl) "slice" := ⟨os, hos, hcs⟩
  unfold getItem
  try with_reducible refine wpAny_holding ?_
  first | refine wpAny_bind (wpAny_pure ?_) | skip
  refine wpAny_bind (wpAny_sequenceKey ht.typeIs (by decide) ?_)
  refine wpAny_bind (wpAny_callSpecial?_slot (name := Str.ofString "__getitem__") ht.typeIs PyProof.Rows.slot_tuple_getitem
    (wpAny_call_entry PyProof.Rows.slot_tuple_getitem ht.typeIs entry_tuple_getitem ?_ (args_tuple_getitem _ _)))
  show wpAny _ _ (Builtin.Tuple.tupleItemsOf (.ref t) >>= _) _ _ s
  refine wpAny_bind (tupleItemsOf_ ht ?_)
  refine wpAny_bind (wpAny_typeOf hTs ?_)
  rw [if_pos (by decide)]
  refine wpAny_bind (sliceApplied_gen hs pl pu ?_)
  have hno : ((((sIx items.size 0 lo : Nat) : Int) == 0 && (1 : Int) == 1 && (sIx items.size items.size hi - sIx items.size 0 lo) == items.size) = true) := by
    rw [hw.1, hw.2]
    simp
  show wpAny _ _ (if (((sIx items.size 0 lo : Nat) : Int) == 0 && (1 : Int) == 1 && (sIx items.size items.size hi - sIx items.size 0 lo) == items.size) = true then _ else _) _ _ s
  rw [if_pos hno]
  refine wpAny_bind ?_
  unfold Builtin.Tuple.tupleIsExact
  refine wpAny_bind (wpAny_typeOf ht.typeIs (wpAny_pure ?_))
  rw [if_pos (by decide)]
  refine wpAny_bind (wpAny_rule ?_)
  exact wpAny_pure ⟨_, rfl, wpAny_pure h⟩
/-- () + u: u itself -/
theorem cat_tup0 {t b : Addr} {vs ws : List Value} {Q : Value → Shared → Prop} (ht : IsTup s.heap t vs.toArray) (hb : IsTup s.heap b ws.toArray) (hv : vs = [])
    (h1 : Q (.ref b) s) : wpAny (model prog w) A (binaryOp .Add (.ref t) (.ref b)) Q E s := by
  obtain ⟨⟨cls, dd, data, sl⟩, ho, hc, n, hd⟩ := id ht
  obtain ⟨⟨cls2, dd2, data2, sl2⟩, ho2, hc2, n2, hd2⟩ := id hb
  simp only at hc hd hc2 hd2
  subst hc hd hc2 hd2
  exact concat_meets ⟨_, ho, rfl⟩ ⟨_, ho2, rfl⟩ noFill_tuple_add seq_tuple_add PySem.F.slot_tuple_add PySem.F.entry_tuple_add (PySem.F.args_tuple_add_2 _ _)
      (tuple_addW0 t b vs.toArray ws.toArray n n2 dd dd2 sl sl2 (by simp [hv])) ⟨ho, ho2, h1⟩
end
end HT
namespace L2
open PySem PySem.Spec PyProof.Rows
theorem cutV_all {xs : List V} {lo hi : Option Int} (h : HT.sIx xs.length 0 lo = 0 ∧ HT.sIx xs.length xs.length hi = xs.length) : cutV xs lo hi = xs := by
  unfold cutV
  rw [h.1, h.2]
  simp
section
variable {X : Cx}
end
end L2
namespace L2
open PySem PySem.Spec PyProof.Rows
section
variable {X : Cx} {tg iter elt : Expr} {ifs : List Expr} {scope : Scope} {pos : Pos} {wi : TI} {g : TG} {tt : TT} {te : TE} {O F : List Str} {cap : List Nat}
/-- a comprehension's block, whatever becomes of its list -/
theorem comp_core {use : Option (Value → Sem Unit)} {R : Value → Shared → Prop} {pins : List (Addr × Obj)} {s : Shared} {σ : St} {H : Hp} {Q : VK} {ps0 : Pos} (hc : X.calm = true) (S : CmpScope X.N X.env.scope O F cap scope) (hi : PI X tg iter wi)
    (hg : ∀ cl C ex s H, PG (cxComp X (O ++ F) scope cl C ex s H) tg g) (ht : ∀ cl C ex s H, PTs (cxComp X (O ++ F) scope cl C ex s H) ifs tt) (he : ∀ cl C ex s H, PE (cxComp X (O ++ F) scope cl C ex s H) elt te)
    (ho : Own O.length g) (hs : ∀ x, foldedSetIterable iter X.env x = pure x) (I : Inv X pins σ H s) (h : tComp wi O cap g tt te σ H Q)
    (post : ∀ (s4 : Shared) (D C : Addr) (H4 : Hp) (ys : List V), (∃ m, s4.heap.Ns C m) → D ≠ C → (∀ h', Heap.SameBut C s4.heap h' → Inv X pins σ (upd H4 D (.lst ys)) { s4 with heap := h' }) → FpOk X pins (upd H4 D (.lst ys)) C → Q (.ref D) (upd H4 D (.lst ys)) →
      compPost (model X.prog X.w) X.A X.xe use R (.ref D) C (.ok .next) s4) :
    wpAny (model X.prog X.w) X.A (comprehension (.ListComp elt [⟨tg, iter, ifs, 0⟩] scope pos) scope X.env ps0 (newList []) false (eval iter X.env) use) R X.xe s := by
  have hfr : ∀ y ∈ scope.names, y.2 = .free → ∃ c, X.env.cells.lookup y.1 = some c := fun y hy e => I.ok.has y.1 (S.frees y hy e)
  refine wpAny_comprehension_free (use := use) rfl hs (closure_is hfr) S.kind S.names (thn (hi pins s σ H _ I h) fun v s1 h1 => thn h1 fun itv s2 h2 => ?_)
  obtain ⟨it, fp, tn, J, H2, e, I2, T, st2, f2, W, ⟨m0, w0⟩, turn⟩ := h2
  subst e
  refine wpAny_newObj_type (wpAny_newFunctionEnv S.nocell (by intro y hy; simp at hy) (fun h1 hns1 hsb1 => ?_) S.kind)
  dsimp only at hns1 hsb1 ⊢
  generalize hH0 : s2.heap.push { cls := .type "list", dict := none, data := .seq ([] : List Value).toArray } = h0 at hns1 hsb1 ⊢
  have h0s : h0.objs.size = s2.heap.objs.size + 1 := by rw [← hH0, Heap.size_push]
  have k0 : ∀ b o, s2.heap.get? b = some o → h0.get? b = some o := fun b o e => hH0 ▸ Heap.get?_push_of_some _ e
  have k1 : ∀ b o, h0.get? b = some o → h1.get? b = some o := fun b o e => hsb1.extBut b o (Nat.ne_of_lt (Heap.lt_size e)) (Heap.get?_push_of_some _ e)
  have oD0 : h0.get? s2.heap.objs.size = some { cls := .type "list", data := .seq ([] : List Value).toArray } := hH0 ▸ Heap.get?_push_size _ rfl
  have hDC : s2.heap.objs.size < h0.objs.size := by rw [h0s]; exact Nat.lt_succ_self _
  have hsC : s2.heap.objs.size ≤ h0.objs.size := Nat.le_of_lt hDC
  have flt : ∀ b ∈ fp, b < s2.heap.objs.size := fun b hb => by
    obtain ⟨o, e, _⟩ := T.obj _ _ st2 b hb
    exact Heap.lt_size e
  have Dfp : s2.heap.objs.size ∉ fp := fun z => Nat.lt_irrefl _ (flt _ z)
  have I3 : Inv (cxComp X (O ++ F) scope (clOf X.env.cells scope.names []) h0.objs.size (s2.heap.objs.size :: fp) { s2 with heap := h0 } H2) [] (cmpSt O cap σ) H2 { s2 with heap := h1, toks := s2.toks + ([] : List (Str × Value)).length } :=
    I2.comp S f2 (T.obj _ _ st2) hsC s2.heap.objs.size (Nat.le_refl _) hDC rfl k0 k1 hns1
  generalize hX' : cxComp X (O ++ F) scope (clOf X.env.cells scope.names []) h0.objs.size (s2.heap.objs.size :: fp) { s2 with heap := h0 } H2 = X' at I3
  have hg' : PG X' tg g := hX' ▸ hg _ _ _ _ _
  have ht' : PTs X' ifs tt := hX' ▸ ht _ _ _ _ _
  have he' : PE X' elt te := hX' ▸ he _ _ _ _ _
  have fpok : ∀ {H' : Hp}, (∀ b ∈ s2.heap.objs.size :: fp, H' b = none) → ∀ b ∈ s2.heap.objs.size :: fp, FpOk X' [] H' b := fun {H'} hn b hb => by
    have hex : b ∈ X'.ex := by rw [← hX']; exact hb
    refine ⟨hn b hb, (I3.ok.exf b hex).1, I3.ok.exfs b hex, .inl hex, (I3.ok.exf b hex).2, fun p hp => ?_⟩
    rw [← hX'] at hp
    exact absurd (show p ∈ ([] : List (Addr × Obj)) from hp) (by simp)
  have eP : X'.prog = X.prog := by rw [← hX']; rfl
  have eW : X'.w = X.w := by rw [← hX']; rfl
  have eK : X'.K = X.K := by rw [← hX']; rfl
  have eA : X'.A = X.A := by rw [← hX']; rfl
  have eC : X'.calm = true := by rw [← hX']; exact hc
  have eE : X'.env = compEnvC scope (clOf X.env.cells scope.names []) h0.objs.size X.env := by rw [← hX']; rfl
  have eX : X'.xe = fun _ _ => False := by rw [← hX']; rfl
  have loop : ∀ s3 : Shared, s3 = { s2 with heap := h1, toks := s2.toks + ([] : List (Str × Value)).length } →
      codeAny (model X.prog X.w) X.A (.compLoop (.ListComp elt [⟨tg, iter, ifs, 0⟩] scope pos) 0 (.ref it) (.ref s2.heap.objs.size) (compEnvC scope (clOf X.env.cells scope.names []) h0.objs.size X.env))
        (compPost (model X.prog X.w) X.A X.xe use R (.ref s2.heap.objs.size) h0.objs.size) s3 := by
    rintro s3 rfl
    refine compLoop_any (fun n s' => ∃ i ys us k H', Inv X' [] (cmpSt O cap σ) H' s' ∧ tn i s'.heap ∧ (∀ b ∈ s2.heap.objs.size :: fp, H' b = none) ∧ s'.heap.get? s2.heap.objs.size = some { cls := .type "list", data := .seq us.toArray k } ∧ Vals ys us ∧ W i n ys H') ?_ m0
      ⟨0, [], [], _, H2, I3, T.keep _ _ _ st2 (fun b _ o e => k1 b o (k0 b o e)), fun b hb => ?_, k1 _ _ oD0, .nil, w0⟩
    · rintro n s3 ⟨i, ys, us, k, H3, I3', st3, fr3, o3, rv3, w3⟩
      obtain ⟨hz, step⟩ := turn i n ys H3 w3
      have fpI : ∀ b ∈ fp, FpOk X' [] H3 b := fun b hb => fpok fr3 b (List.mem_cons_of_mem _ hb)
      rcases step with ⟨stop, q⟩ | ⟨go, NN, hNN, step⟩
      · have := T.done X' eP eW eK eC i [] s3 (cmpSt O cap σ) H3 (fun _ _ => False) I3' fpI st3 stop
        rw [eA] at this
        have hk : ∀ {s4 : Shared}, Inv X' [] (cmpSt O cap σ) H3 s4 → s4.heap.get? s2.heap.objs.size = some { cls := .type "list", data := .seq us.toArray k } → compPost (model X.prog X.w) X.A X.xe use R (.ref s2.heap.objs.size) h0.objs.size (.ok .next) s4 := fun {s4} I4 o4 => by
          obtain ⟨m, hm, _⟩ := id I4.loc
          rw [eE] at hm
          have fC : H3 h0.objs.size = none := by
            have := I4.free
            rw [eE] at this
            exact this
          have nCD : h0.objs.size ≠ s2.heap.objs.size := Nat.ne_of_gt hDC
          refine post s4 s2.heap.objs.size h0.objs.size H3 ys ⟨m, hm⟩ (Ne.symm nCD) (fun h' sb => ?_) (I2.fpOk hsC (by rw [upd_ne nCD]; exact fC)) (q _ (fr3 _ List.mem_cons_self))
          rw [← hX'] at I4
          exact I2.uncomp f2 hsC (Nat.le_refl _) hDC k0 I4 (fr3 _ List.mem_cons_self) o4 rv3 hz sb
        -- the accumulator is pinned while the iterator ends
        have J3 : Inv X' [(s2.heap.objs.size, { cls := .type "list", data := .seq us.toArray k })] (cmpSt O cap σ) H3 s3 := I3'.pins_of fun p hp => by
          have : p = (s2.heap.objs.size, { cls := .type "list", data := .seq us.toArray k }) := by simpa using hp
          subst this
          obtain ⟨f0, f1, f2', _⟩ := fpok fr3 s2.heap.objs.size List.mem_cons_self
          exact ⟨o3, f0, f1, f2', fun v z => by cases z⟩
        have fpJ : ∀ b ∈ fp, FpOk X' [(s2.heap.objs.size, { cls := .type "list", data := .seq us.toArray k })] H3 b := fun b hb => by
          obtain ⟨f0, f1, f3, f4, f5, f6⟩ := fpI b hb
          refine ⟨f0, f1, f3, f4, f5, fun p hp => ?_⟩
          rcases List.mem_append.mp hp with z | z
          · exact f6 p (List.mem_append_left _ z)
          · have : p = (s2.heap.objs.size, { cls := .type "list", data := .seq us.toArray k }) := by simpa using z
            subst this
            intro e
            exact Dfp (by rw [show s2.heap.objs.size = b from e]; exact hb)
        have fin := T.done X' eP eW eK eC i _ s3 (cmpSt O cap σ) H3 (fun _ _ => False) J3 fpJ st3 stop
        rw [eA] at fin
        refine thn fin fun r s4 ⟨hr, J4⟩ => ?_
        subst hr
        exact hk (J4.pins_of fun p hp => absurd hp (by simp)) (J4.pin (s2.heap.objs.size, { cls := .type "list", data := .seq us.toArray k }) (List.mem_append_right _ (List.mem_singleton.mpr rfl))).1
      · have J3 : Inv X' (pinsAt [s2.heap.objs.size] s3.heap) (cmpSt O cap σ) H3 s3 := by
          have := I3'.pinned (fp := [s2.heap.objs.size]) (fun b hb => fpok fr3 b (by simp at hb; simp [hb])) (fun b hb => by
            have e : b = s2.heap.objs.size := by simpa using hb
            subst e
            exact ⟨_, o3, fun v z => by cases z⟩)
          simpa using this
        have fpJ : ∀ b ∈ fp, FpOk X' (pinsAt [s2.heap.objs.size] s3.heap) H3 b := fun b hb => by
          obtain ⟨f0, f1, f3, f4, f5, f6⟩ := fpI b hb
          refine ⟨f0, f1, f3, f4, f5, fun p hp => ?_⟩
          rcases List.mem_append.mp hp with z | z
          · exact f6 p (List.mem_append_left _ z)
          · have := (of_pinsAt z).1
            have e' : p.1 = s2.heap.objs.size := by simpa using this
            intro e
            exact Dfp (by rw [← e', e]; exact hb)
        have it3 := T.item X' eP eW eK eC i _ s3 (cmpSt O cap σ) H3 (fun _ _ => False) J3 fpJ st3 go
        rw [eA] at it3
        refine thn it3 fun r s4 ⟨u, hr, h4⟩ => ?_
        subst hr
        refine thn h4 fun _ s5 ⟨x, H5, I5, r5, y5, st5, fr5⟩ => ?_
        have o5 : s5.heap.get? s2.heap.objs.size = some { cls := .type "list", data := .seq us.toArray k } := (I5.pin (_, _) (List.mem_append_right _ (mem_pinsAt (by simp) o3))).1
        have d5 : H5 s2.heap.objs.size = none := (I5.pin (_, _) (List.mem_append_right _ (mem_pinsAt (by simp) o3))).2.1
        have fr5' : ∀ b ∈ s2.heap.objs.size :: fp, H5 b = none := fun b hb => (List.mem_cons.mp hb).elim (fun z => by rw [z]; exact d5) (fr5 b)
        have I5' : Inv X' (pinsAt (s2.heap.objs.size :: fp) s5.heap) (cmpSt O cap σ) H5 s5 := by
          have := (I5.pins_of (pins' := []) fun p hp => absurd hp (by simp)).pinned (fp := s2.heap.objs.size :: fp) (fpok fr5') (fun b hb => by
            rcases List.mem_cons.mp hb with e | hb
            · subst e
              exact ⟨_, o5, fun v z => by cases z⟩
            · exact T.obj _ _ st5 b hb)
          simpa using this
        have a5 := hg' _ s5 (cmpSt O cap σ) H5 x u _ I5' r5 (ho _ _ _ _ (step x H5 y5))
        rw [eP, eW, eA, eE, eX] at a5
        refine thn a5 fun _ s6 ⟨σ6, H6, I6, ⟨l6, w6⟩, q6⟩ => ?_
        have t6 := ht' _ s6 σ6 H6 _ I6 q6
        rw [eP, eW, eA, eE, eX] at t6
        refine thn t6 fun ok s7 ⟨H7, I7, q7⟩ => ?_
        -- behind the turn
        have back : ∀ {σ8 : St} {H8 : Hp} {s8 : Shared}, σ8.length = (cmpSt O cap σ).length → Inv X' (pinsAt (s2.heap.objs.size :: fp) s5.heap) σ8 H8 s8 → (∀ (j : Nat) v, (cmpSt O cap σ)[j]? = some (some v) → σ8[j]? = some (some v)) →
            Inv X' [] (cmpSt O cap σ) H8 s8 ∧ tn (i + 1) s8.heap ∧ (∀ b ∈ s2.heap.objs.size :: fp, H8 b = none) ∧ s8.heap.get? s2.heap.objs.size = some { cls := .type "list", data := .seq us.toArray k } := fun {σ8 H8 s8} hl I8 hw => by
          have pin8 : ∀ b ∈ s2.heap.objs.size :: fp, ∀ o, s5.heap.get? b = some o → s8.heap.get? b = some o ∧ H8 b = none := fun b hb o e => by
            have := I8.pin (b, o) (List.mem_append_right _ (mem_pinsAt hb e))
            exact ⟨this.1, this.2.1⟩
          refine ⟨(I8.pins_of fun p hp => absurd hp (by simp)).weak hl.symm hw, T.keep _ _ _ st5 fun b hb o e => (pin8 b (List.mem_cons_of_mem _ hb) o e).1, fun b hb => ?_, (pin8 _ List.mem_cons_self _ o5).1⟩
          rcases List.mem_cons.mp hb with e | hb'
          · exact (pin8 b hb _ (by rw [e]; exact o5)).2
          · obtain ⟨o, e, _⟩ := T.obj _ _ st5 b hb'
            exact (pin8 b hb o e).2
        have w6' : ∀ (j : Nat) v, (cmpSt O cap σ)[j]? = some (some v) → σ6[j]? = some (some v) := fun j v e => by
          by_cases hj : O.length ≤ j
          · rw [w6 j hj]; exact e
          · exfalso
            unfold cmpSt at e
            rw [List.getElem?_append_left (by simpa using Nat.not_le.mp hj), List.getElem?_map] at e
            cases q : O[j]? with
            | none => rw [q] at e; cases e
            | some z => rw [q] at e; cases e
        cases ok with
        | false =>
          rw [if_neg Bool.false_ne_true] at q7 ⊢
          obtain ⟨m', hm, w7⟩ := hNN _ _ q7
          obtain ⟨b1, b2, b3, b4⟩ := back l6 I7 w6'
          exact ⟨m', hm, i + 1, ys, us, k, H7, b1, b2, b3, b4, rv3, w7⟩
        | true =>
          rw [if_pos rfl] at q7 ⊢
          have e7 := he' _ s7 σ6 H7 _ I7 q7
          rw [eP, eW, eA, eE, eX] at e7
          refine thn e7 fun y s8 ⟨z, H8, I8, r8, q8⟩ => ?_
          obtain ⟨m', hm, w8⟩ := hNN _ _ q8
          obtain ⟨b1, b2, b3, b4⟩ := back l6 I8 w6'
          have hzs : us.toArray.size ≤ sizeLine := by rw [List.size_toArray, ← rv3.length]; exact hz
          refine append_at (hsz := hzs) b4 fun h9 hs9 hD9 => ?_
          obtain ⟨f0, f1, f2', f3, f4, f5⟩ := fpok b3 s2.heap.objs.size List.mem_cons_self
          have I9 : Inv X' [] (cmpSt O cap σ) H8 { s8 with heap := h9 } := b1.turned (t' := s8.toks) (fun b o hb e => (hs9.2 b hb).trans e) f0 f1 f3 f4 f5
          refine ⟨m', hm, i + 1, ys ++ [z], us ++ [y], k + 1, H8, I9, T.keep _ _ _ b2 fun b hb o e => (hs9.2 b fun q => Dfp (by rw [← q]; exact hb)).trans e, b3, ?_, rv3.snoc r8, w8⟩
          rw [hD9, List.push_toArray]
    · rcases List.mem_cons.mp hb with e | hb
      · rw [e]; exact I2.hok.fresh (Nat.le_refl _)
      · exact (f2 b hb).1
  exact codeAny_compStart_list (loop _ rfl) (T.self _ 0 _ _ _ (T.keep _ _ _ st2 (fun b _ o e => k1 b o (k0 b o e))) (loop _ rfl))
/-- x = [elt for tg in iter if ..] -/
theorem ps_setc {i : Nat} {x : Str} {pos' spos : Pos} (hN : X.N.Nodup) (hix : X.N[i]? = some x) (hx : Loc X.env.scope x) (hc : X.calm = true) (S : CmpScope X.N X.env.scope O F cap scope) (hi : PI X tg iter wi)
    (hg : ∀ cl C ex s H, PG (cxComp X (O ++ F) scope cl C ex s H) tg g) (ht : ∀ cl C ex s H, PTs (cxComp X (O ++ F) scope cl C ex s H) ifs tt) (he : ∀ cl C ex s H, PE (cxComp X (O ++ F) scope cl C ex s H) elt te)
    (ho : Own O.length g) (hsw : swapsWith (.ListComp elt [⟨tg, iter, ifs, 0⟩] scope pos) (some (.Name x pos')) spos.line X.env = pure true := by rfl) (hs : ∀ x, foldedSetIterable iter X.env x = pure x := by intro _; rfl)
    (hf : X.fn x = true ∨ X.env.scope.names.lookup x = some .local := by first | exact .inl rfl | exact .inr rfl | assumption) :
    PS X (.Assign [.Name x pos'] (.ListComp elt [⟨tg, iter, ifs, 0⟩] scope pos) spos) (tAsg (tComp wi O cap g tt te) (gName i)) := by
  intro pins s σ H D I h
  rw [exec_Assign_Name_used _ _ _ _ hsw]
  refine wpAny_bind (wpAny_standAt (wpAny_bind ?_))
  show wpAny _ X.A (do let _ ← comprehension (.ListComp elt [⟨tg, iter, ifs, 0⟩] scope pos) scope X.env _ (newList []) false (eval iter X.env) (some (assign (.Name x pos') X.env))) _ _ s
  refine wpAny_bind (wpAny_mono (comp_core (R := fun _ s' => SP X pins D .next s') hc S hi hg ht he ho hs I h ?_) (fun _ s' hq => wpAny_pure (wpAny_pure hq)) fun _ _ e => e)
  intro s4 D' C H4 ys ⟨m, hm⟩ hDC hI fp q
  show wpAny (model X.prog X.w) X.A (assign (.Name x pos') X.env (.ref D')) (fun _ s'' => ∃ m, s''.heap.Ns C m ∧ ∀ h', Heap.SameBut C s''.heap h' → SP X pins D .next { s'' with heap := h' }) X.xe s4
  obtain ⟨f0, f1, f2, f3, f4, f5⟩ := fp
  refine wpAny_assign_Name (store_ok2 (v := .ref D') (hI s4.heap ⟨rfl, fun _ _ => rfl⟩) hN hix hx rfl (fun s5 I5 z => ?_) hf)
  obtain ⟨a, sb, ha⟩ := z
  have hCa : C ≠ a := by
    rcases ha with e | e
    · rw [e]; exact f1
    · exact Ne.symm (f4 x a e)
  refine ⟨m, hm.sameBut sb hCa, fun h' sb' => ?_⟩
  exact ⟨_, upd H4 D' (.lst ys), I5.turned (t' := s5.toks) (fun b o hb e => (sb'.2 b hb).trans e) f0 f1 f3 f4 f5, q⟩
end
end L2
namespace L2
open PySem PySem.Spec PyProof.Rows
/-- data that == may be asked of -/
structure Dat (d : PyData) : Prop where
  lay : d.canLay0 = true
  dep : d.depth ≤ 64
section
variable {X : Cx}
theorem iadd_lists {M : Model} {A : Around} {E : Value → Shared → Prop} {s : Shared} {a b : Value} {Q : Value → Shared → Prop} (ha : s.TypeIs a "list") (hb : s.TypeIs b "list")
    (hc : wpAny M A (call (.builtin "list.__iadd__") [a, b]) Q E s) : wpAny M A (inplaceOp .Add a b) Q E s := by
  unfold inplaceOp
  refine wpAny_holding ?_
  have hl : typeLookup (.type "list") (dunderI "add") = pure (some (.builtin "list.__iadd__")) := F.slot_list_iadd.lookup
  have hfi : fillsInplaceSlot (.type "list") "add" (Operator.Add == .Add) = pure false := by
    unfold fillsInplaceSlot
    show (typeLookup (.type "list") (dunderI "add") >>= fun fi => pure (fi.isSome && !isSeqSlot fi)) = pure false
    rw [hl]
    show (pure (_ && !isSeqSlot (some (.builtin "list.__iadd__"))) : Sem Bool) = pure false
    rw [show isSeqSlot (some (.builtin "list.__iadd__")) = true by decide +kernel]
    rfl
  have hsi : seqSlot? (.type "list") (dunderI "add") = pure (some (.builtin "list.__iadd__")) := PySem.seqSlot_of (name := dunderI "add") hl (by decide +kernel)
  refine wpAny_bind (wpAny_typeOf ha (wpAny_bind (wpAny_of_eq hfi ?_)))
  show wpAny M A (if false = true then _ else _) Q E s
  rw [if_neg Bool.false_ne_true]
  refine wpAny_bind (wpAny_binaryOp1_none (nm := "add") ha hb noFill_list_add ?_)
  refine wpAny_bind (wpAny_of_eq hsi ?_)
  exact wpAny_bind (wpAny_rule hc)
end
end L2
namespace L2
open PySem PySem.Spec PyProof.Rows
section
variable {X : Cx} {tg : Expr}
end
end L2
namespace L2
open PySem PySem.Spec PyProof.Rows
section
variable {X : Cx} {a b c d : Expr} {ta tb tc td : TE} {pos : Pos}
noncomputable def repS (z : Str) (n : Nat) : Str := ⟨(List.replicate n z.cps).foldl (· ++ ·) #[]⟩
theorem op_repS : OpR X (binaryOp .Mult) (fun x y H Q => ∃ (z : Str) (n : Nat), x = .str z ∧ y = .int n ∧ 1 ≤ n ∧ n ≤ 1000 ∧ z.length ≤ 1000 ∧ (n ≠ 1 → z.length ≠ 0 → Q (.str (repS z n)) H) ∧ (n = 1 → Q (.str z) H) ∧ (z.length = 0 → Q (.str z) H)) := by
  intro pins s σ H x y v u Q I rx ry h
  obtain ⟨z, n, rfl, rfl, h1, h2, h3, q1, q2, q3⟩ := h
  obtain ⟨t, rfl⟩ := rx
  obtain ⟨t', rfl⟩ := ry
  have hmul : z.length * n ≤ 1000000 := Nat.mul_le_mul h3 h2
  refine P.mul_str ?_ (fun _ _ => ?_) (fun _ _ => ?_) ?_
  · rw [decide_eq_false (show ¬ (n : Int) < -(2 ^ 63 : Int) by omega), decide_eq_false (show ¬ (n : Int) ≥ 2 ^ 63 by omega)]
    rfl
  · have : (9223372036854775807 : Int) / (n : Int) ≥ 9223372036854775807 / 1000 := by
      apply Int.le_ediv_of_mul_le (by omega)
      have : (n : Int) ≤ 1000 := by omega
      omega
    have e : ((2 : Int) ^ 63 - 1) = 9223372036854775807 := by decide
    rw [e]
    omega
  · unfold Builtin.Str.tooLong
    rw [Int.toNat_natCast]
    exact decide_eq_false (Nat.not_lt.mpr (Nat.le_trans hmul (by decide)))
  · rw [if_neg (by omega)]
    by_cases h0 : ((n : Int) == 1 || z.length == 0) = true
    · rw [if_pos h0]
      refine ⟨.str z, H, I, ⟨_, rfl⟩, ?_⟩
      simp at h0
      rcases h0 with h0 | h0
      · exact q2 (by omega)
      · exact q3 h0
    · rw [if_neg h0, Int.toNat_natCast]
      simp at h0
      refine ⟨?_, .str (repS z n), H, I.tok _, ⟨_, rfl⟩, q1 (by omega) h0.2⟩
      have size_fold : ∀ (k : Nat) (acc : Array Nat), ((List.replicate k z.cps).foldl (· ++ ·) acc).size = acc.size + z.length * k := by
        intro k
        induction k with
        | zero => intro acc; simp
        | succ k ih =>
          intro acc
          rw [List.replicate_succ, List.foldl_cons, ih, Array.size_append, Nat.mul_succ]
          show acc.size + z.length + z.length * k = _
          omega
      show ((List.replicate n z.cps).foldl (· ++ ·) #[]).size ≤ sizeLine
      rw [size_fold]
      exact Nat.le_trans (by simp; exact hmul) (by decide)
end
end L2
namespace L2
open PySem PySem.Spec PyProof.Rows PySem.W
theorem weight_ints : ∀ {ns : List Int} {n : Int}, n ∈ ns → Builtin.Int.intBits n ≤ WData.weightAll (ns.map WData.int)
  | m :: ns, n, h => by
    simp only [List.map_cons, WData.weightAll]
    rcases List.mem_cons.mp h with rfl | h
    · have : Builtin.Int.intBits n = WData.weight (.int n) := by simp [WData.weight, Builtin.Int.intBits]
      omega
    · have := weight_ints h
      omega
/-- the same, each number of the script with its bits -/
theorem walk_ofB {l : PySem.W.OpenLaw} {n k : Nat} {q : Program} {loose : List Str} {XP : (Str → Option Value) → Heap → Prop} {YP : World → Heap → Prop} {d : DefRec} {K : Params → PySem.W.Frag} {CX : World → CXT} {sp : World → Sp} {x : Str}
    (hn : l.most = some n) (hn2 : n ≤ sizeLine) (hdf : d.params.defaults = []) (hr : Room k callerA)
    (hY : ∀ (w : World) (h : Heap), YP w h → (K w.params).In h)
    (F : ∀ (w : World) (mg : Str → Option Value) (fa : Addr) (h : Heap), (K w.params).In h → h.Ns mainGlobals mg → mg d.name = some (.ref fa) →
      ∃ fd : FuncData, (∀ (s : Shared) (u : Value), BindsTo s fd ⟨[u], []⟩ [(x, u)]) ∧
        ∀ base : Heap, (K w.params).In base → base.Ns mainGlobals mg → FnOk l.prog w (K w.params) mg base (CX w) k fa fd [x] (sp w))
    (hsp : ∀ (w : World) (H : Hp) (a : Addr) (ns : List Int), ns.length ≤ n → (∀ m ∈ ns, Builtin.Int.intBits m ≤ 2 ^ 20) → Only H → SqL (K w.params) H a (ns.map V.int) → sp w [.ref a] H (fun v _ => v = .bl true) fun _ _ _ => False)
    (hCX : ∀ (w : World) (H : Hp) (s : Shared) (e : Value) (s' : Shared), CX w [] H s (fun _ _ _ => False) e s' → False) :
    PySem.W.WalkO q loose XP YP l.row.toRowW d [] (fun f vs => PySem.call f vs) := by
  intro w s₀ s₁ mg mb G Y fa o pm cd doc dV kV ho hd hcd hD hmg hg args vals as hpre hlay hrd hwl hlo
  obtain rfl : dV = .none := Dflts.none hD hdf
  obtain rfl : kV = .none := Dflts.noKw hD
  obtain ⟨a, vs, ns, rfl, rfl, hobj, hints, hlen⟩ := Att.script_of hn hpre hwl
  have KX := hY w _ Y
  obtain ⟨fd, hb, hF⟩ := F w mg fa _ KX G.T.g hmg
  have hbits : ∀ m ∈ ns, Builtin.Int.intBits m ≤ 2 ^ 20 := fun m hm => by
    have h1 := (layableW_iff.mp (layW_cons hlay).1).2.2
    have h2 := weight_ints hm
    have e : WData.weight (.list (ns.map WData.int)) = WData.weightAll (ns.map WData.int) := by simp [WData.weight]
    rw [e] at h1
    exact Nat.le_trans h2 h1
  refine PySem.W.enter_call (codeAny_mono (law_call KX G.T.g G.T.b G.T.builtins G.T.nolimit hg hobj hints (Nat.le_trans hlen hn2) hr hF hb (fun H hO hS => hsp w H a ns hlen hbits hO hS) fun H e s' => hCX w H s₁ e s') fun r s' hq => ?_)
  obtain ⟨rfl, h2, h3, h4⟩ := hq
  exact ⟨.inl ⟨.bool true, .bool true, [], rfl, fun _ => rfl, .bool true, Att.post_true l _, fun _ => ⟨List.Pairwise.nil, fun _ hm => (nomatch hm)⟩⟩, h2, h3, h4⟩
end L2
namespace L2
open PySem PySem.Spec PyProof.Rows
section
variable {α β : Type} {F G : α → β → Prop}
theorem pd_imp (h : ∀ a b, F a b → G a b) : ∀ {l : List α} {m : List β}, Paired F l m → Paired G l m
  | _, _, .nil => .nil
  | _, _, .cons a t => .cons (h _ _ a) (pd_imp h t)
theorem pd_get : ∀ {l : List α} {m : List β} {i : Nat} {a : α}, Paired F l m → l[i]? = some a → ∃ b, m[i]? = some b ∧ F a b
  | _, _, _, _, .nil, e => by simp at e
  | _, _, 0, _, .cons h _, e => by simp at e; subst e; exact ⟨_, rfl, h⟩
  | _, _, i + 1, a, .cons _ t, e => by
    obtain ⟨b, h1, h2⟩ := pd_get (i := i) (a := a) t (by simpa using e)
    exact ⟨b, by simpa using h1, h2⟩
theorem pd_getR : ∀ {l : List α} {m : List β} {i : Nat} {b : β}, Paired F l m → m[i]? = some b → ∃ a, l[i]? = some a ∧ F a b
  | _, _, _, _, .nil, e => by simp at e
  | _, _, 0, _, .cons h _, e => by simp at e; subst e; exact ⟨_, rfl, h⟩
  | _, _, i + 1, b, .cons _ t, e => by
    obtain ⟨a, h1, h2⟩ := pd_getR (i := i) (b := b) t (by simpa using e)
    exact ⟨a, by simpa using h1, h2⟩
theorem pd_len : ∀ {l : List α} {m : List β}, Paired F l m → l.length = m.length
  | _, _, .nil => rfl
  | _, _, .cons _ t => by simp [pd_len t]
theorem pd_app : ∀ {l l' : List α} {m m' : List β}, Paired F l m → Paired F l' m' → Paired F (l ++ l') (m ++ m')
  | _, _, _, _, .nil, s => s
  | _, _, _, _, .cons h t, s => .cons h (pd_app t s)
theorem pd_take : ∀ {l : List α} {m : List β} (n : Nat), Paired F l m → Paired F (l.take n) (m.take n)
  | _, _, 0, _ => .nil
  | _, _, _ + 1, .nil => .nil
  | _, _, n + 1, .cons r t => .cons r (pd_take n t)
theorem pd_drop : ∀ {l : List α} {m : List β} (n : Nat), Paired F l m → Paired F (l.drop n) (m.drop n)
  | _, _, 0, r => r
  | _, _, _ + 1, .nil => .nil
  | _, _, n + 1, .cons _ t => pd_drop n t
theorem pd_set {a : α} {b : β} (r : F a b) : ∀ {l : List α} {m : List β} (i : Nat), Paired F l m → Paired F (l.set i a) (m.set i b)
  | _, _, _, .nil => .nil
  | _, _, 0, .cons _ t => .cons r t
  | _, _, i + 1, .cons q t => .cons q (pd_set r i t)
theorem pd_map {γ : Type} {f : γ → α} {l : List γ} {m : List β} (h : Paired (fun c b => F (f c) b) l m) : Paired F (l.map f) m := by
  induction h with
  | nil => exact .nil
  | cons r _ ih => exact .cons r ih
theorem pd_unmap {γ : Type} {f : γ → α} : ∀ {l : List γ} {m : List β}, Paired F (l.map f) m → Paired (fun c b => F (f c) b) l m
  | [], _, .nil => .nil
  | _ :: _, _, .cons r t => .cons r (pd_unmap t)
end
mutual
inductive Rq (K : PySem.W.Frag) (F : Hp) : V → PyData → Prop
  | non : Rq K F .non .none
  | bl (b : Bool) : Rq K F (.bl b) (.bool b)
  | int (i : Int) : Rq K F (.int i) (.int i)
  | str (x : Str) : Rq K F (.str x) (.str x)
  | lst {a : Addr} {vs : List V} {ds : List PyData} : Rd F a (.lst vs) → Rqs K F vs ds → Rq K F (.ref a) (.list ds)
  | tup {a : Addr} {vs : List V} {ds : List PyData} : SqT K F a vs → Rqs K F vs ds → Rq K F (.ref a) (.tuple ds)
  | dct {a : Addr} : F a = some (.dK []) → Rq K F (.ref a) (.dict [])
inductive Rqs (K : PySem.W.Frag) (F : Hp) : List V → List PyData → Prop
  | nil : Rqs K F [] []
  | cons {v : V} {d : PyData} {vs : List V} {ds : List PyData} : Rq K F v d → Rqs K F vs ds → Rqs K F (v :: vs) (d :: ds)
end
theorem Same.rd {H H' : Hp} {a : Addr} {u : HO} (e : Same H H') (h : Rd H a u) : Rd H' a u := by
  rcases h with h | ⟨o, h⟩
  · exact .inl (e _ _ h)
  · exact .inr ⟨o, e _ _ h⟩
theorem Same.seqT {K : PySem.W.Frag} {H H' : Hp} {a : Addr} {xs : List V} (e : Same H H') (h : SqT K H a xs) : SqT K H' a xs := by
  rcases h with (h | ⟨o, h⟩) | h
  · exact .inl (.inl (e _ _ h))
  · exact .inl (.inr ⟨o, e _ _ h⟩)
  · exact .inr h
mutual
theorem Rq.same {K : PySem.W.Frag} {H H' : Hp} (s : Same H H') : ∀ (d : PyData) {v : V}, Rq K H v d → Rq K H' v d
  | .none, _, .non => .non
  | .bool _, _, .bl b => .bl b
  | .int _, _, .int i => .int i
  | .str _, _, .str x => .str x
  | .list ds, _, .lst e r => .lst (s.rd e) (Rqs.same s ds r)
  | .tuple ds, _, .tup e r => .tup (s.seqT e) (Rqs.same s ds r)
  | .dict _, _, .dct e => .dct (s _ _ e)
theorem Rqs.same {K : PySem.W.Frag} {H H' : Hp} (s : Same H H') : ∀ (ds : List PyData) {vs : List V}, Rqs K H vs ds → Rqs K H' vs ds
  | [], _, .nil => .nil
  | d :: ds, _, .cons r t => .cons (Rq.same s d r) (Rqs.same s ds t)
end
theorem Rqs.pd {K : PySem.W.Frag} {H : Hp} : ∀ {vs : List V} {ds : List PyData}, Rqs K H vs ds → Paired (fun d v => Rq K H v d) ds vs
  | _, _, .nil => .nil
  | _, _, .cons r t => .cons r (Rqs.pd t)
theorem Rqs.of {K : PySem.W.Frag} {H : Hp} : ∀ {ds : List PyData} {vs : List V}, Paired (fun d v => Rq K H v d) ds vs → Rqs K H vs ds
  | _, _, .nil => .nil
  | _, _, .cons r t => .cons r (Rqs.of t)
/-- a value that some data may be read of: a text ... -/
theorem Rq.of_str {K : PySem.W.Frag} {H : Hp} {v : V} {x : Str} (r : Rq K H v (.str x)) : v = .str x := by cases r; rfl
theorem Rq.of_int {K : PySem.W.Frag} {H : Hp} {v : V} {x : Int} (r : Rq K H v (.int x)) : v = .int x := by cases r; rfl
theorem Rq.of_bl {K : PySem.W.Frag} {H : Hp} {v : V} {x : Bool} (r : Rq K H v (.bool x)) : v = .bl x := by cases r; rfl
theorem Rq.of_non {K : PySem.W.Frag} {H : Hp} {v : V} (r : Rq K H v .none) : v = .non := by cases r; rfl
theorem Rq.of_tup {K : PySem.W.Frag} {H : Hp} {v : V} {ds : List PyData} (r : Rq K H v (.tuple ds)) : ∃ a vs, v = .ref a ∧ SqT K H a vs ∧ Paired (fun d v => Rq K H v d) ds vs := by
  cases r with
  | tup h t => exact ⟨_, _, rfl, h, t.pd⟩
theorem Rq.of_lst {K : PySem.W.Frag} {H : Hp} {v : V} {ds : List PyData} (r : Rq K H v (.list ds)) : ∃ a vs, v = .ref a ∧ Rd H a (.lst vs) ∧ Paired (fun d v => Rq K H v d) ds vs := by
  cases r with
  | lst h t => exact ⟨_, _, rfl, h, t.pd⟩
mutual
theorem Rq.reads {X : Cx} {pins : List (Addr × Obj)} {σ : St} {H : Hp} {s : Shared} (I : Inv X pins σ H s) : ∀ (d : PyData) {v : V} {u : Value}, d.canLay0 = true → Rq X.K H v d → RelV v u → ∃ as, Reads s.heap u d as
  | .none, _, _, _, .non, r => by cases r; exact ⟨_, .none⟩
  | .bool _, _, _, _, .bl b, r => by cases r; exact ⟨_, .bool b⟩
  | .int _, _, _, _, .int i, r => by obtain ⟨t, rfl⟩ := r; exact ⟨_, .int i t⟩
  | .str _, _, _, _, .str x, r => by obtain ⟨t, rfl⟩ := r; exact ⟨_, .str x t⟩
  | .list ds, _, _, c, .lst e q, r => by
    cases r
    obtain ⟨its, rv, ⟨o, n, ho, hc, _, hd⟩, _⟩ := I.list (.inl e)
    obtain ⟨as, h⟩ := Rqs.reads I ds (by simpa [PyData.canLay0] using c) q rv
    exact ⟨_, .list ho hc hd (by simpa using h)⟩
  | .tuple ds, _, _, c, .tup e q, r => by
    cases r
    obtain ⟨its, rv, ⟨o, ho, hc, n, hd⟩, _⟩ := I.tuple e
    obtain ⟨as, h⟩ := Rqs.reads I ds (by simpa [PyData.canLay0] using c) q rv
    exact ⟨_, .tuple ho hc hd (by simpa using h)⟩
  | .dict _, _, _, c, .dct e, r => by simp [PyData.canLay0] at c
theorem Rqs.reads {X : Cx} {pins : List (Addr × Obj)} {σ : St} {H : Hp} {s : Shared} (I : Inv X pins σ H s) : ∀ (ds : List PyData) {vs : List V} {us : List Value}, PyData.canLayAll0 ds = true → Rqs X.K H vs ds → Vals vs us → ∃ as, ReadsAll s.heap us ds as
  | [], _, _, _, .nil, r => by cases r; exact ⟨_, .nil⟩
  | d :: ds, _, _, c, .cons q t, r => by
    cases r with
    | cons r1 r2 =>
      simp [PyData.canLayAll0] at c
      obtain ⟨as, h⟩ := Rq.reads I d c.1 q r1
      obtain ⟨bs, h'⟩ := Rqs.reads I ds c.2 t r2
      exact ⟨_, .cons h h'⟩
end
end L2
namespace L2
open PySem PySem.Spec PyProof.Rows
inductive El where
  | d (x : PyData)
  | o (k : Nat)
  /-- the script -/
  | s (ns : List Int)
  /-- an exception that is kept, of the class at C -/
  | x (C : Addr)
  /-- a tuple of numbers and texts that is made here: a key -/
  | p (ks : List Key)
inductive OD where
  | lst (xs : List El)
  | dK (kvs : List (Key × El))
  | dT (kvs : List (List Key × El))
noncomputable abbrev Wl := List OD
noncomputable abbrev Sl := List (Option El)
/-- an exception that is kept -/
noncomputable def excO (a C : Addr) : HO := .ext fun h => ∃ o, h.get? a = some o ∧ o.cls = .ref C
noncomputable def ElR (K : PySem.W.Frag) (F : Hp) (A : List Addr) : El → V → Prop
  | .d x, v => Rq K F v x
  | .o k, v => ∃ a, A[k]? = some a ∧ v = .ref a
  | .s ns, v => ∃ a, v = .ref a ∧ SqL K F a (ns.map V.int)
  | .x C, v => ∃ a, v = .ref a ∧ F a = some (excO a C)
  | .p ks, v => ∃ a, v = .ref a ∧ F a = some (.tup (ks.map kV))
theorem ElR.dd {K : PySem.W.Frag} {F : Hp} {A : List Addr} {x : PyData} {v : V} (h : Rq K F v x) : ElR K F A (.d x) v := h
theorem ElR.oo {K : PySem.W.Frag} {F : Hp} {A : List Addr} {k : Nat} {a : Addr} (h : A[k]? = some a) : ElR K F A (.o k) (.ref a) := ⟨a, h, rfl⟩
noncomputable def OdR (K : PySem.W.Frag) (F : Hp) (A : List Addr) : OD → HO → Prop
  | .lst es, h => ∃ vs, h = .lst vs ∧ Paired (ElR K F A) es vs
  | .dK kvs, h => ∃ vs, h = .dK vs ∧ Paired (fun p q => p.1 = q.1 ∧ ElR K F A p.2 q.2) kvs vs
  | .dT kvs, h => ∃ vs, h = .dT vs ∧ Paired (fun p q => p.1 = q.1 ∧ ElR K F A p.2 q.2) kvs vs
structure RW (K : PySem.W.Frag) (F : Hp) (A : List Addr) (W : Wl) (H : Hp) : Prop where
  sub : Same F H
  len : A.length = W.length
  nd : A.Nodup
  out : ∀ a ∈ A, F a = none
  obj : ∀ (k : Nat) a o, A[k]? = some a → W[k]? = some o → ∃ h, H a = some h ∧ OdR K F A o h
structure SR (K : PySem.W.Frag) (F : Hp) (A : List Addr) (S : Sl) (σ : St) : Prop where
  len : S.length = σ.length
  get : ∀ (i : Nat) e, S[i]? = some (some e) → ∃ v, σ[i]? = some (some v) ∧ ElR K F A e v
structure Ext (F : Hp) (A : List Addr) (F' : Hp) (A' : List Addr) : Prop where
  same : Same F F'
  pre : A <+: A'
section
variable {K : PySem.W.Frag} {F F' F1 F2 : Hp} {A A' A1 A2 : List Addr} {W W' : Wl} {H H' : Hp}
theorem Ext.refl : Ext F A F A := ⟨.refl _, List.prefix_refl _⟩
theorem Ext.trans (a : Ext F A F1 A1) (b : Ext F1 A1 F2 A2) : Ext F A F2 A2 := ⟨a.same.trans b.same, a.pre.trans b.pre⟩
theorem pre_get {A A' : List Addr} (h : A <+: A') {k : Nat} {a : Addr} (e : A[k]? = some a) : A'[k]? = some a := by
  obtain ⟨r, rfl⟩ := h
  rw [List.getElem?_append_left (by obtain ⟨q, _⟩ := List.getElem?_eq_some_iff.mp e; exact q)]
  exact e
theorem ElR.ext (x : Ext F A F' A') : ∀ {e : El} {v : V}, ElR K F A e v → ElR K F' A' e v
  | .d _, _, h => Rq.same x.same _ h
  | .o _, _, ⟨a, h, r⟩ => ⟨a, pre_get x.pre h, r⟩
  | .s _, _, ⟨a, h, r⟩ => ⟨a, h, x.same.seq r⟩
  | .x _, _, ⟨a, h, r⟩ => ⟨a, h, x.same _ _ r⟩
  | .p _, _, ⟨a, h, r⟩ => ⟨a, h, x.same _ _ r⟩
theorem OdR.ext (x : Ext F A F' A') : ∀ {o : OD} {h : HO}, OdR K F A o h → OdR K F' A' o h
  | .lst _, _, ⟨vs, e, p⟩ => ⟨vs, e, pd_imp (fun _ _ r => r.ext x) p⟩
  | .dK _, _, ⟨vs, e, p⟩ => ⟨vs, e, pd_imp (fun _ _ r => ⟨r.1, r.2.ext x⟩) p⟩
  | .dT _, _, ⟨vs, e, p⟩ => ⟨vs, e, pd_imp (fun _ _ r => ⟨r.1, r.2.ext x⟩) p⟩
theorem SR.ext {S : Sl} {σ : St} (r : SR K F A S σ) (x : Ext F A F' A') : SR K F' A' S σ := ⟨r.len, fun i e h => by
  obtain ⟨v, h1, h2⟩ := r.get i e h
  exact ⟨v, h1, h2.ext x⟩⟩
theorem SR.set {S : Sl} {σ : St} (r : SR K F A S σ) {e : El} {v : V} (h : ElR K F A e v) (i : Nat) : SR K F A (S.set i (some e)) (σ.set i (some v)) := ⟨by simp [r.len], fun j e' q => by
  by_cases hj : i = j
  · subst hj
    have hi : i < S.length := by
      have := (List.getElem?_eq_some_iff.mp q).1
      simpa using this
    rw [List.getElem?_set_self hi] at q
    cases q
    exact ⟨v, by rw [List.getElem?_set_self (by rw [← r.len]; exact hi)], h⟩
  · rw [List.getElem?_set_ne hj] at q
    obtain ⟨v', h1, h2⟩ := r.get j e' q
    exact ⟨v', by rw [List.getElem?_set_ne hj]; exact h1, h2⟩⟩
/-- an object stands alone -/
theorem RW.notin (r : RW K F A W H) {p : Addr} (h : H p = none) : p ∉ A := fun z => by
  obtain ⟨k, hk⟩ := List.mem_iff_getElem?.mp z
  have hl : k < W.length := by rw [← r.len]; exact (List.getElem?_eq_some_iff.mp hk).1
  obtain ⟨o, e, _⟩ := r.obj k p W[k] hk (by simp [hl])
  rw [h] at e
  cases e
theorem upd_same' {F : Hp} {p : Addr} {o : HO} (h : F p = none) : Same F (upd F p o) := fun b o' e => by rw [upd_ne (ne_of_none e h)]; exact e
theorem upd_mono {F H : Hp} (s : Same F H) {p : Addr} {o : HO} : Same (upd F p o) (upd H p o) := fun b o' e => by
  by_cases hb : b = p
  · subst hb; rw [upd_same] at e ⊢; exact e
  · rw [upd_ne hb] at e ⊢; exact s _ _ e
/-- a new thing that nobody changes -/
theorem RW.newF (r : RW K F A W H) {p : Addr} (h : H p = none) (o : HO) : RW K (upd F p o) A W (upd H p o) ∧ Ext F A (upd F p o) A := by
  have hp := r.notin h
  have x : Ext F A (upd F p o) A := ⟨upd_same' (r.sub.free h), List.prefix_refl _⟩
  refine ⟨⟨upd_mono r.sub, r.len, r.nd, fun a ha => ?_, fun k a o' hk hw => ?_⟩, x⟩
  · rw [upd_ne (fun z => hp (by rw [← z]; exact ha))]
    exact r.out a ha
  · obtain ⟨u, e, q⟩ := r.obj k a o' hk hw
    exact ⟨u, by rw [upd_ne (ne_of_none e h)]; exact e, q.ext x⟩
/-- a new object -/
theorem RW.newO (r : RW K F A W H) {p : Addr} (h : H p = none) {o : OD} {u : HO} (q : OdR K F A o u) : RW K F (A ++ [p]) (W ++ [o]) (upd H p u) ∧ Ext F A F (A ++ [p]) := by
  have hp := r.notin h
  have x : Ext F A F (A ++ [p]) := ⟨.refl _, List.prefix_append _ _⟩
  refine ⟨⟨fun b o' e => by rw [upd_ne (ne_of_none (r.sub _ _ e) h)]; exact r.sub _ _ e, by simp [r.len], ?_, fun a ha => ?_, fun k a o' hk hw => ?_⟩, x⟩
  · rw [List.nodup_append]
    exact ⟨r.nd, by simp, fun a ha b hb => by simp at hb; subst hb; exact fun z => hp (z ▸ ha)⟩
  · rcases List.mem_append.mp ha with ha | ha
    · exact r.out a ha
    · simp at ha; subst ha; exact r.sub.free h
  · by_cases hl : k < A.length
    · rw [List.getElem?_append_left hl] at hk
      rw [List.getElem?_append_left (by rw [← r.len]; exact hl)] at hw
      obtain ⟨u', e, q'⟩ := r.obj k a o' hk hw
      exact ⟨u', by rw [upd_ne (ne_of_none e h)]; exact e, q'.ext x⟩
    · have hk' : k = A.length := by
        have := (List.getElem?_eq_some_iff.mp hk).1
        simp at this
        omega
      subst hk'
      rw [List.getElem?_append_right (Nat.le_refl _)] at hk
      rw [List.getElem?_append_right (by rw [r.len]; exact Nat.le_refl _)] at hw
      simp at hk
      simp [r.len] at hw
      subst hk hw
      exact ⟨u, upd_same, q.ext x⟩
/-- an object is changed -/
theorem RW.put (r : RW K F A W H) {k : Nat} {a : Addr} (hk : A[k]? = some a) {o : OD} {u : HO} (q : OdR K F A o u) : RW K F A (W.set k o) (upd H a u) := by
  have ha : a ∈ A := List.mem_of_getElem? hk
  refine ⟨fun b o' e => ?_, by simp [r.len], r.nd, r.out, fun j b o' hj hw => ?_⟩
  · have : b ≠ a := fun z => by subst z; rw [r.out _ ha] at e; cases e
    rw [upd_ne this]; exact r.sub _ _ e
  · by_cases hjk : k = j
    · subst hjk
      rw [hk] at hj
      cases hj
      have hl : k < W.length := by rw [← r.len]; exact (List.getElem?_eq_some_iff.mp hk).1
      rw [List.getElem?_set_self hl] at hw
      cases hw
      exact ⟨u, upd_same, q⟩
    · rw [List.getElem?_set_ne hjk] at hw
      obtain ⟨u', e, q'⟩ := r.obj j b o' hj hw
      have : b ≠ a := fun z => by
        subst z
        have h1 := (List.getElem?_eq_some_iff.mp hj)
        have h2 := (List.getElem?_eq_some_iff.mp hk)
        obtain ⟨l1, e1⟩ := h1
        obtain ⟨l2, e2⟩ := h2
        exact hjk ((List.getElem_inj r.nd).mp (e2.trans e1.symm))
      exact ⟨u', by rw [upd_ne this]; exact e, q'⟩
end
noncomputable abbrev KB := El → Wl → Prop
noncomputable def Post (K : PySem.W.Frag) (F : Hp) (A : List Addr) (k : KB) (Q : VK) : Prop := ∀ F' A' W' H' e v, Ext F A F' A' → RW K F' A' W' H' → ElR K F' A' e v → k e W' → Q v H'
section
variable {K : PySem.W.Frag} {F F1 : Hp} {A A1 : List Addr} {W : Wl} {H H' : Hp} {k : KB} {Q : VK}
theorem Post.ext (q : Post K F A k Q) (x : Ext F A F1 A1) : Post K F1 A1 k Q := fun F' A' W' H' e v y r z h => q F' A' W' H' e v (x.trans y) r z h
theorem Post.same (q : Post K F A k Q) (r : RW K F A W H) {e : El} {v : V} (z : ElR K F A e v) (h : k e W) : Q v H := q F A W H e v .refl r z h
theorem Post.newT (q : Post K F A k Q) (r : RW K F A W H) {p : Addr} (hp : H p = none) {vs : List V} {ds : List PyData} (z : Paired (fun d v => Rq K F v d) ds vs) (h : k (.d (.tuple ds)) W) : Q (.ref p) (upd H p (.tup vs)) := by
  obtain ⟨r', x⟩ := r.newF hp (.tup vs)
  exact q _ _ _ _ _ _ x r' (.dd (Rq.tup (SqT.of upd_same) (Rqs.of (pd_imp (fun _ _ t => Rq.same x.same _ t) z)))) h
theorem Post.newL (q : Post K F A k Q) (r : RW K F A W H) {p : Addr} (hp : H p = none) {vs : List V} {ds : List PyData} (z : Paired (fun d v => Rq K F v d) ds vs) (h : k (.d (.list ds)) W) : Q (.ref p) (upd H p (.lst vs)) := by
  obtain ⟨r', x⟩ := r.newF hp (.lst vs)
  exact q _ _ _ _ _ _ x r' (.dd (Rq.lst (.inl upd_same) (Rqs.of (pd_imp (fun _ _ t => Rq.same x.same _ t) z)))) h
theorem Post.newO (q : Post K F A k Q) (r : RW K F A W H) {p : Addr} (hp : H p = none) {o : OD} {u : HO} (z : OdR K F A o u) (h : k (.o W.length) (W ++ [o])) : Q (.ref p) (upd H p u) := by
  obtain ⟨r', x⟩ := r.newO hp z
  exact q _ _ _ _ _ _ x r' (ElR.oo (k := W.length) (by rw [← r.len]; simp)) h
theorem Post.put (q : Post K F A k Q) (r : RW K F A W H) {j : Nat} {a : Addr} (hj : A[j]? = some a) {o : OD} {u : HO} (z : OdR K F A o u) {e : El} {v : V} (zv : ElR K F A e v) (h : k e (W.set j o)) : Q v (upd H a u) :=
  q _ _ _ _ _ _ .refl (r.put hj z) zv h
end
/-- a context, and what stood at the def's entry; what is wanted of an exception that leaves it: its class, the objects -/
structure Bc extends Cx where
  F0 : Hp
  A0 : List Addr
  xk : Addr → Sl → Wl → Prop
noncomputable instance : Coe Bc Cx := ⟨Bc.toCx⟩
noncomputable abbrev Bc.Am (X : Bc) (F : Hp) (A : List Addr) : Prop := Ext X.F0 X.A0 F A
noncomputable def tD (X : Bc) (S : Sl) (W : Wl) (k : KB) : TE := fun σ H Q => ∃ F A, X.Am F A ∧ RW X.K F A W H ∧ SR X.K F A S σ ∧ Post X.K F A k Q
noncomputable def BE (X : Bc) (S : Sl) (W : Wl) (e : Expr) (k : KB) : Prop := PE X e (tD X S W k)
noncomputable def tU (X : Bc) (e : Expr) : TE := fun σ H Q => ∃ t, PE X e t ∧ t σ H Q
theorem pe_U {X : Bc} {e : Expr} : PE X e (tU X e) := fun pins s σ H Q I ⟨t, h, q⟩ => h pins s σ H Q I q
theorem BE.use {X : Bc} {S : Sl} {W : Wl} {e : Expr} {k : KB} (h : BE X S W e k) {F : Hp} {A : List Addr} {σ : St} {H : Hp} {Q : VK} (x0 : X.Am F A) (r : RW X.K F A W H) (s : SR X.K F A S σ)
    (q : ∀ F' A' W' H' e v, Ext F A F' A' → RW X.K F' A' W' H' → ElR X.K F' A' e v → k e W' → Q v H') : tU X e σ H Q := ⟨_, h, F, A, x0, r, s, q⟩
theorem BE.of {X : Bc} {S : Sl} {W : Wl} {e : Expr} {k : KB} {t : TE} (h : PE X e t) (i : ∀ F A σ H Q, X.Am F A → RW X.K F A W H → SR X.K F A S σ → Post X.K F A k Q → t σ H Q) : BE X S W e k :=
  fun pins s σ H Q I ⟨F, A, x0, r, sr, q⟩ => h pins s σ H Q I (i F A σ H Q x0 r sr q)
/-- weaker wishes -/
theorem BE.mono {X : Bc} {S : Sl} {W : Wl} {e : Expr} {k k' : KB} (h : BE X S W e k) (hk : ∀ x W, k x W → k' x W) : BE X S W e k' :=
  .of h fun F A σ H Q x0 r sr q => ⟨F, A, x0, r, sr, fun F' A' W' H' e v x r z hh => q F' A' W' H' e v x r z (hk _ _ hh)⟩
section
variable {X : Bc} {S : Sl} {W : Wl} {k : KB}
theorem be_var {i : Nat} {x : Str} {pos : Pos} {e : El} (hN : X.N[i]? = some x) (hv : Vis X.env.scope x) (hs : S[i]? = some (some e)) (h : k e W) (hd : (x == ("__debug__" : Str)) = false := by decide) (hcd : (x == ("__classdict__" : Str)) = false := by decide) : BE X S W (.Name x pos) k :=
  .of (pe_var hN hv hd hcd) fun F A σ H Q x0 r sr q => by
    obtain ⟨v, h1, h2⟩ := sr.get i e hs
    exact ⟨v, h1, q.same r h2 h⟩
theorem be_int {i j pos} (h : k (.d (.int i)) W) : BE X S W (.Constant (.int i) j pos) k := .of pe_int fun F A σ H Q x0 r sr q => q.same r (.dd (Rq.int i)) h
theorem be_bl {b j pos} (h : k (.d (.bool b)) W) : BE X S W (.Constant (.bool b) j pos) k := .of pe_bl fun F A σ H Q x0 r sr q => q.same r (.dd (Rq.bl b)) h
theorem be_non {j pos} (h : k (.d .none) W) : BE X S W (.Constant .none j pos) k := .of pe_non fun F A σ H Q x0 r sr q => q.same r (.dd Rq.non) h
theorem be_str {x j pos} (h : k (.d (.str x)) W) : BE X S W (.Constant (.str x) j pos) k := .of pe_str fun F A σ H Q x0 r sr q => q.same r (.dd (Rq.str x)) h
/-- a name of the module -/
theorem be_glob {x : Str} {d : PyData} {v : V} {u : Value} {pos : Pos} (hg : Gl X x) (hm : X.mg x = some u) (rv : RelV v u) (rq : ∀ F, Rq X.K F v d) (h : k (.d d) W) (hd : (x == ("__debug__" : Str)) = false := by decide) : BE X S W (.Name x pos) k :=
  .of (pe_glob hg hm rv hd) fun F A σ H Q x0 r sr q => q.same r (.dd (rq F)) h
noncomputable def rU2 (X : Bc) (f : Value → Value → Sem Value) : R2 := fun x y H Q => ∃ r, OpR X f r ∧ r x y H Q
theorem op_U {f : Value → Value → Sem Value} : OpR X f (rU2 X f) := fun pins s σ H x y v u Q I rx ry ⟨r, h, q⟩ => h pins s σ H x y v u Q I rx ry q
noncomputable def OB (X : Bc) (f : Value → Value → Sem Value) (x y : El) (W : Wl) (k : KB) : Prop :=
  ∀ F A H Q vx vy, RW X.K F A W H → ElR X.K F A x vx → ElR X.K F A y vy → Post X.K F A k Q → rU2 X f vx vy H Q
theorem OB.of {f : Value → Value → Sem Value} {x y : El} {r2 : R2} (ho : OpR X f r2) (i : ∀ F A H Q vx vy, RW X.K F A W H → ElR X.K F A x vx → ElR X.K F A y vy → Post X.K F A k Q → r2 vx vy H Q) : OB X f x y W k :=
  fun F A H Q vx vy r zx zy q => ⟨r2, ho, i F A H Q vx vy r zx zy q⟩
theorem be_op {a b : Expr} {op : Operator} {pos : Pos} (h : BE X S W a fun x W1 => BE X S W1 b fun y W2 => OB X (binaryOp op) x y W2 k) : BE X S W (.BinOp a op b pos) k :=
  .of (pe_op op_U pe_U pe_U) fun F A σ H Q x0 r sr q =>
    h.use x0 r sr fun F1 A1 W1 H1 x vx e1 r1 z1 h1 => h1.use (x0.trans e1) r1 (sr.ext e1) fun F2 A2 W2 H2 y vy e2 r2 z2 h2 => h2 F2 A2 H2 Q vx vy r2 (z1.ext e2) z2 (q.ext (e1.trans e2))
theorem be_cmp {a b : Expr} {op : CmpOp} {pos : Pos} (hm : behindInMarks op b = false) (h : BE X S W a fun x W1 => BE X S W1 b fun y W2 => OB X (compareOp op) x y W2 k) : BE X S W (.Compare a [op] [b] pos) k :=
  .of (pe_cmpR op_U pe_U pe_U hm) fun F A σ H Q x0 r sr q =>
    h.use x0 r sr fun F1 A1 W1 H1 x vx e1 r1 z1 h1 => h1.use (x0.trans e1) r1 (sr.ext e1) fun F2 A2 W2 H2 y vy e2 r2 z2 h2 => h2 F2 A2 H2 Q vx vy r2 (z1.ext e2) z2 (q.ext (e1.trans e2))
noncomputable abbrev TB := Bool → Wl → Prop
noncomputable def tDT (X : Bc) (S : Sl) (W : Wl) (k : TB) : TT := fun σ H Q => ∃ F A, X.Am F A ∧ RW X.K F A W H ∧ SR X.K F A S σ ∧ ∀ F' A' W' H' b, Ext F A F' A' → RW X.K F' A' W' H' → k b W' → Q b H'
noncomputable def BT (X : Bc) (S : Sl) (W : Wl) (e : Expr) (k : TB) : Prop := PT X e (tDT X S W k)
noncomputable def tUT (X : Bc) (e : Expr) : TT := fun σ H Q => ∃ t, PT X e t ∧ t σ H Q
theorem pt_U {e : Expr} : PT X e (tUT X e) := fun pins s σ H Q I ⟨t, h, q⟩ => h pins s σ H Q I q
theorem BT.use {e : Expr} {k : TB} (h : BT X S W e k) {F : Hp} {A : List Addr} {σ : St} {H : Hp} {Q : Bool → Hp → Prop} (x0 : X.Am F A) (r : RW X.K F A W H) (s : SR X.K F A S σ)
    (q : ∀ F' A' W' H' b, Ext F A F' A' → RW X.K F' A' W' H' → k b W' → Q b H') : tUT X e σ H Q := ⟨_, h, F, A, x0, r, s, q⟩
theorem BT.of {e : Expr} {k : TB} {t : TT} (h : PT X e t) (i : ∀ F A σ H (Q : Bool → Hp → Prop), X.Am F A → RW X.K F A W H → SR X.K F A S σ → (∀ F' A' W' H' b, Ext F A F' A' → RW X.K F' A' W' H' → k b W' → Q b H') → t σ H Q) : BT X S W e k :=
  fun pins s σ H Q I ⟨F, A, x0, r, sr, q⟩ => h pins s σ H Q I (i F A σ H Q x0 r sr q)
noncomputable def BW (X : Bc) (S : Sl) (W : Wl) (e : Expr) (k : TB) : Prop := PW X e (tDT X S W k)
noncomputable def tUW (X : Bc) (e : Expr) : TT := fun σ H Q => ∃ t, PW X e t ∧ t σ H Q
theorem pw_U {e : Expr} : PW X e (tUW X e) := fun wh pins s σ H Q I ⟨t, h, q⟩ => h wh pins s σ H Q I q
theorem BW.use {e : Expr} {k : TB} (h : BW X S W e k) {F : Hp} {A : List Addr} {σ : St} {H : Hp} {Q : Bool → Hp → Prop} (x0 : X.Am F A) (r : RW X.K F A W H) (s : SR X.K F A S σ)
    (q : ∀ F' A' W' H' b, Ext F A F' A' → RW X.K F' A' W' H' → k b W' → Q b H') : tUW X e σ H Q := ⟨_, h, F, A, x0, r, s, q⟩
theorem BW.of {e : Expr} {k : TB} {t : TT} (h : PW X e t) (i : ∀ F A σ H (Q : Bool → Hp → Prop), X.Am F A → RW X.K F A W H → SR X.K F A S σ → (∀ F' A' W' H' b, Ext F A F' A' → RW X.K F' A' W' H' → k b W' → Q b H') → t σ H Q) : BW X S W e k :=
  fun wh pins s σ H Q I ⟨F, A, x0, r, sr, q⟩ => h wh pins s σ H Q I (i F A σ H Q x0 r sr q)
theorem BW.bt {e : Expr} {k : TB} (h : BW X S W e k) : BT X S W e k := h.pt
/-- a test that is no and, or, not, comparison -/
theorem bt_val {e : Expr} {k : TB} (h : BE X S W e fun x W1 => ∃ b, x = .d (.bool b) ∧ k b W1) (he : ∀ whole, isTrue e X.env whole = (do let v ← whole; standAt e.pos; holding [v] (truthy v)) := by intro _; rfl) : BT X S W e k :=
  .of (pt_val pe_U he) fun F A σ H Q x0 r sr q => h.use x0 r sr fun F1 A1 W1 H1 x vx e1 r1 z1 ⟨b, hb, h1⟩ => by
    subst hb
    obtain rfl := Rq.of_bl z1
    exact ⟨b, rfl, q F1 A1 W1 H1 b e1 r1 h1⟩
theorem bt_cmp {a b : Expr} {op : CmpOp} {pos : Pos} {k : TB} (hm : behindInMarks op b = false) (h : BE X S W a fun x W1 => BE X S W1 b fun y W2 => OB X (compareOp op) x y W2 fun z W3 => ∃ c, z = .d (.bool c) ∧ k c W3) : BT X S W (.Compare a [op] [b] pos) k :=
  .of (pt_cmpR op_U pe_U pe_U hm) fun F A σ H Q x0 r sr q =>
    h.use x0 r sr fun F1 A1 W1 H1 x vx e1 r1 z1 h1 => h1.use (x0.trans e1) r1 (sr.ext e1) fun F2 A2 W2 H2 y vy e2 r2 z2 h2 => h2 F2 A2 H2 _ vx vy r2 (z1.ext e2) z2 fun F3 A3 W3 H3 z vz e3 r3 z3 ⟨c, hc, h3⟩ => by
      subst hc
      obtain rfl := Rq.of_bl z3
      exact ⟨c, rfl, q F3 A3 W3 H3 c ((e1.trans e2).trans e3) r3 h3⟩
theorem bt_not {a : Expr} {pos : Pos} {k : TB} (h : BT X S W a fun b W1 => k (!b) W1) : BT X S W (.UnaryOp .Not a pos) k :=
  .of (pt_not pt_U) fun F A σ H Q x0 r sr q => h.use x0 r sr fun F1 A1 W1 H1 b e1 r1 h1 => q F1 A1 W1 H1 _ e1 r1 h1
theorem bw_and1 {a : Expr} {pos : Pos} {k : TB} (h : BT X S W a k) : BW X S W (.BoolOp .And [a] pos) k := .of (pw_and1 pt_U) fun F A σ H Q x0 r sr q => h.use x0 r sr q
theorem bw_or1 {a : Expr} {pos : Pos} {k : TB} (h : BT X S W a k) : BW X S W (.BoolOp .Or [a] pos) k := .of (pw_or1 pt_U) fun F A σ H Q x0 r sr q => h.use x0 r sr q
theorem bw_and {a b : Expr} {rest : List Expr} {pos : Pos} {k : TB} (h : BT X S W a fun c W1 => if c = true then BW X S W1 (.BoolOp .And (b :: rest) pos) k else k false W1) : BW X S W (.BoolOp .And (a :: b :: rest) pos) k :=
  .of (pw_and pt_U pw_U) fun F A σ H Q x0 r sr q => h.use x0 r sr fun F1 A1 W1 H1 c e1 r1 h1 => by
    cases c with
    | true =>
      rw [if_pos rfl] at h1 ⊢
      exact h1.use (x0.trans e1) r1 (sr.ext e1) fun F2 A2 W2 H2 b e2 r2 h2 => q F2 A2 W2 H2 b (e1.trans e2) r2 h2
    | false =>
      rw [if_neg (by decide)] at h1 ⊢
      exact q F1 A1 W1 H1 _ e1 r1 h1
theorem bw_or {a b : Expr} {rest : List Expr} {pos : Pos} {k : TB} (h : BT X S W a fun c W1 => if c = true then k true W1 else BW X S W1 (.BoolOp .Or (b :: rest) pos) k) : BW X S W (.BoolOp .Or (a :: b :: rest) pos) k :=
  .of (pw_or pt_U pw_U) fun F A σ H Q x0 r sr q => h.use x0 r sr fun F1 A1 W1 H1 c e1 r1 h1 => by
    cases c with
    | true =>
      rw [if_pos rfl] at h1 ⊢
      exact q F1 A1 W1 H1 _ e1 r1 h1
    | false =>
      rw [if_neg (by decide)] at h1 ⊢
      exact h1.use (x0.trans e1) r1 (sr.ext e1) fun F2 A2 W2 H2 b e2 r2 h2 => q F2 A2 W2 H2 b (e1.trans e2) r2 h2
theorem be_one {op} {a : Expr} {pos : Pos} (h : BE X S W a k) : BE X S W (.BoolOp op [a] pos) k := pe_one h
theorem be_and {a b : Expr} {rest : List Expr} {pos : Pos} (h : BE X S W a fun x W1 => ∃ c, x = .d (.bool c) ∧ if c = true then BE X S W1 (.BoolOp .And (b :: rest) pos) k else k (.d (.bool false)) W1) : BE X S W (.BoolOp .And (a :: b :: rest) pos) k :=
  .of (pe_and pe_U pe_U) fun F A σ H Q x0 r sr q => h.use x0 r sr fun F1 A1 W1 H1 x vx e1 r1 z1 ⟨c, hc, h1⟩ => by
    subst hc
    obtain rfl := Rq.of_bl z1
    refine ⟨c, rfl, ?_⟩
    cases c with
    | true =>
      rw [if_pos rfl] at h1 ⊢
      exact h1.use (x0.trans e1) r1 (sr.ext e1) fun F2 A2 W2 H2 y vy e2 r2 z2 h2 => q F2 A2 W2 H2 y vy (e1.trans e2) r2 z2 h2
    | false =>
      rw [if_neg (by decide)] at h1 ⊢
      exact q F1 A1 W1 H1 _ _ e1 r1 (.dd (Rq.bl false)) h1
theorem be_or {a b : Expr} {rest : List Expr} {pos : Pos} (h : BE X S W a fun x W1 => ∃ c, x = .d (.bool c) ∧ if c = true then k (.d (.bool true)) W1 else BE X S W1 (.BoolOp .Or (b :: rest) pos) k) : BE X S W (.BoolOp .Or (a :: b :: rest) pos) k :=
  .of (pe_or pe_U pe_U) fun F A σ H Q x0 r sr q => h.use x0 r sr fun F1 A1 W1 H1 x vx e1 r1 z1 ⟨c, hc, h1⟩ => by
    subst hc
    obtain rfl := Rq.of_bl z1
    refine ⟨c, rfl, ?_⟩
    cases c with
    | true =>
      rw [if_pos rfl] at h1 ⊢
      exact q F1 A1 W1 H1 _ _ e1 r1 (.dd (Rq.bl true)) h1
    | false =>
      rw [if_neg (by decide)] at h1 ⊢
      exact h1.use (x0.trans e1) r1 (sr.ext e1) fun F2 A2 W2 H2 y vy e2 r2 z2 h2 => q F2 A2 W2 H2 y vy (e1.trans e2) r2 z2 h2
theorem be_not {a : Expr} {pos : Pos} (h : BE X S W a fun x W1 => ∃ c, x = .d (.bool c) ∧ k (.d (.bool (!c))) W1) : BE X S W (.UnaryOp .Not a pos) k :=
  .of (pe_not pe_U) fun F A σ H Q x0 r sr q => h.use x0 r sr fun F1 A1 W1 H1 x vx e1 r1 z1 ⟨c, hc, h1⟩ => by
    subst hc
    obtain rfl := Rq.of_bl z1
    exact ⟨c, rfl, q F1 A1 W1 H1 _ _ e1 r1 (.dd (Rq.bl _)) h1⟩
theorem be_if {c a b : Expr} {pos : Pos} (h : BT X S W c fun t W1 => if t = true then BE X S W1 a k else BE X S W1 b k) : BE X S W (.IfExp c a b pos) k :=
  .of (pe_ifExp pt_U pe_U pe_U) fun F A σ H Q x0 r sr q => h.use x0 r sr fun F1 A1 W1 H1 c e1 r1 h1 => by
    cases c with
    | true =>
      rw [if_pos rfl] at h1 ⊢
      exact h1.use (x0.trans e1) r1 (sr.ext e1) fun F2 A2 W2 H2 y vy e2 r2 z2 h2 => q F2 A2 W2 H2 y vy (e1.trans e2) r2 z2 h2
    | false =>
      rw [if_neg (by decide)] at h1 ⊢
      exact h1.use (x0.trans e1) r1 (sr.ext e1) fun F2 A2 W2 H2 y vy e2 r2 z2 h2 => q F2 A2 W2 H2 y vy (e1.trans e2) r2 z2 h2
end
end L2
namespace L2
open PySem PySem.Spec PyProof.Rows
section
variable {X : Bc} {S : Sl} {W : Wl} {k : KB}
noncomputable abbrev KA := List El → Wl → Prop
noncomputable def tDA (X : Bc) (S : Sl) (W : Wl) (k : KA) : TA := fun σ H Q => ∃ F A, X.Am F A ∧ RW X.K F A W H ∧ SR X.K F A S σ ∧ ∀ F' A' W' H' es vs, Ext F A F' A' → RW X.K F' A' W' H' → Paired (ElR X.K F' A') es vs → k es W' → Q vs H'
noncomputable def BA (X : Bc) (S : Sl) (W : Wl) (es : List Expr) (k : KA) : Prop := PA X es (tDA X S W k)
noncomputable def tUA (X : Bc) (es : List Expr) : TA := fun σ H Q => ∃ t, PA X es t ∧ t σ H Q
theorem pa_U {es : List Expr} : PA X es (tUA X es) := fun pos pins s σ H Q I ⟨t, h, q⟩ => h pos pins s σ H Q I q
theorem BA.use {es : List Expr} {k : KA} (h : BA X S W es k) {F : Hp} {A : List Addr} {σ : St} {H : Hp} {Q : List V → Hp → Prop} (x0 : X.Am F A) (r : RW X.K F A W H) (s : SR X.K F A S σ)
    (q : ∀ F' A' W' H' es vs, Ext F A F' A' → RW X.K F' A' W' H' → Paired (ElR X.K F' A') es vs → k es W' → Q vs H') : tUA X es σ H Q := ⟨_, h, F, A, x0, r, s, q⟩
theorem BA.of {es : List Expr} {k : KA} {t : TA} (h : PA X es t) (i : ∀ F A σ H (Q : List V → Hp → Prop), X.Am F A → RW X.K F A W H → SR X.K F A S σ → (∀ F' A' W' H' es vs, Ext F A F' A' → RW X.K F' A' W' H' → Paired (ElR X.K F' A') es vs → k es W' → Q vs H') → t σ H Q) : BA X S W es k :=
  fun pos pins s σ H Q I ⟨F, A, x0, r, sr, q⟩ => h pos pins s σ H Q I (i F A σ H Q x0 r sr q)
theorem ba_nil {k : KA} (h : k [] W) : BA X S W [] k := .of pa_nil fun F A σ H Q x0 r sr q => q F A W H [] [] .refl r .nil h
theorem ba_cons {e : Expr} {es : List Expr} {k : KA} (h : BE X S W e fun x W1 => BA X S W1 es fun xs W2 => k (x :: xs) W2) (hs : starEach (e :: es) X.env = (false, eval e X.env) :: starEach es X.env := by rfl) : BA X S W (e :: es) k :=
  .of (pa_cons pe_U pa_U hs) fun F A σ H Q x0 r sr q => h.use x0 r sr fun F1 A1 W1 H1 x vx e1 r1 z1 h1 => h1.use (x0.trans e1) r1 (sr.ext e1) fun F2 A2 W2 H2 xs vs e2 r2 z2 h2 => q F2 A2 W2 H2 _ _ (e1.trans e2) r2 (.cons (z1.ext e2) z2) h2
theorem ba_one {e : Expr} {k : KA} (h : BE X S W e fun x W1 => k [x] W1) (hs : starEach [e] X.env = [(false, eval e X.env)] := by rfl) : BA X S W [e] k :=
  ba_cons (h.mono fun _ _ q => ba_nil q) hs
/-- all are data -/
noncomputable def datas : List PyData → List El := List.map .d
theorem pd_datas {K : PySem.W.Frag} {F : Hp} {A : List Addr} {ds : List PyData} {vs : List V} (h : Paired (ElR K F A) (datas ds) vs) : Paired (fun d v => Rq K F v d) ds vs := pd_unmap h
theorem pd_datas' {K : PySem.W.Frag} {F : Hp} {A : List Addr} {ds : List PyData} {vs : List V} (h : Paired (fun d v => Rq K F v d) ds vs) : Paired (ElR K F A) (datas ds) vs := pd_map h
theorem be_tup {es : List Expr} {x1} {pos : Pos} (h : BA X S W es fun as W1 => ∃ ds, as = datas ds ∧ ds.length ≤ sizeLine ∧ k (.d (.tuple ds)) W1) : BE X S W (.Tuple es x1 pos) k :=
  .of (pe_tup pa_U) fun F A σ H Q x0 r sr q => h.use x0 r sr fun F1 A1 W1 H1 as vs e1 r1 z1 ⟨ds, hd, hl, h1⟩ => by
    subst hd
    have z := pd_datas z1
    exact ⟨by rw [← pd_len z]; exact hl, fun p hp => (q.ext e1).newT r1 hp z h1⟩
/-- a list that nobody changes -/
theorem be_lst {es : List Expr} {pos : Pos} (h : BA X S W es fun as W1 => ∃ ds, as = datas ds ∧ ds.length ≤ sizeLine ∧ k (.d (.list ds)) W1) : BE X S W (.List es pos) k :=
  .of (pe_lst pa_U) fun F A σ H Q x0 r sr q => h.use x0 r sr fun F1 A1 W1 H1 as vs e1 r1 z1 ⟨ds, hd, hl, h1⟩ => by
    subst hd
    have z := pd_datas z1
    exact ⟨by rw [← pd_len z]; exact hl, fun p hp => (q.ext e1).newL r1 hp z h1⟩
/-- a list that is changed -/
theorem be_lstO {es : List Expr} {pos : Pos} (h : BA X S W es fun as W1 => as.length ≤ sizeLine ∧ k (.o W1.length) (W1 ++ [.lst as])) : BE X S W (.List es pos) k :=
  .of (pe_lst pa_U) fun F A σ H Q x0 r sr q => h.use x0 r sr fun F1 A1 W1 H1 as vs e1 r1 z1 ⟨hl, h1⟩ =>
    ⟨by rw [← pd_len z1]; exact hl, fun p hp => (q.ext e1).newO r1 hp (o := .lst as) ⟨vs, rfl, z1⟩ h1⟩
theorem be_dictO {pos : Pos} (h : k (.o W.length) (W ++ [.dK []])) : BE X S W (.Dict [] [] pos) k :=
  .of pe_dnewK fun F A σ H Q x0 r sr q => fun p hp => q.newO r hp (o := .dK []) ⟨[], rfl, .nil⟩ h
theorem be_dict0 {pos : Pos} (h : k (.d (.dict [])) W) : BE X S W (.Dict [] [] pos) k :=
  .of pe_dnewK fun F A σ H Q x0 r sr q => fun p hp => by
    obtain ⟨r', x⟩ := r.newF hp (.dK [])
    exact q _ _ _ _ _ _ x r' (.dd (Rq.dct upd_same)) h
noncomputable def rUC (X : Bc) (f : Value) : List V → Hp → VK → Prop := fun xs H Q => ∃ r, CallR X f r ∧ r xs H Q
theorem call_U {f : Value} : CallR X f (rUC X f) := fun pins s σ H xs us Q I rx ⟨r, h, q⟩ => h pins s σ H xs us Q I rx q
noncomputable def CB (X : Bc) (f : Value) (xs : List El) (W : Wl) (k : KB) : Prop := ∀ F A H Q vs, RW X.K F A W H → Paired (ElR X.K F A) xs vs → Post X.K F A k Q → rUC X f vs H Q
theorem CB.of {f : Value} {xs : List El} {r1 : List V → Hp → VK → Prop} (hc : CallR X f r1) (i : ∀ F A H Q vs, RW X.K F A W H → Paired (ElR X.K F A) xs vs → Post X.K F A k Q → r1 vs H Q) : CB X f xs W k :=
  fun F A H Q vs r z q => ⟨r1, hc, i F A H Q vs r z q⟩
theorem be_callB {e : Expr} {es : List Expr} {x : Str} {id : String} {p pos : Pos} (hg : Gl X x) (hm : X.mg x = none) (hv : bootBuiltins x = some (.builtin id)) (h : BA X S W (e :: es) fun as W1 => CB X (.builtin id) as W1 k) (hn : x ≠ "__name__" := by decide) (hdb : (x == ("__debug__" : Str)) = false := by decide)
    (he : starEach (e :: es) X.env = (false, eval e X.env) :: starEach es X.env := by rfl) (hpl : (backTo pos (starEach es X.env)).any (·.1) = false := by rfl) : BE X S W (.Call (.Name x p) (e :: es) [] pos) k :=
  .of (pe_callB call_U hg hm hv pa_U hn hdb he hpl) fun F A σ H Q x0 r sr q => h.use x0 r sr fun F1 A1 W1 H1 as vs e1 r1 z1 h1 => h1 F1 A1 H1 Q vs r1 z1 (q.ext e1)
theorem be_callT {e : Expr} {es : List Expr} {x : Str} {T : String} {p pos : Pos} (hg : Gl X x) (hm : X.mg x = none) (hv : bootBuiltins x = some (.type T)) (h : BA X S W (e :: es) fun as W1 => CB X (.type T) as W1 k) (hn : x ≠ "__name__" := by decide) (hdb : (x == ("__debug__" : Str)) = false := by decide)
    (he : starEach (e :: es) X.env = (false, eval e X.env) :: starEach es X.env := by rfl) (hpl : (backTo pos (starEach es X.env)).any (·.1) = false := by rfl) : BE X S W (.Call (.Name x p) (e :: es) [] pos) k :=
  .of (pe_callTy call_U hg hm hv pa_U hn hdb he hpl) fun F A σ H Q x0 r sr q => h.use x0 r sr fun F1 A1 W1 H1 as vs e1 r1 z1 h1 => h1 F1 A1 H1 Q vs r1 z1 (q.ext e1)
noncomputable def rUI (X : Bc) : R2 := fun x y H Q => ∃ r, IxR X r ∧ r x y H Q
theorem ix_U : IxR X (rUI X) := fun v s pins sh σ H x y v' u Q I rx ry ⟨r, h, q⟩ hs => h v s pins sh σ H x y v' u Q I rx ry q hs
noncomputable def IB (X : Bc) (x y : El) (W : Wl) (k : KB) : Prop := ∀ F A H Q vx vy, RW X.K F A W H → ElR X.K F A x vx → ElR X.K F A y vy → Post X.K F A k Q → rUI X vx vy H Q
theorem IB.of {x y : El} {r2 : R2} (ho : IxR X r2) (i : ∀ F A H Q vx vy, RW X.K F A W H → ElR X.K F A x vx → ElR X.K F A y vy → Post X.K F A k Q → r2 vx vy H Q) : IB X x y W k :=
  fun F A H Q vx vy r zx zy q => ⟨r2, ho, i F A H Q vx vy r zx zy q⟩
theorem be_ix {a b : Expr} {pos : Pos} (hs : PlainIx b) (h : BE X S W a fun x W1 => BE X S W1 b fun y W2 => IB X x y W2 k) : BE X S W (.Subscript a b pos) k :=
  .of (pe_ix ix_U pe_U pe_U hs) fun F A σ H Q x0 r sr q =>
    h.use x0 r sr fun F1 A1 W1 H1 x vx e1 r1 z1 h1 => h1.use (x0.trans e1) r1 (sr.ext e1) fun F2 A2 W2 H2 y vy e2 r2 z2 h2 => h2 F2 A2 H2 Q vx vy r2 (z1.ext e2) z2 (q.ext (e1.trans e2))
theorem pd_atI {α β : Type} {F : α → β → Prop} {l : List α} {m : List β} (p : Paired F l m) {i : Int} {a : α} (h : atI l i = some a) : ∃ b, atI m i = some b ∧ F a b := by
  unfold atI at h ⊢
  rw [← pd_len p]
  cases e : ixN l.length i with
  | none => rw [e] at h; cases h
  | some j =>
    rw [e] at h
    simp only [Option.bind] at h ⊢
    exact pd_get p h
theorem ib_lst {ds : List PyData} {i : Int} {d : PyData} (he : atI ds i = some d) (h : k (.d d) W) : IB X (.d (.list ds)) (.d (.int i)) W k := .of ix_list fun F A H Q vx vy r zx zy q => by
  obtain ⟨a, vs, rfl, hs, z⟩ := Rq.of_lst zx
  obtain rfl := Rq.of_int zy
  obtain ⟨v, h1, h2⟩ := pd_atI z he
  exact ⟨a, vs, i, v, rfl, rfl, (.inl (r.sub.rd hs)), h1, q.same r (.dd h2) h⟩
theorem ib_tup {ds : List PyData} {i : Int} {d : PyData} (he : atI ds i = some d) (h : k (.d d) W) : IB X (.d (.tuple ds)) (.d (.int i)) W k := .of ix_tup fun F A H Q vx vy r zx zy q => by
  obtain ⟨a, vs, rfl, hs, z⟩ := Rq.of_tup zx
  obtain rfl := Rq.of_int zy
  obtain ⟨v, h1, h2⟩ := pd_atI z he
  exact ⟨a, vs, i, v, rfl, rfl, r.sub.seqT hs, h1, q.same r (.dd h2) h⟩
theorem ib_str {z : Str} {i : Int} {c : Nat} (hz : z.length ≤ sizeLine) (he : atI z.cps.toList i = some c) (h : k (.d (.str ⟨#[c]⟩)) W) : IB X (.d (.str z)) (.d (.int i)) W k := .of ix_str fun F A H Q vx vy r zx zy q => by
  obtain rfl := Rq.of_str zx
  obtain rfl := Rq.of_int zy
  exact ⟨z, i, c, rfl, rfl, hz, he, q.same r (.dd (Rq.str _)) h⟩
/-- an item of a list that is changed -/
theorem RW.at (r : RW X.K F A W H) {j : Nat} {v : V} (z : ElR X.K F A (.o j) v) {es : List El} (hj : W[j]? = some (.lst es)) : ∃ a vs, v = .ref a ∧ A[j]? = some a ∧ H a = some (.lst vs) ∧ Paired (ElR X.K F A) es vs := by
  obtain ⟨a, ha, rfl⟩ := z
  obtain ⟨h, e, vs, rfl, p⟩ := r.obj j a _ ha hj
  exact ⟨a, vs, rfl, ha, e, p⟩
theorem ib_own {j : Nat} {es : List El} {i : Int} {e : El} (hj : W[j]? = some (.lst es)) (he : atI es i = some e) (h : k e W) : IB X (.o j) (.d (.int i)) W k := .of ix_list fun F A H Q vx vy r zx zy q => by
  obtain ⟨a, vs, rfl, ha, hH, z⟩ := r.at zx hj
  obtain rfl := Rq.of_int zy
  obtain ⟨v, h1, h2⟩ := pd_atI z he
  exact ⟨a, vs, i, v, rfl, rfl, SqL.of hH, h1, q.same r h2 h⟩
noncomputable abbrev KO := Option Int → Wl → Prop
noncomputable def tDO (X : Bc) (S : Sl) (W : Wl) (k : KO) : TO := fun σ H Q => ∃ F A, X.Am F A ∧ RW X.K F A W H ∧ SR X.K F A S σ ∧ ∀ F' A' W' H' o, Ext F A F' A' → RW X.K F' A' W' H' → k o W' → Q o H'
noncomputable def BO (X : Bc) (S : Sl) (W : Wl) (e : Option Expr) (k : KO) : Prop := PO X e (tDO X S W k)
noncomputable def tUO (X : Bc) (e : Option Expr) : TO := fun σ H Q => ∃ t, PO X e t ∧ t σ H Q
theorem po_U {e : Option Expr} : PO X e (tUO X e) := fun pins s σ H Q I ⟨t, h, q⟩ => h pins s σ H Q I q
theorem BO.use {e : Option Expr} {k : KO} (h : BO X S W e k) {F : Hp} {A : List Addr} {σ : St} {H : Hp} {Q : Option Int → Hp → Prop} (x0 : X.Am F A) (r : RW X.K F A W H) (s : SR X.K F A S σ)
    (q : ∀ F' A' W' H' o, Ext F A F' A' → RW X.K F' A' W' H' → k o W' → Q o H') : tUO X e σ H Q := ⟨_, h, F, A, x0, r, s, q⟩
theorem bo_none {k : KO} (h : k none W) : BO X S W none k := fun pins s σ H Q I ⟨F, A, x0, r, sr, q⟩ => po_none pins s σ H Q I (q F A W H none .refl r h)
theorem bo_some {e : Expr} {k : KO} (h : BE X S W e fun x W1 => ∃ i, x = .d (.int i) ∧ k (some i) W1) : BO X S W (some e) k := fun pins s σ H Q I ⟨F, A, x0, r, sr, q⟩ =>
  po_some pe_U pins s σ H Q I (h.use x0 r sr fun F1 A1 W1 H1 x vx e1 r1 z1 ⟨i, hi, h1⟩ => by
    subst hi
    obtain rfl := Rq.of_int z1
    exact ⟨i, rfl, q F1 A1 W1 H1 _ e1 r1 h1⟩)
noncomputable def rUS (X : Bc) : V → Option Int → Option Int → Hp → VK → Prop := fun x lo hi H Q => ∃ r, SlR X r ∧ r x lo hi H Q
theorem sl_U : SlR X (rUS X) := fun pins s σ H x v vl vu lo hi sl Q I rx hs pl pu ⟨r, h, q⟩ => h pins s σ H x v vl vu lo hi sl Q I rx hs pl pu q
noncomputable def LB (X : Bc) (x : El) (lo hi : Option Int) (W : Wl) (k : KB) : Prop := ∀ F A H Q vx, RW X.K F A W H → ElR X.K F A x vx → Post X.K F A k Q → rUS X vx lo hi H Q
theorem LB.of {x : El} {lo hi : Option Int} {r1 : V → Option Int → Option Int → Hp → VK → Prop} (hc : SlR X r1) (i : ∀ F A H Q vx, RW X.K F A W H → ElR X.K F A x vx → Post X.K F A k Q → r1 vx lo hi H Q) : LB X x lo hi W k :=
  fun F A H Q vs r z q => ⟨r1, hc, i F A H Q vs r z q⟩
theorem be_slice {e : Expr} {lo hi : Option Expr} {p2 pos : Pos} (h : BE X S W e fun x W1 => BO X S W1 lo fun l W2 => BO X S W2 hi fun u W3 => LB X x l u W3 k) : BE X S W (.Subscript e (.Slice lo hi none p2) pos) k :=
  .of (pe_slice sl_U pe_U po_U po_U) fun F A σ H Q x0 r sr q =>
    h.use x0 r sr fun F1 A1 W1 H1 x vx e1 r1 z1 h1 => h1.use (x0.trans e1) r1 (sr.ext e1) fun F2 A2 W2 H2 l e2 r2 h2 => h2.use (x0.trans (e1.trans e2)) r2 (sr.ext (e1.trans e2)) fun F3 A3 W3 H3 u e3 r3 h3 =>
      h3 F3 A3 H3 Q vx r3 (z1.ext (e2.trans e3)) (q.ext ((e1.trans e2).trans e3))
/-- the cut of any list -/
noncomputable def cutL {α : Type} (xs : List α) (lo hi : Option Int) : List α := (xs.drop (HT.sIx xs.length 0 lo)).take (HT.sIx xs.length xs.length hi - HT.sIx xs.length 0 lo)
theorem pd_cut {α : Type} {F : α → V → Prop} {l : List α} {m : List V} (p : Paired F l m) (lo hi : Option Int) : Paired F (cutL l lo hi) (cutV m lo hi) := by
  unfold cutL cutV
  rw [pd_len p]
  exact pd_take _ (pd_drop _ p)
theorem sl_tupS : SlR X (fun x lo hi H Q => ∃ a xs, x = .ref a ∧ SqT X.K H a xs ∧ ((∀ p, H p = none → Q (.ref p) (upd H p (.tup (cutV xs lo hi)))) ∧ (cutV xs lo hi = xs → Q (.ref a) H))) := by
  intro pins s σ H x v vl vu lo hi sl Q I rx hs pl pu h
  obtain ⟨a, xs, rfl, hq, h1, h2⟩ := h
  by_cases hw : HT.sIx xs.length 0 lo = 0 ∧ HT.sIx xs.length xs.length hi = xs.length
  · cases rx
    obtain ⟨its, r, ht, hz⟩ := I.tuple hq
    have hlen : its.toArray.size = xs.length := by rw [List.size_toArray]; exact r.length.symm
    refine ⟨"tuple", _, PyProof.Rows.slot_tuple_getitem.lookup, ht.typeIs, ?_⟩
    refine HT.getItem_tuple_all ht hs pl pu (by rw [hlen]; exact hw) ?_
    exact ⟨.ref a, H, I, rfl, h2 (cutV_all hw)⟩
  · exact sl_tup pins s σ H (.ref a) v vl vu lo hi sl Q I rx hs pl pu ⟨a, xs, rfl, hq, hw, h1⟩
theorem lb_tup {ds : List PyData} {lo hi : Option Int} (h : k (.d (.tuple (cutL ds lo hi))) W) : LB X (.d (.tuple ds)) lo hi W k := .of sl_tupS fun F A H Q vx r zx q => by
  obtain ⟨a, vs, rfl, hs, z⟩ := Rq.of_tup zx
  refine ⟨a, vs, rfl, r.sub.seqT hs, fun p hp => q.newT r hp (pd_cut z lo hi) h, fun e => q.same r (.dd (Rq.tup hs (Rqs.of ?_))) h⟩
  have := pd_cut z lo hi
  rw [e] at this
  exact this
theorem lb_str {z : Str} {lo hi : Option Int} (hz : z.length ≤ sizeLine) (h : k (.d (.str (Txt.slice z lo hi))) W) : LB X (.d (.str z)) lo hi W k := .of sl_str fun F A H Q vx r zx q => by
  obtain rfl := Rq.of_str zx
  exact ⟨z, rfl, hz, q.same r (.dd (Rq.str _)) h⟩
theorem lb_lst {ds : List PyData} {lo hi : Option Int} (h : k (.d (.list (cutL ds lo hi))) W) : LB X (.d (.list ds)) lo hi W k := .of sl_list fun F A H Q vx r zx q => by
  obtain ⟨a, vs, rfl, hs, z⟩ := Rq.of_lst zx
  exact ⟨a, vs, rfl, (.inl (r.sub.rd hs)), fun p hp => q.newL r hp (pd_cut z lo hi) h⟩
/-- a slice of a list that is changed, of data, is a new list of data -/
theorem lb_own {j : Nat} {ds : List PyData} {lo hi : Option Int} (hj : W[j]? = some (.lst (datas ds))) (h : k (.d (.list (cutL ds lo hi))) W) : LB X (.o j) lo hi W k := .of sl_list fun F A H Q vx r zx q => by
  obtain ⟨a, vs, rfl, ha, hH, z⟩ := r.at zx hj
  exact ⟨a, vs, rfl, SqL.of hH, fun p hp => q.newL r hp (pd_cut (pd_datas z) lo hi) h⟩
end
end L2
namespace L2
open PySem PySem.Spec PyProof.Rows
section
variable {X : Bc} {S : Sl} {W : Wl} {k : KB}
theorem ob_int {f : Value → Value → Sem Value} {C : Int → Int → Prop} {g : Int → Int → Int} (ho : OpR X f (rI C fun i j => .int (g i j))) {i j : Int} (hc : C i j) (h : k (.d (.int (g i j))) W) : OB X f (.d (.int i)) (.d (.int j)) W k :=
  .of ho fun F A H Q vx vy r zx zy q => by
    obtain rfl := Rq.of_int zx
    obtain rfl := Rq.of_int zy
    exact ⟨i, j, rfl, rfl, hc, q.same r (.dd (Rq.int _)) h⟩
theorem ob_int0 {f : Value → Value → Sem Value} {g : Int → Int → Int} (ho : OpR X f (rI0 fun i j => .int (g i j))) {i j : Int} (h : k (.d (.int (g i j))) W) : OB X f (.d (.int i)) (.d (.int j)) W k :=
  .of ho fun F A H Q vx vy r zx zy q => by
    obtain rfl := Rq.of_int zx
    obtain rfl := Rq.of_int zy
    exact ⟨i, j, rfl, rfl, q.same r (.dd (Rq.int _)) h⟩
theorem ob_intB {f : Value → Value → Sem Value} {g : Int → Int → Bool} (ho : OpR X f (rI0 fun i j => .bl (g i j))) {i j : Int} (h : k (.d (.bool (g i j))) W) : OB X f (.d (.int i)) (.d (.int j)) W k :=
  .of ho fun F A H Q vx vy r zx zy q => by
    obtain rfl := Rq.of_int zx
    obtain rfl := Rq.of_int zy
    exact ⟨i, j, rfl, rfl, q.same r (.dd (Rq.bl _)) h⟩
theorem ob_add {i j : Int} (h : k (.d (.int (i + j))) W) : OB X (binaryOp .Add) (.d (.int i)) (.d (.int j)) W k := ob_int0 op_add h
theorem ob_sub {i j : Int} (h : k (.d (.int (i - j))) W) : OB X (binaryOp .Sub) (.d (.int i)) (.d (.int j)) W k := ob_int0 op_sub h
theorem ob_mod {i j : Int} (hc : 0 < j) (h : k (.d (.int (i % j))) W) : OB X (binaryOp .Mod) (.d (.int i)) (.d (.int j)) W k := ob_int op_mod hc h
theorem ob_fdiv {i j : Int} (hc : CDiv i j) (h : k (.d (.int (i / j))) W) : OB X (binaryOp .FloorDiv) (.d (.int i)) (.d (.int j)) W k := ob_int op_fdiv hc h
theorem ob_pow {i j : Int} (hc : CPow i j) (h : k (.d (.int (i ^ j.toNat))) W) : OB X (binaryOp .Pow) (.d (.int i)) (.d (.int j)) W k := ob_int op_pow hc h
theorem ob_lt {i j : Int} (h : k (.d (.bool (decide (i < j)))) W) : OB X (compareOp .Lt) (.d (.int i)) (.d (.int j)) W k := ob_intB op_lt h
theorem ob_le {i j : Int} (h : k (.d (.bool (decide (i ≤ j)))) W) : OB X (compareOp .LtE) (.d (.int i)) (.d (.int j)) W k := ob_intB op_le h
theorem ob_gt {i j : Int} (h : k (.d (.bool (decide (j < i)))) W) : OB X (compareOp .Gt) (.d (.int i)) (.d (.int j)) W k := ob_intB op_gt h
theorem ob_ge {i j : Int} (h : k (.d (.bool (decide (j ≤ i)))) W) : OB X (compareOp .GtE) (.d (.int i)) (.d (.int j)) W k := ob_intB op_ge h
theorem ob_cats {x y : Str} (hl : x.length + y.length ≤ sizeLine) (h : k (.d (.str (x ++ y))) W) : OB X (binaryOp .Add) (.d (.str x)) (.d (.str y)) W k := .of op_add_str fun F A H Q vx vy r zx zy q => by
  obtain rfl := Rq.of_str zx
  obtain rfl := Rq.of_str zy
  exact ⟨x, y, rfl, rfl, hl, q.same r (.dd (Rq.str _)) h⟩
theorem op_catS : OpR X (binaryOp .Add) (fun x y H Q => ∃ a b xs ys, x = .ref a ∧ y = .ref b ∧ SqT X.K H a xs ∧ SqT X.K H b ys ∧ xs.length + ys.length ≤ sizeLine ∧ (xs = [] → Q (.ref b) H) ∧ (ys = [] → Q (.ref a) H) ∧ ∀ p, H p = none → Q (.ref p) (upd H p (.tup (xs ++ ys)))) := by
  intro pins s σ H x y v u Q I rx ry h
  obtain ⟨a, b, xs, ys, rfl, rfl, ha, hb, hz, q1, q2, q3⟩ := h
  by_cases hx : xs = []
  · cases rx
    cases ry
    obtain ⟨its, r1, p1, _⟩ := I.tuple ha
    obtain ⟨its2, r2, p2, _⟩ := I.tuple hb
    exact HT.cat_tup0 p1 p2 (r1.nil_iff.mpr hx) ⟨.ref b, H, I, rfl, q1 hx⟩
  · exact op_catT pins s σ H (.ref a) (.ref b) v u Q I rx ry ⟨a, b, xs, ys, rfl, rfl, ha, hb, hx, hz, q2, fun _ p hp => q3 p hp⟩
theorem ob_catt {x y : List PyData} (hl : x.length + y.length ≤ sizeLine) (h : k (.d (.tuple (x ++ y))) W) : OB X (binaryOp .Add) (.d (.tuple x)) (.d (.tuple y)) W k := .of op_catS fun F A H Q vx vy r zx zy q => by
  obtain ⟨a, xs, rfl, hs, z⟩ := Rq.of_tup zx
  obtain ⟨b, ys, rfl, hs', z'⟩ := Rq.of_tup zy
  refine ⟨a, b, xs, ys, rfl, rfl, r.sub.seqT hs, r.sub.seqT hs', by rw [← pd_len z, ← pd_len z']; exact hl, fun e => ?_, fun e => ?_, fun p hp => q.newT r hp (pd_app z z') h⟩
  · subst e
    have : x = [] := List.length_eq_zero_iff.mp (pd_len z)
    subst this
    exact q.same r zy h
  · subst e
    have : y = [] := List.length_eq_zero_iff.mp (pd_len z')
    subst this
    rw [List.append_nil] at h
    exact q.same r zx h
theorem op_catL : OpR X (binaryOp .Add) (fun x y H Q => ∃ a b xs ys, x = .ref a ∧ y = .ref b ∧ Rd H a (.lst xs) ∧ Rd H b (.lst ys) ∧ xs.length + ys.length ≤ sizeLine ∧ ∀ p, H p = none → Q (.ref p) (upd H p (.lst (xs ++ ys)))) := by
  intro pins s σ H x y v u Q I rx ry h
  obtain ⟨l, b, xs, zs, rfl, rfl, hx, hz, hn, q⟩ := h
  cases rx
  cases ry
  obtain ⟨z, its, n, r, e⟩ := hx.ok I.hok
  obtain ⟨z2, its2, n2, r2, e2⟩ := hz.ok I.hok
  refine PySem.P.add_list e e2 ?_ (by rw [List.size_toArray, List.size_toArray, ← r.length, ← r2.length]; omega)
  have ea : its.toArray ++ its2.toArray = (its ++ its2).toArray := by simp
  rw [ea]
  exact ⟨.ref _, _, I.lnew (t' := s.toks) (r.append r2) (by rw [List.length_append]; omega), rfl, q _ I.fresh⟩
/-- a list's data, of one that is changed or not -/
noncomputable def lstD (W : Wl) (x : El) (ds : List PyData) : Prop := x = .d (.list ds) ∨ ∃ j, x = .o j ∧ W[j]? = some (.lst (datas ds))
theorem RW.lst {F : Hp} {A : List Addr} {H : Hp} (r : RW X.K F A W H) {x : El} {v : V} {ds : List PyData} (z : ElR X.K F A x v) (h : lstD W x ds) : ∃ a vs, v = .ref a ∧ Rd H a (.lst vs) ∧ Paired (fun d v => Rq X.K F v d) ds vs := by
  rcases h with rfl | ⟨j, rfl, hj⟩
  · obtain ⟨a, vs, rfl, hs, z⟩ := Rq.of_lst z
    exact ⟨a, vs, rfl, r.sub.rd hs, z⟩
  · obtain ⟨a, vs, rfl, ha, hH, z⟩ := r.at z hj
    exact ⟨a, vs, rfl, .inl hH, pd_datas z⟩
theorem ob_catl {x y : El} {xs ys : List PyData} (hx : lstD W x xs) (hy : lstD W y ys) (hl : xs.length + ys.length ≤ sizeLine) (h : k (.d (.list (xs ++ ys))) W) : OB X (binaryOp .Add) x y W k := .of op_catL fun F A H Q vx vy r zx zy q => by
  obtain ⟨a, vs, rfl, hs, z⟩ := r.lst zx hx
  obtain ⟨b, ws, rfl, hs', z'⟩ := r.lst zy hy
  exact ⟨a, b, vs, ws, rfl, rfl, hs, hs', by rw [← pd_len z, ← pd_len z']; exact hl, fun p hp => q.newL r hp (pd_app z z') h⟩
theorem op_eqQ (neg : Bool) (hu : X.A.units + 64 < cLine) : OpR X (compareOp (if neg then .NotEq else .Eq)) (fun x y H Q => ∃ d e, Rq X.K H x d ∧ Rq X.K H y e ∧ Dat d ∧ Dat e ∧ Q (.bl (if neg then !PyData.eqv d e else PyData.eqv d e)) H) := by
  intro pins s σ H x y v u Q I rx ry h
  obtain ⟨d, e, rd, re, hd, he, q⟩ := h
  obtain ⟨as, h1⟩ := Rq.reads I d hd.lay rd rx
  obtain ⟨bs, h2⟩ := Rq.reads I e he.lay re ry
  cases neg with
  | false => exact SeqAt.compareEq_reads h1 h2 hd.lay he.lay (by have := hd.dep; omega) ⟨.bl _, H, I, rfl, q⟩
  | true => exact SeqAt.compareNe_reads h1 h2 hd.lay he.lay (by have := hd.dep; omega) ⟨.bl _, H, I, rfl, q⟩
/-- the data of a thing, also of a list that is changed -/
noncomputable def dat (W : Wl) (x : El) (d : PyData) : Prop := x = .d d ∨ ∃ ds, d = .list ds ∧ lstD W x ds
theorem RW.dat {F : Hp} {A : List Addr} {H : Hp} (r : RW X.K F A W H) {x : El} {v : V} {d : PyData} (z : ElR X.K F A x v) (h : dat W x d) : Rq X.K H v d := by
  rcases h with rfl | ⟨ds, rfl, h⟩
  · exact Rq.same r.sub _ z
  · obtain ⟨a, vs, rfl, hs, z⟩ := r.lst z h
    exact .lst hs (Rqs.of (pd_imp (fun _ _ t => Rq.same r.sub _ t) z))
theorem ob_eq {x y : El} {d e : PyData} (hu : X.A.units + 64 < cLine) (hx : dat W x d) (hy : dat W y e) (hd : Dat d) (he : Dat e) (h : k (.d (.bool (PyData.eqv d e))) W) : OB X (compareOp .Eq) x y W k :=
  .of (op_eqQ false hu) fun F A H Q vx vy r zx zy q => ⟨d, e, r.dat zx hx, r.dat zy hy, hd, he, q.same r (.dd (Rq.bl _)) h⟩
theorem ob_ne {x y : El} {d e : PyData} (hu : X.A.units + 64 < cLine) (hx : dat W x d) (hy : dat W y e) (hd : Dat d) (he : Dat e) (h : k (.d (.bool (!PyData.eqv d e))) W) : OB X (compareOp .NotEq) x y W k :=
  .of (op_eqQ true hu) fun F A H Q vx vy r zx zy q => ⟨d, e, r.dat zx hx, r.dat zy hy, hd, he, q.same r (.dd (Rq.bl _)) h⟩
/-- of numbers, texts, truths -/
theorem ob_eqI {i j : Int} (h : k (.d (.bool (decide (i = j)))) W) : OB X (compareOp .Eq) (.d (.int i)) (.d (.int j)) W k := .of op_eq fun F A H Q vx vy r zx zy q => by
  obtain rfl := Rq.of_int zx
  obtain rfl := Rq.of_int zy
  exact ⟨rfl, q.same r (.dd (by have : decide (V.int i = V.int j) = decide (i = j) := (by simp); rw [this]; exact Rq.bl _)) h⟩
theorem ob_neI {i j : Int} (h : k (.d (.bool (!decide (i = j)))) W) : OB X (compareOp .NotEq) (.d (.int i)) (.d (.int j)) W k := .of op_ne fun F A H Q vx vy r zx zy q => by
  obtain rfl := Rq.of_int zx
  obtain rfl := Rq.of_int zy
  exact ⟨rfl, q.same r (.dd (by have : decide (V.int i = V.int j) = decide (i = j) := (by simp); rw [this]; exact Rq.bl _)) h⟩
theorem ob_eqS {i j : Str} (h : k (.d (.bool (decide (i = j)))) W) : OB X (compareOp .Eq) (.d (.str i)) (.d (.str j)) W k := .of op_eq fun F A H Q vx vy r zx zy q => by
  obtain rfl := Rq.of_str zx
  obtain rfl := Rq.of_str zy
  exact ⟨rfl, q.same r (.dd (by have : decide (V.str i = V.str j) = decide (i = j) := (by simp); rw [this]; exact Rq.bl _)) h⟩
theorem ob_neS {i j : Str} (h : k (.d (.bool (!decide (i = j)))) W) : OB X (compareOp .NotEq) (.d (.str i)) (.d (.str j)) W k := .of op_ne fun F A H Q vx vy r zx zy q => by
  obtain rfl := Rq.of_str zx
  obtain rfl := Rq.of_str zy
  exact ⟨rfl, q.same r (.dd (by have : decide (V.str i = V.str j) = decide (i = j) := (by simp); rw [this]; exact Rq.bl _)) h⟩
theorem ob_eqB {i j : Bool} (h : k (.d (.bool (decide (i = j)))) W) : OB X (compareOp .Eq) (.d (.bool i)) (.d (.bool j)) W k := .of op_eq fun F A H Q vx vy r zx zy q => by
  obtain rfl := Rq.of_bl zx
  obtain rfl := Rq.of_bl zy
  exact ⟨rfl, q.same r (.dd (by have : decide (V.bl i = V.bl j) = decide (i = j) := (by simp); rw [this]; exact Rq.bl _)) h⟩
theorem ob_neB {i j : Bool} (h : k (.d (.bool (!decide (i = j)))) W) : OB X (compareOp .NotEq) (.d (.bool i)) (.d (.bool j)) W k := .of op_ne fun F A H Q vx vy r zx zy q => by
  obtain rfl := Rq.of_bl zx
  obtain rfl := Rq.of_bl zy
  exact ⟨rfl, q.same r (.dd (by have : decide (V.bl i = V.bl j) = decide (i = j) := (by simp); rw [this]; exact Rq.bl _)) h⟩
noncomputable def isNone : PyData → Bool
  | .none => true
  | _ => false
/-- x is None -/
theorem ob_isN {x : PyData} (h : k (.d (.bool (isNone x))) W) : OB X (compareOp .Is) (.d x) (.d .none) W k := .of op_isN fun F A H Q vx vy r zx zy q => by
  obtain rfl := Rq.of_non zy
  refine ⟨rfl, q.same r (.dd ?_) h⟩
  have : decide (vx = V.non) = isNone x := by
    have zx : Rq X.K F vx x := zx
    cases zx <;> simp [isNone]
  rw [this]
  exact Rq.bl _
theorem ob_notN {x : PyData} (h : k (.d (.bool (!isNone x))) W) : OB X (compareOp .IsNot) (.d x) (.d .none) W k := .of op_notN fun F A H Q vx vy r zx zy q => by
  obtain rfl := Rq.of_non zy
  refine ⟨rfl, q.same r (.dd ?_) h⟩
  have : decide (vx = V.non) = isNone x := by
    have zx : Rq X.K F vx x := zx
    cases zx <;> simp [isNone]
  rw [this]
  exact Rq.bl _
theorem ob_inS {i j : Str} (h : k (.d (.bool (!(Builtin.Str.occurrences j i 0 j.length 1).isEmpty))) W) : OB X (compareOp .In) (.d (.str i)) (.d (.str j)) W k := .of op_in_str fun F A H Q vx vy r zx zy q => by
  obtain rfl := Rq.of_str zx
  obtain rfl := Rq.of_str zy
  exact ⟨i, j, rfl, rfl, q.same r (.dd (Rq.bl _)) h⟩
theorem inV_str {xs : List Str} {x : Str} : inV (.str x) (xs.map V.str) = decide (x ∈ xs) := by
  unfold inV
  rw [List.any_map]
  induction xs with
  | nil => simp
  | cons a r ih =>
    rw [List.any_cons, ih]
    have : (eqV (V.str a) (V.str x)) = decide (x = a) := by
      by_cases e : a = x
      · subst e; simp [eqV]
      · have e' : ¬ x = a := fun z => e z.symm
        simp [eqV, e, e']
    simp [this]
theorem pd_strs {K : PySem.W.Frag} {F : Hp} : ∀ {xs : List Str} {vs : List V}, Paired (fun d v => Rq K F v d) (xs.map PyData.str) vs → vs = xs.map V.str
  | [], _, .nil => rfl
  | x :: xs, _, .cons r t => by rw [pd_strs t, Rq.of_str r]; rfl
theorem pd_bls {K : PySem.W.Frag} {F : Hp} : ∀ {xs : List Bool} {vs : List V}, Paired (fun d v => Rq K F v d) (xs.map PyData.bool) vs → vs = xs.map V.bl
  | [], _, .nil => rfl
  | x :: xs, _, .cons r t => by rw [pd_bls t, Rq.of_bl r]; rfl
theorem flat_strs {xs : List Str} : (xs.map V.str).all flatV = true := by rw [List.all_map]; exact List.all_eq_true.mpr fun _ _ => rfl
/-- a text in a list, a tuple of texts -/
theorem ob_inL {x : Str} {y : El} {xs : List Str} (hy : lstD W y (xs.map .str) ∨ y = .d (.tuple (xs.map .str))) (h : k (.d (.bool (decide (x ∈ xs)))) W) : OB X (compareOp .In) (.d (.str x)) y W k := .of op_in_seq fun F A H Q vx vy r zx zy q => by
  obtain rfl := Rq.of_str zx
  rcases hy with hy | rfl
  · obtain ⟨a, vs, rfl, hs, z⟩ := r.lst zy hy
    obtain rfl := pd_strs z
    refine ⟨a, _, rfl, .inl (.inl hs), rfl, flat_strs, ?_⟩
    rw [if_neg (by decide), inV_str]
    exact q.same r (.dd (Rq.bl _)) h
  · obtain ⟨a, vs, rfl, hs, z⟩ := Rq.of_tup zy
    obtain rfl := pd_strs z
    refine ⟨a, _, rfl, .inr (r.sub.seqT hs), rfl, flat_strs, ?_⟩
    rw [if_neg (by decide), inV_str]
    exact q.same r (.dd (Rq.bl _)) h
theorem ob_ninL {x : Str} {y : El} {xs : List Str} (hy : lstD W y (xs.map .str) ∨ y = .d (.tuple (xs.map .str))) (h : k (.d (.bool (!decide (x ∈ xs)))) W) : OB X (compareOp .NotIn) (.d (.str x)) y W k := .of op_notIn_seq fun F A H Q vx vy r zx zy q => by
  obtain rfl := Rq.of_str zx
  rcases hy with hy | rfl
  · obtain ⟨a, vs, rfl, hs, z⟩ := r.lst zy hy
    obtain rfl := pd_strs z
    refine ⟨a, _, rfl, .inl (.inl hs), rfl, flat_strs, ?_⟩
    rw [if_pos rfl, inV_str]
    exact q.same r (.dd (Rq.bl _)) h
  · obtain ⟨a, vs, rfl, hs, z⟩ := Rq.of_tup zy
    obtain rfl := pd_strs z
    refine ⟨a, _, rfl, .inr (r.sub.seqT hs), rfl, flat_strs, ?_⟩
    rw [if_pos rfl, inV_str]
    exact q.same r (.dd (Rq.bl _)) h
theorem pd_one {α β : Type} {F : α → β → Prop} {a : α} {m : List β} (h : Paired F [a] m) : ∃ b, m = [b] ∧ F a b := by
  cases h with
  | cons r t => cases t; exact ⟨_, rfl, r⟩
theorem pd_two {α β : Type} {F : α → β → Prop} {a b : α} {m : List β} (h : Paired F [a, b] m) : ∃ c d, m = [c, d] ∧ F a c ∧ F b d := by
  cases h with
  | cons r t => obtain ⟨d, rfl, q⟩ := pd_one t; exact ⟨_, _, rfl, r, q⟩
theorem cb_lenS {x : Str} (hl : x.length ≤ sizeLine) (h : k (.d (.int x.length)) W) : CB X (.builtin "len") [.d (.str x)] W k := .of call_len_str fun F A H Q vs r zs q => by
  obtain ⟨v, rfl, z⟩ := pd_one zs
  obtain rfl := Rq.of_str z
  exact ⟨x, rfl, hl, q.same r (.dd (Rq.int _)) h⟩
theorem cb_lenT {ds : List PyData} (h : k (.d (.int ds.length)) W) : CB X (.builtin "len") [.d (.tuple ds)] W k := .of call_len_seq fun F A H Q vs r zs q => by
  obtain ⟨v, rfl, z⟩ := pd_one zs
  obtain ⟨a, vs, rfl, hs, z⟩ := Rq.of_tup z
  exact ⟨a, vs, rfl, .inr (r.sub.seqT hs), by rw [← pd_len z]; exact q.same r (.dd (Rq.int _)) h⟩
theorem cb_lenL {ds : List PyData} {x : El} (hx : lstD W x ds) (h : k (.d (.int ds.length)) W) : CB X (.builtin "len") [x] W k := .of call_len_seq fun F A H Q vs r zs q => by
  obtain ⟨v, rfl, z⟩ := pd_one zs
  obtain ⟨a, vs, rfl, hs, z⟩ := r.lst z hx
  exact ⟨a, vs, rfl, .inl (.inl hs), by rw [← pd_len z]; exact q.same r (.dd (Rq.int _)) h⟩
theorem cb_abs {i : Int} (h : k (.d (.int (if i < 0 then -i else i))) W) : CB X (.builtin "abs") [.d (.int i)] W k := .of call_abs fun F A H Q vs r zs q => by
  obtain ⟨v, rfl, z⟩ := pd_one zs
  obtain rfl := Rq.of_int z
  exact ⟨i, rfl, q.same r (.dd (Rq.int _)) h⟩
theorem cb_divmod {i j : Int} (hc : CDiv i j) (h : k (.d (.tuple [.int (i / j), .int (i % j)])) W) : CB X (.builtin "divmod") [.d (.int i), .d (.int j)] W k := .of call_divmod fun F A H Q vs r zs q => by
  obtain ⟨u, v, rfl, z1, z2⟩ := pd_two zs
  obtain rfl := Rq.of_int z1
  obtain rfl := Rq.of_int z2
  exact ⟨i, j, rfl, hc, fun p hp => q.newT r hp (.cons (Rq.int _) (.cons (Rq.int _) .nil)) h⟩
theorem cb_intB {b : Bool} (h : k (.d (.int (if b then 1 else 0))) W) : CB X (.type "int") [.d (.bool b)] W k := .of call_int1 fun F A H Q vs r zs q => by
  obtain ⟨v, rfl, z⟩ := pd_one zs
  obtain rfl := Rq.of_bl z
  exact .inr ⟨b, rfl, q.same r (.dd (Rq.int _)) h⟩
theorem cb_all {x : El} {bs : List Bool} (hc : X.calm = true) (hx : lstD W x (bs.map .bool)) (h : k (.d (.bool (bs.all id))) W) : CB X (.builtin "all") [x] W k := .of (call_all hc) fun F A H Q vs r zs q => by
  obtain ⟨v, rfl, z⟩ := pd_one zs
  obtain ⟨a, vs, rfl, hs, z⟩ := r.lst z hx
  obtain rfl := pd_bls z
  exact ⟨a, bs, rfl, .inl hs, q.same r (.dd (Rq.bl _)) h⟩
theorem cb_any {x : El} {bs : List Bool} (hc : X.calm = true) (hx : lstD W x (bs.map .bool)) (h : k (.d (.bool (bs.any id))) W) : CB X (.builtin "any") [x] W k := .of (call_any hc) fun F A H Q vs r zs q => by
  obtain ⟨v, rfl, z⟩ := pd_one zs
  obtain ⟨a, vs, rfl, hs, z⟩ := r.lst z hx
  obtain rfl := pd_bls z
  exact ⟨a, bs, rfl, .inl hs, q.same r (.dd (Rq.bl _)) h⟩
theorem cb_tupL {x : El} {ds : List PyData} (hx : lstD W x ds) (h : k (.d (.tuple ds)) W) : CB X (.type "tuple") [x] W k := .of call_tuple_of fun F A H Q vs r zs q => by
  obtain ⟨v, rfl, z⟩ := pd_one zs
  obtain ⟨a, vs, rfl, hs, z⟩ := r.lst z hx
  exact ⟨a, vs, rfl, .inl ⟨.inl hs, fun l hl => q.newT r hl z h⟩⟩
noncomputable def tyD : PyData → String
  | .none => "NoneType" | .bool _ => "bool" | .int _ => "int" | .str _ => "str" | .list _ => "list" | .tuple _ => "tuple" | .dict _ => "dict"
theorem call_isQ : CallR X (.builtin "isinstance") (fun xs H Q => ∃ x d T b, xs = [x, .ty T] ∧ Rq X.K H x d ∧ PySem.W.kitOne X.K (.type (tyD d)) (.type T) = some b ∧ Q (.bl b) H) := by
  intro pins s σ H xs us Q I r h
  obtain ⟨x, d, T, b, rfl, rd, e, q⟩ := h
  obtain ⟨u, v, rfl, ru, rv⟩ := r.two
  cases (show v = Value.type T from rv)
  have fin : ∀ tk, EP X pins σ Q (.bool b) { s with toks := tk } := fun tk => ⟨.bl b, H, I.tok tk, rfl, q⟩
  cases rd with
  | non => exact isinst_ok I ru .non e fin
  | bl y => exact isinst_ok I ru (.bl y) e fin
  | int i => exact isinst_ok I ru (.int i) e fin
  | str y => exact isinst_ok I ru (.str y) e fin
  | lst h _ =>
    rcases h with h | ⟨o, h⟩
    · exact isinst_ok I ru (.lst h) e fin
    · exact isinst_ok I ru (.frz h) e fin
  | @tup a vs ds h _ =>
    cases (show u = Value.ref a from ru)
    obtain ⟨its, _, ⟨o, h1, h2, _⟩, _⟩ := I.tuple h
    exact PySem.W.kia_one PySem.W.kitx_tuple I.kIn ⟨o, h1, h2⟩ e (fun z => nomatch z) fin
  | dct h => exact isinst_ok I ru (.dK h) e fin
theorem kitD (K : PySem.W.Frag) (d : PyData) (T : String) (h : T = "int" ∨ T = "bool" ∨ T = "str" ∨ T = "tuple" ∨ T = "list" ∨ T = "dict") : PySem.W.kitOne K (.type (tyD d)) (.type T) = some (tyD d == T || (tyD d == "bool" && T == "int")) := by
  cases d <;> rcases h with rfl | rfl | rfl | rfl | rfl | rfl <;> rfl
noncomputable def isD (d : PyData) (T : String) : Bool := tyD d == T || (tyD d == "bool" && T == "int")
/-- isinstance(e, T) -/
theorem be_isinst {e : Expr} {T : Str} {Ts : String} {p p' pos : Pos} (hg : Gl X "isinstance") (hm : X.mg "isinstance" = none) (hv : bootBuiltins "isinstance" = some (.builtin "isinstance")) (hgT : Gl X T) (hmT : X.mg T = none) (hvT : bootBuiltins T = some (.type Ts))
    (hT : Ts = "int" ∨ Ts = "bool" ∨ Ts = "str" ∨ Ts = "tuple" ∨ Ts = "list" ∨ Ts = "dict") (h : BE X S W e fun x W1 => ∃ d, dat W1 x d ∧ k (.d (.bool (isD d Ts))) W1)
    (hn : T ≠ "__name__" := by decide) (hd : (T == ("__debug__" : Str)) = false := by decide)
    (hs : starEach [e, .Name T p'] X.env = (false, eval e X.env) :: starEach [.Name T p'] X.env := by rfl) (hs2 : starEach [.Name T p'] X.env = [(false, eval (.Name T p') X.env)] := by rfl) (hpl : (backTo pos (starEach [.Name T p'] X.env)).any (·.1) = false := by rfl) :
    BE X S W (.Call (.Name "isinstance" p) [e, .Name T p'] [] pos) k :=
  .of (pe_callB call_isQ hg hm hv (pa_cons pe_U (pa_cons (pe_bltn (v := .ty Ts) hgT hmT hvT rfl hn hd) pa_nil hs2) hs) (by decide) (by decide) hs hpl) fun F A σ H Q x0 r sr q => h.use x0 r sr fun F1 A1 W1 H1 x vx e1 r1 z1 ⟨d, hd, h1⟩ => by
    exact ⟨vx, d, Ts, _, rfl, r1.dat z1 hd, kitD X.K d Ts hT, (q.ext e1).same r1 (.dd (Rq.bl _)) h1⟩
noncomputable def rUM (X : Bc) (id : String) : V → List V → Hp → VK → Prop := fun x xs H Q => ∃ r, MtR X id r ∧ r x xs H Q
theorem mt_U {id : String} : MtR X id (rUM X id) := fun pins s σ H x xs v us Q I rx rs ⟨r, h, q⟩ => h pins s σ H x xs v us Q I rx rs q
/-- T: the receiver's type -/
noncomputable def MB (X : Bc) (T id : String) (x : El) (xs : List El) (W : Wl) (k : KB) : Prop := ∀ F A H Q v vs, RW X.K F A W H → ElR X.K F A x v → Paired (ElR X.K F A) xs vs → Post X.K F A k Q → rUM X id v vs H Q
theorem MB.of {T id : String} {x : El} {xs : List El} {r1 : V → List V → Hp → VK → Prop} (hc : MtR X id r1) (i : ∀ F A H Q v vs, RW X.K F A W H → ElR X.K F A x v → Paired (ElR X.K F A) xs vs → Post X.K F A k Q → r1 v vs H Q) : MB X T id x xs W k :=
  fun F A H Q v vs r zx z q => ⟨r1, hc, i F A H Q v vs r zx z q⟩
/-- the receiver is of that type -/
noncomputable def isTy (W : Wl) : El → String → Prop
  | .d (.str _), T => T = "str"
  | .d (.list _), T => T = "list"
  | .o j, T => (T = "list" ∧ ∃ es, W[j]? = some (.lst es)) ∨ (T = "dict" ∧ ((∃ es, W[j]? = some (.dK es)) ∨ ∃ es, W[j]? = some (.dT es)))
  | _, _ => False
theorem RW.ty {F : Hp} {A : List Addr} {H : Hp} (r : RW X.K F A W H) {x : El} {v : V} {T : String} (z : ElR X.K F A x v) (h : isTy W x T) : tyV X.K T v H := by
  cases x with
  | o j =>
    obtain ⟨a, ha, rfl⟩ := z
    rcases h with ⟨rfl, es, hj⟩ | ⟨rfl, ⟨es, hj⟩ | ⟨es, hj⟩⟩
    · obtain ⟨h, e, vs, rfl, p⟩ := r.obj j a _ ha hj
      exact .inl ⟨rfl, vs, SqL.of e⟩
    · obtain ⟨h, e, vs, rfl, p⟩ := r.obj j a _ ha hj
      exact .inr (.inr (.inl ⟨rfl, .inl ⟨vs, e⟩⟩))
    · obtain ⟨h, e, vs, rfl, p⟩ := r.obj j a _ ha hj
      exact .inr (.inr (.inl ⟨rfl, .inr ⟨vs, e⟩⟩))
  | s ns => exact h.elim
  | x C => exact h.elim
  | p ks => exact h.elim
  | d x =>
    cases x with
    | str y => obtain rfl := Rq.of_str z; exact h
    | list ds =>
      obtain ⟨a, vs, rfl, hs, _⟩ := Rq.of_lst z
      exact .inl ⟨h, vs, .inl (r.sub.rd hs)⟩
    | _ => exact h.elim
theorem be_bm {o e : Expr} {es : List Expr} {name : Str} {T id : String} {apos cpos : Pos} (pa : PlainAttrs T) (slot : Slot T name id) (hty : typeOf (.builtin id) = pure (.type "method_descriptor"))
    (h : BE X S W o fun x W1 => isTy W1 x T ∧ BA X S W1 (e :: es) fun xs W2 => MB X T id x xs W2 k)
    (hbase : attributeBase o name X.env (eval o X.env) = eval o X.env := by rfl)
    (hfew : ((backTo cpos (starEach (e :: es) X.env)).all (fun x => !x.1) && (backToKw cpos (keywordEach [] X.env)).all (fun x => x.1.isSome)
      && decide ((e :: es).length + ([] : List Keyword).length + (if ([] : List Keyword).isEmpty then 0 else 1) < 30)) = true := by rfl)
    (hline : (apos.endLine == cpos.line) = true := by rfl) (hs : starEach (e :: es) X.env = (false, eval e X.env) :: starEach es X.env := by rfl) (hplain : (backTo cpos (starEach es X.env)).any (·.1) = false := by rfl) :
    BE X S W (.Call (.Attribute o name apos) (e :: es) [] cpos) k :=
  .of (pe_bm pa slot hty mt_U pe_U pa_U hbase hfew hline hs hplain) fun F A σ H Q x0 r sr q => h.use x0 r sr fun F1 A1 W1 H1 x vx e1 r1 z1 ⟨ht, h1⟩ =>
    ⟨r1.ty z1 ht, h1.use (x0.trans e1) r1 (sr.ext e1) fun F2 A2 W2 H2 xs vs e2 r2 z2 h2 => h2 F2 A2 H2 Q vx vs r2 (z1.ext e2) z2 (q.ext (e1.trans e2))⟩
theorem mb_append {j : Nat} {es : List El} {y : El} (hj : W[j]? = some (.lst es)) (hl : es.length < sizeLine) (h : k (.d .none) (W.set j (.lst (es ++ [y])))) : MB X "list" "list.append" (.o j) [y] W k := .of mt_append fun F A H Q v vs r zx z q => by
  obtain ⟨a, ws, rfl, ha, hH, p⟩ := r.at zx hj
  obtain ⟨u, rfl, zu⟩ := pd_one z
  exact ⟨a, ws, u, rfl, rfl, hH, by rw [← pd_len p]; exact hl, q.put r ha (o := .lst (es ++ [y])) ⟨_, rfl, pd_app p (.cons zu .nil)⟩ (.dd Rq.non) h⟩
theorem mb_pop0 {j : Nat} {es : List El} {y : El} (hj : W[j]? = some (.lst (y :: es))) (h : k y (W.set j (.lst es))) : MB X "list" "list.pop" (.o j) [.d (.int 0)] W k := .of mt_popAt fun F A H Q v vs r zx z q => by
  obtain ⟨a, ws, rfl, ha, hH, p⟩ := r.at zx hj
  obtain ⟨u, rfl, zu⟩ := pd_one z
  obtain rfl := Rq.of_int zu
  cases p with
  | @cons _ b _ m r1 t =>
    refine ⟨a, b :: m, 0, 0, b, rfl, rfl, hH, by decide, by decide, by simp [seqIndex?], rfl, ?_⟩
    exact q.put r ha (o := .lst es) ⟨_, rfl, t⟩ r1 h
end
end L2
namespace L2
open PySem PySem.Spec PyProof.Rows
structure DB where
  nx : Sl → Wl → Prop
  rt : KB
  bk : Sl → Wl → Prop := fun _ _ => False
  ct : Sl → Wl → Prop := fun _ _ => False
/-- from the def's entry on: its first n objects are others' -/
structure Ex1 (n : Nat) (F : Hp) (A : List Addr) (F' : Hp) (A' : List Addr) : Prop where
  same : Same F F'
  pre : A.take n <+: A'
  len : n ≤ A'.length
theorem Ex1.refl {n : Nat} {F : Hp} {A : List Addr} (h : n ≤ A.length) : Ex1 n F A F A := ⟨.refl _, List.take_prefix _ _, h⟩
theorem take_pre {n : Nat} {A A' : List Addr} (h : A.take n <+: A') (hn : n ≤ A.length) : A'.take n = A.take n := by
  obtain ⟨r, rfl⟩ := h
  rw [List.take_append_of_le_length (by rw [List.length_take]; omega), List.take_take, Nat.min_self]
theorem Ex1.trans {n : Nat} {F F1 F2 : Hp} {A A1 A2 : List Addr} (hn : n ≤ A.length) (a : Ex1 n F A F1 A1) (b : Ex1 n F1 A1 F2 A2) : Ex1 n F A F2 A2 :=
  ⟨a.same.trans b.same, by rw [← take_pre a.pre hn]; exact b.pre, b.len⟩
theorem Ext.ex1 {n : Nat} {F F1 : Hp} {A A1 : List Addr} (hn : n ≤ A.length) (a : Ext F A F1 A1) : Ex1 n F A F1 A1 := ⟨a.same, (List.take_prefix _ _).trans a.pre, Nat.le_trans hn a.pre.length_le⟩
structure Ends1 (K : PySem.W.Frag) (n : Nat) (F : Hp) (A : List Addr) (D : DB) (E : Ends) : Prop where
  nx : ∀ F' A' W' H' S' σ', Ex1 n F A F' A' → RW K F' A' W' H' → SR K F' A' S' σ' → D.nx S' W' → E.nx σ' H'
  bk : ∀ F' A' W' H' S' σ', Ex1 n F A F' A' → RW K F' A' W' H' → SR K F' A' S' σ' → D.bk S' W' → E.bk σ' H'
  ct : ∀ F' A' W' H' S' σ', Ex1 n F A F' A' → RW K F' A' W' H' → SR K F' A' S' σ' → D.ct S' W' → E.ct σ' H'
  rt : ∀ F' A' W' H' e v, Ex1 n F A F' A' → RW K F' A' W' H' → ElR K F' A' e v → D.rt e W' → E.rt v H'
theorem Ends1.ext {K : PySem.W.Frag} {n : Nat} {F F1 : Hp} {A A1 : List Addr} {D : DB} {E : Ends} (hn : n ≤ A.length) (h : Ends1 K n F A D E) (x : Ex1 n F A F1 A1) : Ends1 K n F1 A1 D E :=
  ⟨fun F' A' W' H' S' σ' y => h.nx F' A' W' H' S' σ' (x.trans hn y), fun F' A' W' H' S' σ' y => h.bk F' A' W' H' S' σ' (x.trans hn y), fun F' A' W' H' S' σ' y => h.ct F' A' W' H' S' σ' (x.trans hn y), fun F' A' W' H' e v y => h.rt F' A' W' H' e v (x.trans hn y)⟩
/-- what the entry knew still holds, and the first objects are others' -/
structure Bc.Ams (X : Bc) (n : Nat) (F : Hp) (A : List Addr) : Prop where
  am : X.Am F A
  le : X.A0.length ≤ n
theorem Bc.Ams.ext {X : Bc} {n : Nat} {F F' : Hp} {A A' : List Addr} (x : X.Ams n F A) (e : Ext F A F' A') : X.Ams n F' A' := ⟨x.am.trans e, x.le⟩
theorem Bc.Ams.ex1 {X : Bc} {n : Nat} {F F' : Hp} {A A' : List Addr} (x : X.Ams n F A) (hn : n ≤ A.length) (e : Ex1 n F A F' A') : X.Ams n F' A' := ⟨⟨x.am.same.trans e.same, by
  obtain ⟨r, hr⟩ := x.am.pre
  have h1 : X.A0 = A.take X.A0.length := by rw [← hr, List.take_left]
  have h2 : A.take X.A0.length = (A.take n).take X.A0.length := by rw [List.take_take, Nat.min_eq_left x.le]
  rw [h1, h2]
  exact (List.take_prefix _ _).trans e.pre⟩, x.le⟩
theorem Bc.Ams.up {X : Bc} {n m : Nat} {F : Hp} {A : List Addr} (x : X.Ams n F A) (h : n ≤ m) : X.Ams m F A := ⟨x.am, Nat.le_trans x.le h⟩
noncomputable def tDS (X : Bc) (n : Nat) (S : Sl) (W : Wl) (D : DB) : TS := fun E σ H => ∃ F A, n ≤ A.length ∧ X.Ams n F A ∧ RW X.K F A W H ∧ SR X.K F A S σ ∧ Ends1 X.K n F A D E
noncomputable def BS (X : Bc) (n : Nat) (S : Sl) (W : Wl) (st : Stmt) (D : DB) : Prop := PS X st (tDS X n S W D)
noncomputable def BSs (X : Bc) (n : Nat) (S : Sl) (W : Wl) (st : List Stmt) (D : DB) : Prop := PSs X st (tDS X n S W D)
noncomputable def tUSt (X : Bc) (st : Stmt) : TS := fun E σ H => ∃ t, PS X st t ∧ t E σ H
noncomputable def tUSs (X : Bc) (st : List Stmt) : TS := fun E σ H => ∃ t, PSs X st t ∧ t E σ H
section
variable {X : Bc} {n : Nat} {S : Sl} {W : Wl} {D : DB}
theorem ps_U {st : Stmt} : PS X st (tUSt X st) := fun pins s σ H E I ⟨t, h, q⟩ => h pins s σ H E I q
theorem pss_U {st : List Stmt} : PSs X st (tUSs X st) := fun pins s σ H E I ⟨t, h, q⟩ => h pins s σ H E I q
theorem BS.of {st : Stmt} {t : TS} (h : PS X st t) (i : ∀ F A σ H E, n ≤ A.length → X.Ams n F A → RW X.K F A W H → SR X.K F A S σ → Ends1 X.K n F A D E → t E σ H) : BS X n S W st D :=
  fun pins s σ H E I ⟨F, A, hn, x0, r, sr, q⟩ => h pins s σ H E I (i F A σ H E hn x0 r sr q)
theorem BSs.of {st : List Stmt} {t : TS} (h : PSs X st t) (i : ∀ F A σ H E, n ≤ A.length → X.Ams n F A → RW X.K F A W H → SR X.K F A S σ → Ends1 X.K n F A D E → t E σ H) : BSs X n S W st D :=
  fun pins s σ H E I ⟨F, A, hn, x0, r, sr, q⟩ => h pins s σ H E I (i F A σ H E hn x0 r sr q)
theorem BS.use {st : Stmt} (h : BS X n S W st D) {F : Hp} {A : List Addr} {σ : St} {H : Hp} {E : Ends} (hn : n ≤ A.length) (x0 : X.Ams n F A) (r : RW X.K F A W H) (s : SR X.K F A S σ) (q : Ends1 X.K n F A D E) : tUSt X st E σ H := ⟨_, h, F, A, hn, x0, r, s, q⟩
theorem BSs.use {st : List Stmt} (h : BSs X n S W st D) {F : Hp} {A : List Addr} {σ : St} {H : Hp} {E : Ends} (hn : n ≤ A.length) (x0 : X.Ams n F A) (r : RW X.K F A W H) (s : SR X.K F A S σ) (q : Ends1 X.K n F A D E) : tUSs X st E σ H := ⟨_, h, F, A, hn, x0, r, s, q⟩
theorem bs_nil (h : D.nx S W) : BSs X n S W [] D := .of pss_nil fun F A σ H E hn x0 r sr q => q.nx F A W H S σ (.refl hn) r sr h
theorem bs_cons {st : Stmt} {rest : List Stmt} (h : BS X n S W st { D with nx := fun S' W' => BSs X n S' W' rest D }) : BSs X n S W (st :: rest) D :=
  .of (pss_cons ps_U pss_U) fun F A σ H E hn x0 r sr q => h.use hn x0 r sr ⟨fun F' A' W' H' S' σ' x r' sr' h' => h'.use x.len (x0.ex1 hn x) r' sr' (q.ext hn x), q.bk, q.ct, q.rt⟩
theorem bs_pass {pos : Pos} (h : D.nx S W) : BS X n S W (.Pass pos) D := .of ps_pass fun F A σ H E hn x0 r sr q => q.nx F A W H S σ (.refl hn) r sr h
theorem bs_expr {e : Expr} {pos : Pos} (h : BE X S W e fun _ W1 => D.nx S W1) (hs : swapsWith e none pos.line X.env = pure false := by rfl) : BS X n S W (.Expr e pos) D :=
  .of (ps_expr pe_U hs) fun F A σ H E hn x0 r sr q => h.use x0.am r sr fun F1 A1 W1 H1 x vx e1 r1 z1 h1 => q.nx F1 A1 W1 H1 S σ (e1.ex1 hn) r1 (sr.ext e1) h1
theorem bs_ret {e : Expr} {pos : Pos} (h : BE X S W e D.rt) : BS X n S W (.Return (some e) pos) D :=
  .of (ps_ret pe_U) fun F A σ H E hn x0 r sr q => h.use x0.am r sr fun F1 A1 W1 H1 x vx e1 r1 z1 h1 => q.rt F1 A1 W1 H1 x vx (e1.ex1 hn) r1 z1 h1
theorem bs_if {c : Expr} {a b : List Stmt} {pos : Pos} (h : BT X S W c fun t W1 => if t = true then BSs X n S W1 a D else BSs X n S W1 b D) : BS X n S W (.If c a b pos) D :=
  .of (ps_if pt_U pss_U pss_U) fun F A σ H E hn x0 r sr q => h.use x0.am r sr fun F1 A1 W1 H1 t e1 r1 h1 => by
    have hn1 : n ≤ A1.length := (e1.ex1 hn).len
    cases t with
    | true =>
      rw [if_pos rfl] at h1 ⊢
      exact h1.use hn1 (x0.ext e1) r1 (sr.ext e1) (q.ext hn (e1.ex1 hn))
    | false =>
      rw [if_neg (by decide)] at h1 ⊢
      exact h1.use hn1 (x0.ext e1) r1 (sr.ext e1) (q.ext hn (e1.ex1 hn))
theorem bs_set {i : Nat} {x : Str} {e : Expr} {pos pos' : Pos} (hN : X.N.Nodup) (hi : X.N[i]? = some x) (hx : Loc X.env.scope x) (h : BE X S W e fun y W1 => D.nx (S.set i (some y)) W1) (hs : swapsWith e (some (.Name x pos')) pos.line X.env = pure false := by rfl) (hf : X.fn x = true ∨ X.env.scope.names.lookup x = some .local := by first | exact .inl rfl | exact .inr rfl | assumption) :
    BS X n S W (.Assign [.Name x pos'] e pos) D :=
  .of (ps_set hN hi hx pe_U hs hf) fun F A σ H E hn x0 r sr q => h.use x0.am r sr fun F1 A1 W1 H1 y vy e1 r1 z1 h1 => q.nx F1 A1 W1 H1 _ _ (e1.ex1 hn) r1 ((sr.ext e1).set z1 i) h1
/-- targets: names, a tuple of names -/
noncomputable def tUG (X : Bc) (tg : Expr) : TG := fun v σ H Q => ∃ t, PG X tg t ∧ t v σ H Q
theorem pg_U {tg : Expr} : PG X tg (tUG X tg) := fun pins s σ H v u Q I r ⟨t, h, q⟩ => h pins s σ H v u Q I r q
noncomputable def BG (X : Bc) (S : Sl) (W : Wl) (tg : Expr) (e : El) (k : Sl → Wl → Prop) : Prop := ∀ F A σ H v (Q : St → Hp → Prop), X.Am F A → RW X.K F A W H → SR X.K F A S σ → ElR X.K F A e v →
  (∀ F' A' W' H' S' σ', Ext F A F' A' → RW X.K F' A' W' H' → SR X.K F' A' S' σ' → k S' W' → Q σ' H') → tUG X tg v σ H Q
theorem bg_name {i : Nat} {x : Str} {pos : Pos} {e : El} {k : Sl → Wl → Prop} (hN : X.N.Nodup) (hi : X.N[i]? = some x) (hx : Loc X.env.scope x) (h : k (S.set i (some e)) W) (hf : X.fn x = true ∨ X.env.scope.names.lookup x = some .local := by first | exact .inl rfl | exact .inr rfl | assumption) : BG X S W (.Name x pos) e k :=
  fun F A σ H v Q x0 r sr z q => ⟨_, pg_name hN hi hx hf, q F A W H _ _ .refl r (sr.set z i) h⟩
/-- the names of a tuple target: their slots -/
inductive Nms (X : Bc) : List Expr → List Nat → Prop
  | nil : Nms X [] []
  | cons {i : Nat} {x : Str} {pos : Pos} {es : List Expr} {is : List Nat} (hN : X.N.Nodup) (hi : X.N[i]? = some x) (hx : Loc X.env.scope x) (t : Nms X es is)
      (hf : X.fn x = true ∨ X.env.scope.names.lookup x = some .local := by first | exact .inl rfl | exact .inr rfl | assumption)
      (hs : (assignEach (.Name x pos :: es) X.env).map (·.2) = assign (.Name x pos) X.env :: (assignEach es X.env).map (·.2) := by rfl) : Nms X (.Name x pos :: es) (i :: is)
noncomputable def gNms : List Nat → TGs
  | [] => gNil
  | i :: is => gCons (gName i) (gNms is)
theorem Nms.pgs : ∀ {es : List Expr} {is : List Nat}, Nms X es is → PGs X es (gNms is)
  | _, _, .nil => pgs_nil
  | _, _, .cons hN hi hx t hf hs => pgs_cons (pg_name hN hi hx hf) t.pgs hs
noncomputable def setAll (S : Sl) : List Nat → List El → Sl
  | i :: is, e :: es => setAll (S.set i (some e)) is es
  | _, _ => S
noncomputable def setAllσ (σ : St) : List Nat → List V → St
  | i :: is, e :: es => setAllσ (σ.set i (some e)) is es
  | _, _ => σ
theorem gNms_set : ∀ {is : List Nat} {vs : List V} {σ : St} {H : Hp} {Q : St → Hp → Prop}, is.length = vs.length → Q (setAllσ σ is vs) H → gNms is vs σ H Q
  | [], [], σ, H, Q, _, q => ⟨rfl, q⟩
  | [], _ :: _, _, _, _, h, _ => by simp at h
  | _ :: _, [], _, _, _, h, _ => by simp at h
  | i :: is, v :: vs, σ, H, Q, h, q => ⟨v, vs, rfl, gNms_set (is := is) (by simpa using h) q⟩
theorem SR.setAll {K : PySem.W.Frag} {F : Hp} {A : List Addr} : ∀ {is : List Nat} {es : List El} {vs : List V} {S : Sl} {σ : St}, SR K F A S σ → Paired (ElR K F A) es vs → SR K F A (setAll S is es) (setAllσ σ is vs)
  | [], _, _, _, _, r, _ => r
  | _ :: _, _, _, _, _, r, .nil => r
  | i :: is, _, _, S, σ, r, .cons z t => SR.setAll (is := is) (r.set z i) t
theorem bs_asg {tg e : Expr} {pos : Pos} (h : BE X S W e fun y W1 => BG X S W1 tg y D.nx) (hs : swapsWithSole [tg] e pos.line X.env = pure false := by rfl) (hw : swappedStores [tg] e X.env = pure none := by rfl)
    (h1 : (assignEach [tg] X.env).map (·.2) = [assign tg X.env] := by rfl) : BS X n S W (.Assign [tg] e pos) D :=
  .of (ps_asg pe_U pg_U hs hw h1) fun F A σ H E hn x0 r sr q => h.use x0.am r sr fun F1 A1 W1 H1 y vy e1 r1 z1 h1 => h1 F1 A1 σ H1 vy _ (x0.am.trans e1) r1 (sr.ext e1) z1 fun F2 A2 W2 H2 S2 σ2 e2 r2 sr2 h2 => q.nx F2 A2 W2 H2 S2 σ2 ((e1.trans e2).ex1 hn) r2 sr2 h2
/-- o[i] = v -/
noncomputable def tUSet (X : Bc) : TSet := fun o i v H Q => ∃ t, PSet X t ∧ t o i v H Q
theorem pset_U : PSet X (tUSet X) := fun pins s σ H o i v ov iv u Q I r1 r2 r3 ⟨t, h, q⟩ => h pins s σ H o i v ov iv u Q I r1 r2 r3 q
noncomputable def SB (X : Bc) (o i v : El) (W : Wl) (k : Wl → Prop) : Prop := ∀ F A H vo vi vv (Q : Hp → Prop), RW X.K F A W H → ElR X.K F A o vo → ElR X.K F A i vi → ElR X.K F A v vv → (∀ F' A' W' H', Ext F A F' A' → RW X.K F' A' W' H' → k W' → Q H') → tUSet X vo vi vv H Q
theorem bg_sub {o i : Expr} {pos : Pos} {e : El} {k : Sl → Wl → Prop} (h : BE X S W o fun x W1 => BE X S W1 i fun y W2 => SB X x y e W2 fun W3 => k S W3)
    (ha : ∀ v, assign (.Subscript o i pos) X.env v = (do
      let ov ← holding [v] (eval o X.env)
      let iv ← holding [v, ov] (eval i X.env)
      standAt pos
      holding [v, ov, iv] (setItem ov iv v)
      release [v, ov, iv] []) := by intro _; rfl) : BG X S W (.Subscript o i pos) e k :=
  fun F A σ H v Q x0 r sr z q => ⟨_, pg_sub pe_U pe_U pset_U ha, h.use x0 r sr fun F1 A1 W1 H1 x vx e1 r1 z1 h1 => h1.use (x0.trans e1) r1 (sr.ext e1) fun F2 A2 W2 H2 y vy e2 r2 z2 h2 =>
    h2 F2 A2 H2 vx vy v _ r2 (z1.ext e2) z2 (z.ext (e1.trans e2)) fun F3 A3 W3 H3 e3 r3 h3 => q F3 A3 W3 H3 S σ ((e1.trans e2).trans e3) r3 (sr.ext ((e1.trans e2).trans e3)) h3⟩
theorem sb_lst {j : Nat} {es : List El} {i : Int} {m : Nat} {v : El} {k : Wl → Prop} (hj : W[j]? = some (.lst es)) (hi : ixN es.length i = some m) (h : k (W.set j (.lst (es.set m v)))) : SB X (.o j) (.d (.int i)) v W k :=
  fun F A H vo vi vv Q r zo zi zv q => by
    obtain ⟨a, ws, rfl, ha, hH, p⟩ := r.at zo hj
    obtain rfl := Rq.of_int zi
    exact ⟨_, set_list, a, ws, i, m, rfl, rfl, hH, by rw [← pd_len p]; exact hi, q F A _ _ .refl (r.put ha (o := .lst (es.set m v)) ⟨_, rfl, pd_set zv m p⟩) h⟩
/-- x += e -/
noncomputable def tUIp (X : Bc) (op : Operator) : TIp := fun x y H Q => ∃ t, PIp X op t ∧ t x y H Q
theorem pip_U {op : Operator} : PIp X op (tUIp X op) := fun pins s σ H x y v u Q I r1 r2 ⟨t, h, q⟩ => h pins s σ H x y v u Q I r1 r2 q
noncomputable def UB (X : Bc) (op : Operator) (x y : El) (W : Wl) (k : KB) : Prop := ∀ F A H vx vy Q, RW X.K F A W H → ElR X.K F A x vx → ElR X.K F A y vy → Post X.K F A k Q → tUIp X op vx vy H Q
theorem bs_aug {i : Nat} {x : Str} {e : Expr} {op : Operator} {pos pos' : Pos} {a : El} (hN : X.N.Nodup) (hi : X.N[i]? = some x) (hx : Loc X.env.scope x) (hs : S[i]? = some (some a)) (h : BE X S W e fun y W1 => UB X op a y W1 fun z W2 => D.nx (S.set i (some z)) W2)
    (hf : X.fn x = true ∨ X.env.scope.names.lookup x = some .local := by first | exact .inl rfl | exact .inr rfl | assumption) : BS X n S W (.AugAssign (.Name x pos') op e pos) D :=
  .of (ps_aug hN hi hx pe_U pip_U hf) fun F A σ H E hn x0 r sr q => by
    obtain ⟨v, h1, h2⟩ := sr.get i a hs
    exact ⟨v, h1, h.use x0.am r sr fun F1 A1 W1 H1 y vy e1 r1 z1 h1 => h1 F1 A1 H1 v vy _ r1 (h2.ext e1) z1 fun F2 A2 W2 H2 z vz e2 r2 z2 h3 => q.nx F2 A2 W2 H2 _ _ ((e1.trans e2).ex1 hn) r2 ((sr.ext (e1.trans e2)).set z2 i) h3⟩
theorem ub_add {i j : Int} {k : KB} (h : k (.d (.int (i + j))) W) : UB X .Add (.d (.int i)) (.d (.int j)) W k := fun F A H vx vy Q r zx zy q => by
  obtain rfl := Rq.of_int zx
  obtain rfl := Rq.of_int zy
  exact ⟨_, ip_add, i, j, rfl, rfl, q.same r (.dd (Rq.int _)) h⟩
noncomputable def El.below (m : Nat) : El → Prop
  | .d _ => True
  | .s _ => True
  | .x _ => True
  | .p _ => True
  | .o k => k < m
noncomputable def OD.below (m : Nat) : OD → Prop
  | .lst es => ∀ e ∈ es, e.below m
  | .dK kvs => ∀ p ∈ kvs, p.2.below m
  | .dT kvs => ∀ p ∈ kvs, p.2.below m
theorem ElR.drop {K : PySem.W.Frag} {F : Hp} {A : List Addr} {m : Nat} : ∀ {e : El} {v : V}, e.below m → ElR K F A e v → ElR K F (A.take m) e v
  | .d _, _, _, z => z
  | .s _, _, _, z => z
  | .x _, _, _, z => z
  | .p _, _, _, z => z
  | .o k, _, h, ⟨a, e, r⟩ => ⟨a, by rw [List.getElem?_take_of_lt h]; exact e, r⟩
theorem pd_mem {α β : Type} {F G : α → β → Prop} : ∀ {l : List α} {m : List β}, Paired F l m → (∀ a ∈ l, ∀ b, F a b → G a b) → Paired G l m
  | _, _, .nil, _ => .nil
  | _, _, .cons r t, h => .cons (h _ List.mem_cons_self _ r) (pd_mem t fun a ha => h a (List.mem_cons_of_mem _ ha))
theorem OdR.drop {K : PySem.W.Frag} {F : Hp} {A : List Addr} {m : Nat} : ∀ {o : OD} {h : HO}, o.below m → OdR K F A o h → OdR K F (A.take m) o h
  | .lst es, _, hb, ⟨vs, e, p⟩ => ⟨vs, e, pd_mem p fun a ha b z => z.drop (hb a ha)⟩
  | .dK es, _, hb, ⟨vs, e, p⟩ => ⟨vs, e, pd_mem p fun a ha b z => ⟨z.1, z.2.drop (hb a ha)⟩⟩
  | .dT es, _, hb, ⟨vs, e, p⟩ => ⟨vs, e, pd_mem p fun a ha b z => ⟨z.1, z.2.drop (hb a ha)⟩⟩
theorem RW.drop {K : PySem.W.Frag} {F : Hp} {A : List Addr} {W : Wl} {H : Hp} (r : RW K F A W H) {m : Nat} (h : ∀ o ∈ W.take m, o.below m) : RW K F (A.take m) (W.take m) H := by
  refine ⟨r.sub, by simp [r.len], r.nd.sublist (List.take_sublist _ _), fun a ha => r.out a (List.mem_of_mem_take ha), fun k a o hk ho => ?_⟩
  have hm : k < m := by
    have := (List.getElem?_eq_some_iff.mp hk).1
    simp at this
    omega
  have ho' := ho
  rw [List.getElem?_take_of_lt hm] at hk ho
  obtain ⟨u, e, q⟩ := r.obj k a o hk ho
  exact ⟨u, e, q.drop (h o (List.mem_of_getElem? ho'))⟩
end
end L2
namespace L2
open PySem PySem.Spec PyProof.Rows
theorem Ex1.le {m n : Nat} {F F' : Hp} {A A' : List Addr} (hm : m ≤ n) (x : Ex1 n F A F' A') : Ex1 m F A F' A' := ⟨x.same, by
  have : A.take m = (A.take n).take m := by rw [List.take_take, Nat.min_eq_left hm]
  rw [this]
  exact (List.take_prefix _ _).trans x.pre, Nat.le_trans hm x.len⟩
structure Walks (K : PySem.W.Frag) (m : Nat) (F1 : Hp) (A1 : List Addr) (G : Wl → Prop) (J : It) (ds : List PyData) : Prop where
  go : ∀ i F' A' W' H', i < ds.length → Ex1 m F1 A1 F' A' → RW K F' A' W' H' → G W' → J.go i H'
  yld : ∀ i F' A' W' H' x H'', i < ds.length → Ex1 m F1 A1 F' A' → RW K F' A' W' H' → G W' → J.yld i H' x H'' → H'' = H' ∧ ∃ d, ds[i]? = some d ∧ Rq K F' x d
  stop : ∀ F' A' W' H', Ex1 m F1 A1 F' A' → RW K F' A' W' H' → G W' → J.stop ds.length H'
noncomputable def tUI (X : Bc) (tg iter : Expr) : TI := fun σ H R => ∃ t, PI X tg iter t ∧ t σ H R
theorem pi_U {X : Bc} {tg iter : Expr} : PI X tg iter (tUI X tg iter) := fun pins s σ H R I ⟨t, h, q⟩ => h pins s σ H R I q
noncomputable def BI (X : Bc) (S : Sl) (W : Wl) (tg iter : Expr) (k : Nat → (Wl → Prop) → List PyData → Wl → Prop) : Prop := ∀ F A σ H (R : It → Hp → Prop), X.Am F A → RW X.K F A W H → SR X.K F A S σ →
  (∀ m G F1 A1 W1 H1 ds J, Ext F A F1 A1 → RW X.K F1 A1 W1 H1 → m ≤ A1.length → Walks X.K m F1 A1 G J ds → k m G ds W1 → R J H1) → tUI X tg iter σ H R
noncomputable abbrev GT : Wl → Prop := fun _ => True
section
variable {X : Bc} {n : Nat} {S : Sl} {W : Wl} {D : DB} {tg : Expr} {ki : Nat → (Wl → Prop) → List PyData → Wl → Prop}
noncomputable def rangeD (lo : Int) (n : Nat) : List PyData := (List.range n).map fun (i : Nat) => .int (lo + (i : Int))
theorem rangeD_get {lo : Int} {n i : Nat} (h : i < n) : (rangeD lo n)[i]? = some (.int (lo + i)) := by unfold rangeD; simp [h]
theorem walks_range {K : PySem.W.Frag} {F1 : Hp} {A1 : List Addr} {lo : Int} {n : Nat} : Walks K 0 F1 A1 GT (Itr lo n) (rangeD lo n) := by
  have hl : (rangeD lo n).length = n := by unfold rangeD; simp
  refine ⟨fun i F' A' W' H' hi _ _ _ => by rw [hl] at hi; exact hi, fun i F' A' W' H' y H'' hi x r' _ hy => ?_, fun F' A' W' H' x r' _ => by rw [hl]; exact Nat.le_refl _⟩
  rw [hl] at hi
  obtain ⟨e, rfl⟩ := hy
  exact ⟨e, _, rangeD_get hi, .int _⟩
theorem bi_range1 {a : Expr} {p pos : Pos} (hg : Gl X "range") (hm : X.mg "range" = none) (h : BE X S W a fun y W1 => ∃ j : Int, y = .d (.int j) ∧ -(2 ^ 62) ≤ j ∧ j < 2 ^ 62 ∧ ki 0 GT (rangeD 0 j.toNat) W1) (hs : starEach [a] X.env = [(false, eval a X.env)] := by rfl) : BI X S W tg (.Call (.Name "range" p) [a] [] pos) ki := fun F A σ H R x0 r sr q =>
  ⟨_, pi_range1 hg hm (pa_cons pe_U pa_nil hs) hs, h.use x0 r sr fun F1 A1 W1 H1 y vy e1 r1 z1 ⟨j, hy, h2, h3, h4⟩ => by
    subst hy
    obtain rfl := Rq.of_int z1
    exact ⟨j, rfl, h2, h3, q 0 GT F1 A1 W1 H1 _ _ e1 r1 (Nat.zero_le _) walks_range h4⟩⟩
noncomputable def signsD (x : Str) : List PyData := x.cps.toList.map fun c => .str ⟨#[c]⟩
end
end L2
namespace L2
open PySem PySem.Spec PyProof.Rows
section
variable {X : Bc} {n : Nat} {S : Sl} {W : Wl} {D : DB} {k : KB} {tg iter elt : Expr} {ifs : List Expr} {O Fv : List Str} {cap : List Nat} {scope : Scope} {pos : Pos}
noncomputable abbrev cxB (X : Bc) (N : List Str) (scope : Scope) (cl : List (Str × Addr)) (C : Addr) (ex : List Addr) (s : Shared) (H : Hp) : Bc := { X with toCx := cxComp X.toCx N scope cl C ex s H }
noncomputable def tUGc (X : Bc) (N : List Str) (scope : Scope) (m : Nat) (tg : Expr) : TG := fun v σ H Q => ∃ t, (∀ cl C ex s H, PG (cxComp X N scope cl C ex s H) tg t) ∧ Own m t ∧ t v σ H Q
noncomputable def tUTc (X : Bc) (N : List Str) (scope : Scope) (ifs : List Expr) : TT := fun σ H Q => ∃ t, (∀ cl C ex s H, PTs (cxComp X N scope cl C ex s H) ifs t) ∧ t σ H Q
noncomputable def tUEc (X : Bc) (N : List Str) (scope : Scope) (e : Expr) : TE := fun σ H Q => ∃ t, (∀ cl C ex s H, PE (cxComp X N scope cl C ex s H) e t) ∧ t σ H Q
theorem own_U {N : List Str} {m : Nat} : Own m (tUGc X N scope m tg) := fun x σ H Q ⟨t, h, o, q⟩ => ⟨t, h, o, o x σ H Q q⟩
noncomputable def BEc (X : Bc) (N : List Str) (scope : Scope) (S : Sl) (W : Wl) (e : Expr) (k : KB) : Prop := ∀ cl C ex s H, BE (cxB X N scope cl C ex s H) S W e k
noncomputable def BTc (X : Bc) (N : List Str) (scope : Scope) (S : Sl) (W : Wl) (ifs : List Expr) (k : TB) : Prop := ∀ F A σ H (Q : Bool → Hp → Prop), X.Am F A → RW X.K F A W H → SR X.K F A S σ → (∀ F' A' W' H' b, Ext F A F' A' → RW X.K F' A' W' H' → k b W' → Q b H') → tUTc X N scope ifs σ H Q
noncomputable def BGc (X : Bc) (N : List Str) (scope : Scope) (m : Nat) (S : Sl) (W : Wl) (tg : Expr) (e : El) (k : Sl → Wl → Prop) : Prop := ∀ F A σ H v (Q : St → Hp → Prop), RW X.K F A W H → SR X.K F A S σ → ElR X.K F A e v →
  (∀ S' σ', SR X.K F A S' σ' → k S' W → Q σ' H) → tUGc X N scope m tg v σ H Q
theorem btc_nil {N : List Str} {k : TB} (h : k true W) : BTc X N scope S W [] k := fun F A σ H Q x0 r sr q => ⟨_, fun _ _ _ _ _ => pts_nil, q F A W H true .refl r h⟩
theorem btc_one {N : List Str} {c : Expr} {k : TB} (h : ∀ cl C ex s H, BT (cxB X N scope cl C ex s H) S W c k) : BTc X N scope S W [c] k := fun F A σ H Q x0 r sr q => ⟨tDT X S W k, fun cl C ex s H => pts_one (show PT _ c (tDT X S W k) from h cl C ex s H), F, A, x0, r, sr, q⟩
theorem bgc_name {N : List Str} {m i : Nat} {x : Str} {p : Pos} {e : El} {k : Sl → Wl → Prop} (hN : N.Nodup) (hi : N[i]? = some x) (hm : i < m) (hx : ∀ cl C ex s H, Loc (cxComp X N scope cl C ex s H).env.scope x)
    (hf : ∀ cl C ex s H, (cxComp X N scope cl C ex s H).env.scope.names.lookup x = some .local) (h : k (S.set i (some e)) W) : BGc X N scope m S W (.Name x p) e k := fun F A σ H v Q r sr z q =>
  ⟨gName i, fun cl C ex s H => pg_name hN hi (hx cl C ex s H) (.inr (hf cl C ex s H)), own_name hm, q _ _ (sr.set z i) h⟩
/-- the names of a tuple target, in a comprehension -/
theorem own_nms {m : Nat} : ∀ {is : List Nat}, (∀ i ∈ is, i < m) → OwnS m (gNms is) ∧ ∀ x σ H (Q Q' : St → Hp → Prop), (∀ σ H, Q σ H → Q' σ H) → gNms is x σ H Q → gNms is x σ H Q'
  | [], _ => ⟨own_nil, mono_nil⟩
  | i :: is, h => by
    obtain ⟨a, b⟩ := own_nms (is := is) fun j hj => h j (List.mem_cons_of_mem _ hj)
    exact ⟨own_cons (h i List.mem_cons_self) a b, mono_cons b⟩
theorem bgc_tup {N : List Str} {m : Nat} {es : List Expr} {is : List Nat} {c : Nat} {p : Pos} {ds : List PyData} {k : Sl → Wl → Prop} (hc : X.calm = true) (hm : ∀ cl C ex s H, Nms (cxB X N scope cl C ex s H) es is) (hi : ∀ i ∈ is, i < m) (hl : is.length = ds.length) (h : k (setAll S is (datas ds)) W)
    (hn : ∀ cl C ex s H, (assignEach es (cxComp X N scope cl C ex s H).env).length = is.length := by intro _ _ _ _ _; rfl) (hst : ∀ cl C ex s H, (assignEach es (cxComp X N scope cl C ex s H).env).findIdx? (·.1) = none := by intro _ _ _ _ _; rfl) : BGc X N scope m S W (.Tuple es c p) (.d (.tuple ds)) k := fun F A σ H v Q r sr z q => by
    obtain ⟨a, vs, rfl, hs, pp⟩ := Rq.of_tup z
    exact ⟨gTup X.K is.length (gNms is), fun cl C ex s H => pg_tup hc (hm cl C ex s H).pgs (hn cl C ex s H) (hst cl C ex s H), own_tup (own_nms hi).1, a, vs, rfl, r.sub.seqT hs, by rw [← pd_len pp, hl], gNms_set (by rw [hl, pd_len pp]) (q _ _ (sr.setAll (pd_datas' pp)) h)⟩
/-- the slots at a turn's start -/
noncomputable def cmpS (O : List Str) (cap : List Nat) (S : Sl) : Sl := O.map (fun _ => none) ++ cap.map (fun j => (S[j]?).getD none)
theorem SR.cmp {K : PySem.W.Frag} {F : Hp} {A : List Addr} {σ : St} (r : SR K F A S σ) : SR K F A (cmpS O cap S) (cmpSt O cap σ) := by
  refine ⟨by simp [cmpS, cmpSt], fun i e h => ?_⟩
  unfold cmpS at h
  unfold cmpSt
  by_cases hi : i < O.length
  · rw [List.getElem?_append_left (by simpa using hi)] at h
    simp [hi] at h
  · rw [List.getElem?_append_right (by simpa using hi)] at h
    rw [List.getElem?_append_right (by simpa using hi)]
    simp only [List.length_map, List.getElem?_map] at h ⊢
    cases hj : cap[i - O.length]? with
    | none => rw [hj] at h; cases h
    | some j =>
      rw [hj] at h
      simp only [Option.map_some, Option.some.injEq] at h
      cases hs : S[j]? with
      | none => rw [hs] at h; cases h
      | some o =>
        rw [hs] at h
        simp only [Option.getD_some] at h
        subst h
        obtain ⟨v, h1, h2⟩ := r.get j e hs
        exact ⟨v, by simp [h1], h2⟩
noncomputable abbrev KC (X : Bc) (O Fv : List Str) (cap : List Nat) (scope : Scope) (S : Sl) (tg elt : Expr) (ifs : List Expr) (k : List PyData → Wl → Prop) : Nat → (Wl → Prop) → List PyData → Wl → Prop := fun m G ds W1 => ∃ P : Nat → List PyData → Wl → Prop,
  P 0 [] W1 ∧ (∀ i ys W', i ≤ ds.length → P i ys W' → G W' ∧ ys.length ≤ sizeLine) ∧
    (∀ i d ys W', ds[i]? = some d → P i ys W' → BGc X (O ++ Fv) scope O.length (cmpS O cap S) W' tg (.d d) fun S2 W2 => BTc X (O ++ Fv) scope S2 W2 ifs fun b W3 =>
      if b = true then BEc X (O ++ Fv) scope S2 W3 elt fun y W4 => ∃ dy, y = .d dy ∧ P (i + 1) (ys ++ [dy]) W4 else P (i + 1) ys W3) ∧
    ∀ ys W', P ds.length ys W' → k ys W'
theorem comp_read {F : Hp} {A : List Addr} {σ : St} {H : Hp} {Q : VK} {k : List PyData → Wl → Prop} (h : BI X S W tg iter (KC X O Fv cap scope S tg elt ifs k)) (x0 : X.Am F A) (r : RW X.K F A W H) (sr : SR X.K F A S σ)
    (q : ∀ F' A' W' H' ys vs p, Ext F A F' A' → RW X.K F' A' W' H' → Paired (fun d v => Rq X.K F' v d) ys vs → H' p = none → k ys W' → Q (.ref p) (upd H' p (.lst vs))) :
    tComp (tUI X tg iter) O cap (tUGc X (O ++ Fv) scope O.length tg) (tUTc X (O ++ Fv) scope ifs) (tUEc X (O ++ Fv) scope elt) σ H Q :=
  h F A σ H _ x0 r sr fun m G F1 A1 W1 H1 ds J e1 r1 hm1 wk ⟨P, p0, hG, hs, hd⟩ => by
    refine ⟨fun i μ ys H' => μ = ds.length - i ∧ i ≤ ds.length ∧ ∃ F' A' W' yd, Ext F1 A1 F' A' ∧ RW X.K F' A' W' H' ∧ Paired (fun d v => Rq X.K F' v d) yd ys ∧ P i yd W', ⟨ds.length, by simp, Nat.zero_le _, F1, A1, W1, [], .refl, r1, .nil, p0⟩, ?_⟩
    rintro i μ ys H' ⟨rfl, hi, F', A', W', yd, x, r', z', p⟩
    obtain ⟨g, hz⟩ := hG i yd W' hi p
    refine ⟨by rw [← pd_len z']; exact hz, ?_⟩
    by_cases hlt : i < ds.length
    · refine .inr ⟨wk.go i F' A' W' H' hlt (x.ex1 hm1) r' g, fun ys2 H2 => ∃ F2 A2 W2 yd2, Ext F1 A1 F2 A2 ∧ RW X.K F2 A2 W2 H2 ∧ Paired (fun d v => Rq X.K F2 v d) yd2 ys2 ∧ P (i + 1) yd2 W2, fun ys2 H2 p2 => ⟨ds.length - (i + 1), by omega, rfl, hlt, p2⟩, fun v H'' hy => ?_⟩
      obtain ⟨rfl, d, hd', zd⟩ := wk.yld i F' A' W' H' v H'' hlt (x.ex1 hm1) r' g hy
      have srx := sr.ext (e1.trans x)
      refine hs i d yd W' hd' p F' A' (cmpSt O cap σ) H'' v _ r' srx.cmp zd fun S2 σ2 sr2 h2 => ?_
      refine h2 F' A' σ2 H'' _ (x0.trans (e1.trans x)) r' sr2 fun F3 A3 W3 H3 b e3 r3 h3 => ?_
      cases b with
      | true =>
        rw [if_pos rfl] at h3 ⊢
        refine ⟨tD X S2 W3 _, fun cl C ex s H => h3 cl C ex s H, F3, A3, (x0.trans (e1.trans x)).trans e3, r3, sr2.ext e3, fun F4 A4 W4 H4 y vy e4 r4 z4 ⟨dy, hy, h4⟩ => ?_⟩
        subst hy
        exact ⟨F4, A4, W4, yd ++ [dy], (x.trans e3).trans e4, r4, pd_app (pd_imp (fun _ _ t => Rq.same (e3.trans e4).same _ t) z') (.cons z4 .nil), h4⟩
      | false =>
        rw [if_neg (by decide)] at h3 ⊢
        exact ⟨F3, A3, W3, yd, x.trans e3, r3, pd_imp (fun _ _ t => Rq.same e3.same _ t) z', h3⟩
    · have hie : i = ds.length := by omega
      subst hie
      exact .inl ⟨wk.stop F' A' W' H' (x.ex1 hm1) r' g, fun l hl => q F' A' W' H' yd ys l (e1.trans x) r' z' hl (hd yd W' p)⟩
/-- [elt for tg in iter if ..], of data -/
theorem be_comp (hc : X.calm = true) (cs : CmpScope X.N X.env.scope O Fv cap scope) (h : BI X S W tg iter (KC X O Fv cap scope S tg elt ifs fun ys W' => k (.d (.list ys)) W'))
    (hs : ∀ x, foldedSetIterable iter X.env x = pure x := by intro _; rfl) : BE X S W (.ListComp elt [⟨tg, iter, ifs, 0⟩] scope pos) k :=
  .of (pe_comp (g := tUGc X (O ++ Fv) scope O.length tg) (tt := tUTc X (O ++ Fv) scope ifs) (te := tUEc X (O ++ Fv) scope elt) hc cs pi_U (fun cl C ex s H => fun pins s' σ' H' v u Q I r ⟨t, h, _, q⟩ => h cl C ex s H pins s' σ' H' v u Q I r q) (fun cl C ex s H => fun pins s' σ' H' Q I ⟨t, h, q⟩ => h cl C ex s H pins s' σ' H' Q I q)
    (fun cl C ex s H => fun pins s' σ' H' Q I ⟨t, h, q⟩ => h cl C ex s H pins s' σ' H' Q I q) own_U hs) fun F A σ H Q x0 r sr q => comp_read h x0 r sr fun F' A' W' H' ys vs p x r' z hp hk => (q.ext x).newL r' hp z hk
/-- the list made is changed later -/
theorem be_compO (hc : X.calm = true) (cs : CmpScope X.N X.env.scope O Fv cap scope) (h : BI X S W tg iter (KC X O Fv cap scope S tg elt ifs fun ys W' => k (.o W'.length) (W' ++ [.lst (datas ys)])))
    (hs : ∀ x, foldedSetIterable iter X.env x = pure x := by intro _; rfl) : BE X S W (.ListComp elt [⟨tg, iter, ifs, 0⟩] scope pos) k :=
  .of (pe_comp (g := tUGc X (O ++ Fv) scope O.length tg) (tt := tUTc X (O ++ Fv) scope ifs) (te := tUEc X (O ++ Fv) scope elt) hc cs pi_U (fun cl C ex s H => fun pins s' σ' H' v u Q I r ⟨t, h, _, q⟩ => h cl C ex s H pins s' σ' H' v u Q I r q) (fun cl C ex s H => fun pins s' σ' H' Q I ⟨t, h, q⟩ => h cl C ex s H pins s' σ' H' Q I q)
    (fun cl C ex s H => fun pins s' σ' H' Q I ⟨t, h, q⟩ => h cl C ex s H pins s' σ' H' Q I q) own_U hs) fun F A σ H Q x0 r sr q => comp_read h x0 r sr fun F' A' W' H' ys vs p x r' z hp hk => (q.ext x).newO r' hp (o := .lst (datas ys)) ⟨vs, rfl, pd_datas' z⟩ hk
/-- x = [elt for ..] -/
theorem bs_setc {i : Nat} {x : Str} {pos' spos : Pos} (hN : X.N.Nodup) (hix : X.N[i]? = some x) (hx : Loc X.env.scope x) (hc : X.calm = true) (cs : CmpScope X.N X.env.scope O Fv cap scope) (h : BI X S W tg iter (KC X O Fv cap scope S tg elt ifs fun ys W' => D.nx (S.set i (some (.d (.list ys)))) W'))
    (hsw : swapsWith (.ListComp elt [⟨tg, iter, ifs, 0⟩] scope pos) (some (.Name x pos')) spos.line X.env = pure true := by rfl) (hs : ∀ x, foldedSetIterable iter X.env x = pure x := by intro _; rfl)
    (hf : X.fn x = true ∨ X.env.scope.names.lookup x = some .local := by first | exact .inl rfl | exact .inr rfl | assumption) : BS X n S W (.Assign [.Name x pos'] (.ListComp elt [⟨tg, iter, ifs, 0⟩] scope pos) spos) D :=
  .of (ps_setc (g := tUGc X (O ++ Fv) scope O.length tg) (tt := tUTc X (O ++ Fv) scope ifs) (te := tUEc X (O ++ Fv) scope elt) hN hix hx hc cs pi_U (fun cl C ex s H => fun pins s' σ' H' v u Q I r ⟨t, h, _, q⟩ => h cl C ex s H pins s' σ' H' v u Q I r q) (fun cl C ex s H => fun pins s' σ' H' Q I ⟨t, h, q⟩ => h cl C ex s H pins s' σ' H' Q I q)
    (fun cl C ex s H => fun pins s' σ' H' Q I ⟨t, h, q⟩ => h cl C ex s H pins s' σ' H' Q I q) own_U hsw hs hf) fun F A σ H E hn x0 r sr q => comp_read h x0.am r sr fun F' A' W' H' ys vs p x r' z hp hk => by
      obtain ⟨r2, y⟩ := r'.newF hp (.lst vs)
      exact q.nx _ _ _ _ _ _ ((x.trans y).ex1 hn) r2 ((sr.ext (x.trans y)).set (.dd (Rq.lst (.inl upd_same) (Rqs.of (pd_imp (fun _ _ t => Rq.same y.same _ t) z)))) i) hk
end
noncomputable def startS (N : List Str) (es : List El) : Sl := es.map some ++ List.replicate (N.length - es.length) none
theorem SR.start {K : PySem.W.Frag} {F : Hp} {A : List Addr} {N : List Str} {es : List El} {vs : List V} (p : Paired (ElR K F A) es vs) : SR K F A (startS N es) (start N vs) := by
  have hl := pd_len p
  refine ⟨by simp [startS, L2.start, hl], fun i e h => ?_⟩
  unfold startS at h
  unfold L2.start
  by_cases hi : i < es.length
  · rw [List.getElem?_append_left (by simpa using hi), List.getElem?_map] at h
    rw [List.getElem?_append_left (by rw [List.length_map, ← hl]; exact hi), List.getElem?_map]
    cases q : es[i]? with
    | none => rw [q] at h; cases h
    | some e' =>
      rw [q] at h
      cases h
      obtain ⟨v, h1, h2⟩ := pd_get p q
      exact ⟨v, by rw [h1]; rfl, h2⟩
  · rw [List.getElem?_append_right (by simpa using hi), List.getElem?_replicate] at h
    split at h <;> cases h
/-- what stands in the objects are objects, too -/
noncomputable def closed (W : Wl) : Prop := ∀ o ∈ W, o.below W.length
theorem RW.closed {K : PySem.W.Frag} {F : Hp} {A : List Addr} {W : Wl} {H : Hp} (r : RW K F A W H) : closed W := fun o ho => by
  have el : ∀ {e : El} {v : V}, ElR K F A e v → e.below W.length := fun {e v} z => by
    cases e with
    | d x => trivial
    | s ns => trivial
    | x C => trivial
    | p ks => trivial
    | o k =>
      obtain ⟨a, ha, _⟩ := z
      show k < W.length
      rw [← r.len]
      exact (List.getElem?_eq_some_iff.mp ha).1
  obtain ⟨k, hk⟩ := List.mem_iff_getElem?.mp ho
  have hl : k < A.length := by rw [r.len]; exact (List.getElem?_eq_some_iff.mp hk).1
  obtain ⟨u, _, q⟩ := r.obj k A[k] o (by simp [hl]) hk
  cases o with
  | lst es =>
    obtain ⟨vs, _, p⟩ := q
    intro e he
    obtain ⟨i, hi⟩ := List.mem_iff_getElem?.mp he
    obtain ⟨v, _, z⟩ := pd_get p hi
    exact el z
  | dK es =>
    obtain ⟨vs, _, p⟩ := q
    intro e he
    obtain ⟨i, hi⟩ := List.mem_iff_getElem?.mp he
    obtain ⟨v, _, z⟩ := pd_get p hi
    exact el z.2
  | dT es =>
    obtain ⟨vs, _, p⟩ := q
    intro e he
    obtain ⟨i, hi⟩ := List.mem_iff_getElem?.mp he
    obtain ⟨v, _, z⟩ := pd_get p hi
    exact el z.2
section
variable {X : Bc} {n : Nat} {S : Sl} {W : Wl} {D : DB}
end
end L2
namespace L2
open PySem PySem.Spec PyProof.Rows
section
variable {X : Bc} {n : Nat} {S : Sl} {W : Wl} {k : KB} {D : DB}
/-- a chain of comparisons -/
theorem bt_chain {a b c : Expr} {op op' : CmpOp} {pos : Pos} {k : TB}
    (h : BE X S W a fun x W1 => BE X S W1 b fun y W2 => OB X (compareOp op) x y W2 fun z W3 => ∃ t, z = .d (.bool t) ∧ if t = true then BE X S W3 c fun u W4 => OB X (compareOp op') y u W4 fun z W5 => ∃ t, z = .d (.bool t) ∧ k t W5 else k false W3)
    (hm : lastMarks [op, op'] [b, c] = false := by with_unfolding_all rfl) : BT X S W (.Compare a [op, op'] [b, c] pos) k :=
  .of (pt_chain op_U op_U pe_U pe_U pe_U hm) fun F A σ H Q x0 r sr q =>
    h.use x0 r sr fun F1 A1 W1 H1 x vx e1 r1 z1 h1 => h1.use (x0.trans e1) r1 (sr.ext e1) fun F2 A2 W2 H2 y vy e2 r2 z2 h2 => h2 F2 A2 H2 _ vx vy r2 (z1.ext e2) z2 fun F3 A3 W3 H3 z vz e3 r3 z3 ⟨t, ht, h3⟩ => by
      subst ht
      obtain rfl := Rq.of_bl z3
      refine ⟨t, rfl, ?_⟩
      have x3 := (e1.trans e2).trans e3
      cases t with
      | true =>
        rw [if_pos rfl] at h3 ⊢
        exact h3.use (x0.trans x3) r3 (sr.ext x3) fun F4 A4 W4 H4 u vu e4 r4 z4 h4 => h4 F4 A4 H4 _ vy vu r4 (z2.ext (e3.trans e4)) z4 fun F5 A5 W5 H5 z vz e5 r5 z5 ⟨t, ht, h5⟩ => by
          subst ht
          obtain rfl := Rq.of_bl z5
          exact ⟨t, rfl, q F5 A5 W5 H5 t ((x3.trans e4).trans e5) r5 h5⟩
      | false =>
        rw [if_neg (by decide)] at h3 ⊢
        exact ⟨false, rfl, q F3 A3 W3 H3 false x3 r3 h3⟩
theorem be_chain {a b c : Expr} {op op' : CmpOp} {pos : Pos}
    (h : BE X S W a fun x W1 => BE X S W1 b fun y W2 => OB X (compareOp op) x y W2 fun z W3 => ∃ t, z = .d (.bool t) ∧ if t = true then BE X S W3 c fun u W4 => OB X (compareOp op') y u W4 k else k (.d (.bool false)) W3)
    (hm : lastMarks [op, op'] [b, c] = false := by with_unfolding_all rfl) : BE X S W (.Compare a [op, op'] [b, c] pos) k :=
  .of (pe_chain op_U op_U pe_U pe_U pe_U hm) fun F A σ H Q x0 r sr q =>
    h.use x0 r sr fun F1 A1 W1 H1 x vx e1 r1 z1 h1 => h1.use (x0.trans e1) r1 (sr.ext e1) fun F2 A2 W2 H2 y vy e2 r2 z2 h2 => h2 F2 A2 H2 _ vx vy r2 (z1.ext e2) z2 fun F3 A3 W3 H3 z vz e3 r3 z3 ⟨t, ht, h3⟩ => by
      subst ht
      obtain rfl := Rq.of_bl z3
      refine ⟨t, rfl, ?_⟩
      have x3 := (e1.trans e2).trans e3
      cases t with
      | true =>
        rw [if_pos rfl] at h3 ⊢
        exact h3.use (x0.trans x3) r3 (sr.ext x3) fun F4 A4 W4 H4 u vu e4 r4 z4 h4 => h4 F4 A4 H4 _ vy vu r4 (z2.ext (e3.trans e4)) z4 (q.ext (x3.trans e4))
      | false =>
        rw [if_neg (by decide)] at h3 ⊢
        exact q F3 A3 W3 H3 _ _ x3 r3 (.dd (Rq.bl false)) h3
theorem ip_extR : PIp X .Add (fun x y H Q => ∃ l b xs zs, x = .ref l ∧ y = .ref b ∧ H l = some (.lst xs) ∧ Rd H b (.lst zs) ∧ xs.length + zs.length ≤ sizeLine ∧ Q (.ref l) (upd H l (.lst (xs ++ zs)))) := by
  intro pins s σ H x y v u Q I rx ry h
  obtain ⟨l, b, xs, zs, rfl, rfl, hH, hB, hz, q⟩ := h
  cases rx
  cases ry
  obtain ⟨z, its, n, r, hl, e⟩ := I.lstM hH
  obtain ⟨z2, its2, n2, r2, e2⟩ := hB.ok I.hok
  have hl2 := r2.length
  have hsz : its.toArray.size + its2.toArray.size ≤ sizeLine := by rw [List.size_toArray, List.size_toArray]; omega
  have hlong : ¬ (!its.toArray.isEmpty && Builtin.List.listTooLong (its.toArray.size + its2.toArray.size)) = true := by
    rw [notLongL hsz, Bool.and_false]
    exact Bool.false_ne_true
  refine iadd_lists ⟨_, e, rfl⟩ ⟨_, e2, rfl⟩ ?_
  refine call_meets F.slot_list_iadd ⟨_, e, rfl⟩ F.entry_list_iadd (F.args_list_iadd_2 _ _)
    (AutoSeq1.list___iadd___list_list_0 l its.toArray n b its2.toArray n2 hlong (by rw [List.size_toArray]; omega) (by omega)) ⟨e, e2, ?_⟩
  refine ⟨.ref l, _, I.lset (its' := its ++ its2) hH e (by simp) (r.append r2) ?_, rfl, q⟩
  rw [List.length_append]
  omega
/-- x += ys of lists -/
theorem ub_ext {j : Nat} {es : List El} {y : El} {ds : List PyData} {k : KB} (hj : W[j]? = some (.lst es)) (hy : y = .d (.list ds)) (hl : es.length + ds.length ≤ sizeLine) (h : k (.o j) (W.set j (.lst (es ++ datas ds)))) : UB X .Add (.o j) y W k := fun F A H vx vy Q r zx zy q => by
  subst hy
  obtain ⟨a, ws, rfl, ha, hH, p⟩ := r.at zx hj
  obtain ⟨b, vs, rfl, hs, z⟩ := Rq.of_lst zy
  exact ⟨_, ip_extR, a, b, ws, vs, rfl, rfl, hH, r.sub.rd hs, by rw [← pd_len p, ← pd_len z]; exact hl, q.put r ha (o := .lst (es ++ datas ds)) ⟨_, rfl, pd_app p (pd_datas' z)⟩ zx h⟩
/-- the truth of a thing -/
noncomputable def truD : PyData → Bool
  | .none => false | .bool b => b | .int i => i != 0 | .str y => (y.length : Int) != 0 | .list xs => !xs.isEmpty | .tuple xs => !xs.isEmpty | .dict xs => !xs.isEmpty
theorem bt_tru {e : Expr} {k : TB} (h : BE X S W e fun x W1 => ∃ d, dat W1 x d ∧ (∀ y, d = .str y → y.length ≤ sizeLine) ∧ k (truD d) W1) (he : ∀ whole, isTrue e X.env whole = (do let v ← whole; standAt e.pos; holding [v] (truthy v)) := by intro _; rfl) : BT X S W e k :=
  .of (pt_truth pe_U he) fun F A σ H Q x0 r sr q => h.use x0 r sr fun F1 A1 W1 H1 x vx e1 r1 z1 ⟨d, hd, hy, h1⟩ => by
    refine ⟨truD d, ?_, q F1 A1 W1 H1 _ e1 r1 h1⟩
    have z := r1.dat z1 hd
    cases z with
    | non => rfl
    | bl b => rfl
    | int i => rfl
    | str y => exact ⟨hy y rfl, rfl⟩
    | @lst a vs ds hs t => exact .inl ⟨vs, .inl hs, by have := pd_len t.pd; cases vs <;> cases ds <;> simp_all [truD]⟩
    | @tup a vs ds hs t => exact .inr (.inl ⟨vs, hs, by have := pd_len t.pd; cases vs <;> cases ds <;> simp_all [truD]⟩)
    | dct hs => exact .inr (.inr ⟨[], hs, rfl⟩)
theorem pd_ints' {K : PySem.W.Frag} {F : Hp} : ∀ {xs : List Int}, Paired (fun d v => Rq K F v d) (xs.map PyData.int) (xs.map V.int)
  | [] => .nil
  | x :: xs => .cons (Rq.int x) pd_ints'
theorem lb_script {ns : List Int} {lo hi : Option Int} (h : k (.d (.list ((cutL ns lo hi).map .int))) W) : LB X (.s ns) lo hi W k := .of sl_list fun F A H Q vx r zx q => by
  obtain ⟨a, rfl, hs⟩ := zx
  have e : cutV (ns.map V.int) lo hi = (cutL ns lo hi).map V.int := by unfold cutV cutL; rw [List.length_map, List.map_take, List.map_drop]
  refine ⟨a, _, rfl, r.sub.seq hs, fun p hp => ?_⟩
  rw [e]
  exact q.newL r hp pd_ints' h
theorem cb_lenScript {ns : List Int} (h : k (.d (.int ns.length)) W) : CB X (.builtin "len") [.s ns] W k := .of call_len_seq fun F A H Q vs r zs q => by
  obtain ⟨v, rfl, z⟩ := pd_one zs
  obtain ⟨a, rfl, hs⟩ := z
  exact ⟨a, _, rfl, .inl (r.sub.seq hs), by rw [List.length_map]; exact q.same r (.dd (Rq.int _)) h⟩
theorem ib_script {ns : List Int} {i n : Int} (he : atI ns i = some n) (h : k (.d (.int n)) W) : IB X (.s ns) (.d (.int i)) W k := .of ix_list fun F A H Q vx vy r zx zy q => by
  obtain ⟨a, rfl, hs⟩ := zx
  obtain rfl := Rq.of_int zy
  refine ⟨a, _, i, .int n, rfl, rfl, r.sub.seq hs, ?_, q.same r (.dd (Rq.int _)) h⟩
  unfold atI at he ⊢
  rw [List.length_map]
  cases e : ixN ns.length i with
  | none => rw [e] at he; cases he
  | some j =>
    rw [e] at he
    simp only [Option.bind] at he ⊢
    rw [List.getElem?_map, he]
    rfl
end
end L2
namespace L2
end L2
namespace L2
open PySem PySem.Spec PyProof.Rows
theorem ObjOk.at {P : Program} {w : World} {H : Hp} {h : Heap} {a : Addr} {o : HO} (x : ObjOk P w H h a o) : ∃ ob, h.get? a = some ob := by
  cases o with
  | lst xs => obtain ⟨_, _, _, _, e⟩ := x; exact ⟨_, e⟩
  | tup xs => obtain ⟨_, _, _, o, e, _⟩ := x; exact ⟨_, e⟩
  | dK kvs => obtain ⟨_, _, _, _, o, _, _, e, _⟩ := x; exact ⟨_, e⟩
  | dT kvs => obtain ⟨_, _, _, _, o, _, _, e, _⟩ := x; exact ⟨_, e⟩
  | set S n => obtain ⟨o, _, _, _, e, _⟩ := x; exact ⟨_, e⟩
  | ins C dx fs => obtain ⟨_, _, _, e, _⟩ := x; exact ⟨_, e⟩
  | own y => obtain ⟨_, e⟩ := x; exact ⟨_, e⟩
  | xd fs => obtain ⟨_, ⟨_, _, _, e, _⟩, _⟩ := x; exact ⟨_, e⟩
  | rng lo hi => obtain ⟨_, _, _, e⟩ := x; exact ⟨_, e⟩
  | frz ob u => obtain ⟨e, _⟩ := x; exact ⟨_, e⟩
  | tbl ps => exact ⟨_, show h.get? a = some _ from x⟩
  | met f y => exact ⟨_, show h.get? a = some _ from x⟩
  | ext φ => obtain ⟨_, ⟨_, e⟩, _⟩ := x; exact ⟨_, e⟩
/-- what B keeps: the old objects but the frames, and what is tracked -/
structure Kp (B : Heap) (fr : List Addr) (H' : Hp) (h0 h : Heap) : Prop where
  old : ∀ b o0 o, h0.get? b = some o0 → b ∉ fr → h.get? b = some o → B.get? b = some o
  trk : ∀ b u o, H' b = some u → h.get? b = some o → B.get? b = some o
section
variable {P : Program} {w : World} {B h0 h h'' : Heap} {fr : List Addr} {H H' : Hp}
theorem HOk.fly (x : HOk P w H' h) (k : Kp B fr H' h0 h) (st : B.StaysIn h'') : HOk P w H' h'' := fun a o e =>
  (x a o e).stay (fun b u hb q => by
    rcases hb with rfl | hb
    · exact st _ _ (k.trk _ o u e q)
    · exact st _ _ (k.trk _ _ u hb q)) (fun _ q => q) fun _ _ q => q
theorem Kp.fly (k : Kp B fr H' h0 h) (x : HOk P w H' h) (st : B.StaysIn h'') (th : ∀ b o0, h0.get? b = some o0 → ∃ o, h.get? b = some o) : Kp B fr H' h0 h'' := by
  refine ⟨fun b o0 o q hb e => ?_, fun b u o q e => ?_⟩
  · obtain ⟨o', e'⟩ := th b o0 q
    have hB := k.old b o0 o' q hb e'
    have := st _ _ hB
    rw [e] at this
    cases this
    exact hB
  · obtain ⟨o', e'⟩ := (x b u q).at
    have hB := k.trk b u o' q e'
    have := st _ _ hB
    rw [e] at this
    cases this
    exact hB
theorem Un.fly (u : Un fr [] H H' h0 h) (k : Kp B fr H' h0 h) (st : B.StaysIn h'') (up : h.UpToSlots h'') (nf : ∀ b ∈ fr, ∀ o, h.get? b = some o → ∀ vs, o.data ≠ .fields vs) : Un fr [] H H' h0 h'' where
  keep := fun b o q n hb he => st _ _ (k.old b o o q hb (u.keep b o q n hb he))
  slot := fun b o q n hb he => by
    obtain ⟨sl, e⟩ := u.slot b o q n hb he
    obtain ⟨sl', e'⟩ := up b _ e (nf b hb _ e)
    exact ⟨sl', e'⟩
  free := u.free
  there := fun b o q he => by
    obtain ⟨o', e⟩ := u.there b o q he
    by_cases hb : b ∈ fr
    · obtain ⟨sl', e'⟩ := up b _ e (nf b hb _ e)
      exact ⟨_, e'⟩
    · exact ⟨o', st _ _ (k.old b o o' q hb e)⟩
  tups := u.tups
  frzs := u.frzs
  tbls := u.tbls
end
/-- an exception in flight, not yet noted here, noted by callees, or noted here -/
noncomputable def Mk0 (e : Addr) (cls : Value) (h : Heap) : Prop := ∃ oe vs a0, h.get? e = some oe ∧ oe.cls = cls ∧ oe.data = .fields vs ∧ vs[1]? = some .none ∧ vs[0]? = some a0
structure InF (B : Heap) (l : List Env) (e : Addr) (cls : Value) (h : Heap) : Prop where
  st : B.StaysIn h
  ne : B.get? e = none
  ff : h.FunFrames B l
  tr : Mk0 e cls h ∨ (∃ a0, h.TracedW B e cls a0) ∨ ∃ a0 L env r, l = env :: r ∧ env.frame = some L ∧ h.TracedAtW B e cls a0 (rawInt L)
theorem InF.nf {B : Heap} {l : List Env} {e : Addr} {cls : Value} {h : Heap} (x : InF B l e cls h) : ∀ b ∈ frs l, ∀ o, h.get? b = some o → ∀ vs, o.data ≠ .fields vs := fun b hb o e => by
  obtain ⟨_, o', e', nf⟩ := x.ff.mem hb
  rw [e] at e'
  cases e'
  exact nf
theorem _root_.PySem.Heap.HeldW.inF {B : Heap} {env : Env} {r : List Env} {e L : Addr} {cls a0 : Value} {h : Heap} (hf : env.frame = some L) (x : Heap.HeldW B (env :: r) e cls a0 L h) : InF B (env :: r) e cls h := ⟨x.1, x.2.1, x.2.2.1, .inr (.inr ⟨a0, L, env, r, rfl, hf, x.2.2.2⟩)⟩
theorem _root_.PySem.Heap.FlyingW.inF {B : Heap} {l : List Env} {e : Addr} {cls a0 : Value} {h : Heap} (x : Heap.FlyingW B l e cls a0 h) : InF B l e cls h := ⟨x.1, x.2.1, x.2.2.1, .inr (.inl ⟨a0, x.2.2.2⟩)⟩
section
variable {M : Model} {A : Around} {E : Value → Shared → Prop} {s : Shared} {B : Heap} {env : Env} {outer : List Env} {L e : Addr} {cls : Value} {Q : Unit → Shared → Prop}
theorem in_note (hfr : A.frames = some (env :: outer)) (hf : env.frame = some L) (x : InF B (env :: outer) e cls s.heap) (hQ : ∀ h' a0, Heap.HeldW B (env :: outer) e cls a0 L h' → s.heap.UpToSlots h' → Q () { s with heap := h' }) :
    wpAny M A (noteFrame (.ref e) env) Q E s := by
  rcases x.tr with ⟨oe, vs, a0, he, hc, hd, h1, h0⟩ | ⟨a0, ht⟩ | ⟨a0, L', env', r', hl, hf', ht⟩
  · subst hc
    unfold noteFrame
    simp only [hf]
    refine wpAny_bind (wpAny_field he hd h1 ?_)
    rw [if_neg (by decide)]
    exact wpAny_entryW hfr x.ff hf he x.st x.ne hd (Array.getElem?_eq_some_iff.mp h1).1 h0 fun h' ⟨x1, x2, x3, x4⟩ => hQ h' a0 ⟨x1, x.ne, x2, x3⟩ x4
  · exact wpAny_looks_onW hfr hf ⟨x.st, x.ne, x.ff, ht⟩ fun h' hh up => hQ h' a0 hh up
  · cases hl
    rw [hf] at hf'
    cases hf'
    exact wpAny_noteFrame_againW hf ht (hQ s.heap a0 ⟨x.st, x.ne, x.ff, ht⟩ (.refl _))
theorem in_leave (hfr : A.frames = some (env :: outer)) (hf : env.frame = some L) (x : InF B (env :: outer) e cls s.heap) (hQ : ∀ h' a0, Heap.FlyingW B outer e cls a0 h' → s.heap.UpToSlots h' → Q () { s with heap := h' }) :
    wpAny M A (leaving env (.ref e)) Q E s := by
  unfold leaving
  refine wpAny_bind (in_note hfr hf x fun h' a0 hh up => ?_)
  refine wpAny_landsW hh fun h'' hfl up' => ?_
  obtain ⟨k1, k2, ⟨_, _, k3⟩, k4⟩ := hfl
  exact hQ h'' a0 ⟨k1, k2, k3, k4⟩ (up.trans up')
theorem in_flight {fl : Option Addr} {a0 f0 : Value} {l : List Env} (hkb : B.StaysIn s.heap) (hl : s.heap.FunFrames B l) (ht : s.heap.TracedAtW B e cls a0 f0)
    (h : ∀ h', B.StaysIn h' → h'.FunFrames B l → h'.TracedAtW B e cls a0 (fl.elim .none fun f => rawInt f) → s.heap.UpToSlots h' → Q () { s with heap := h' }) : wpAny M A (setFlight (.ref e) fl) Q E s := by
  obtain ⟨oe, vs, T, oT, ts, he, hcls, hd, h1, hnT, hTe, hT, hdT, h3⟩ := ht
  have hsz3 : 3 < ts.size := (Array.getElem?_eq_some_iff.mp h3).1
  have other : ∀ b, b ≠ T → (s.heap.update T (Obj.mapFields (·.setIfInBounds 3 (fl.elim Value.none fun f => rawInt f)))).get? b = s.heap.get? b :=
    fun b hb => Heap.get?_update_other _ _ (Ne.symm hb)
  have noRecord : ∀ b o, s.heap.get? b = some o → (∀ vs, o.data ≠ .fields vs) → b ≠ T := fun b o hb hnf q => by
    rw [q, hT] at hb; injection hb with hb; subst hb; exact hnf ts hdT
  unfold setFlight
  refine wpAny_bind (wpAny_field he hd h1 ?_)
  rw [if_pos (show (Value.ref T != Value.none) = true from by simp)]
  refine wpAny_setField hT hdT hsz3 (h _ (fun b o hbo => (other b fun q => by rw [q, hnT] at hbo; cases hbo).trans (hkb b o hbo))
    (hl.of_keeps fun b o hb hnf => ⟨o, (other b (noRecord b o hb hnf)).trans hb, rfl⟩) ?_ fun b o hb hnf => ⟨o.slots, (other b (noRecord b o hb hnf)).trans hb⟩)
  exact ⟨oe, vs, T, _, _, (other e (Ne.symm hTe)).trans he, hcls, hd, h1, hnT, hTe, Heap.get?_update_self _ hT (Obj.isFreed_of_fields (Obj.data_mapFields hdT _)), Obj.data_mapFields hdT _, by simp [hsz3]⟩
theorem in_back {E' : Value → Shared → Prop} {a0 : Value} (hf : env.frame = some L) (x : Heap.HeldW B (env :: outer) e cls a0 L s.heap) (hQ : ∀ h', Heap.HeldW B (env :: outer) e cls a0 L h' → s.heap.UpToSlots h' → E' (.ref e) { s with heap := h' }) :
    cameBackBy M A env E' (.ref e) s := by
  obtain ⟨f1, f2, f3, f4⟩ := x
  obtain ⟨oe, vs, T, oT, ts, he, hcls, hd, h1, r⟩ := id f4
  show wpAny M A (do
    if (← field (.ref e) 1) == .none then unsupported "frame.own-activation:exception-without-traceback"
    setFlight (.ref e) env.frame) (fun _ s'' => E' (.ref e) s'') E' s
  refine wpAny_bind (wpAny_field he hd h1 ?_)
  rw [if_neg (by simp), hf]
  exact in_flight (fl := some L) f1 f3 f4 fun h' k1 k2 k3 k4 => hQ h' ⟨k1, f2, k2, k3⟩ k4
end
end L2
namespace L2
open PySem PySem.Spec PyProof.Rows
/-- an exception of the class at C in a body -/
noncomputable def XS (X : Cx) (C : Addr) (H' : Hp) (σ : St) (e : Value) (s' : Shared) : Prop := ∃ ea B pins H sr, e = .ref ea ∧ Inv X pins σ H sr ∧ s'.os = sr.os ∧ AllBare s'.gens ∧ Un (frs X.stack) [] H H' sr.heap s'.heap ∧ HOk X.prog X.w H' s'.heap ∧
  Kp B (frs X.stack) H' sr.heap s'.heap ∧ InF B X.stack ea (.ref C) s'.heap
/-- how it lies behind a call -/
noncomputable def CXe (P : Program) (w : World) : CXT := fun outer H s E e s' => ∃ ea C B a0 H', e = .ref ea ∧ s'.os = s.os ∧ AllBare s'.gens ∧ Un (frs outer) [] H H' s.heap s'.heap ∧ HOk P w H' s'.heap ∧ Kp B (frs outer) H' s.heap s'.heap ∧
  Heap.FlyingW B outer ea (.ref C) a0 s'.heap ∧ E (.ref C) none H'
/-- a def's body -/
structure Body (X : Cx) : Prop where
  stk : X.stack = X.env :: X.outer
  frm : X.env.frame = some X.env.locals
  ex : X.ex = []
section
variable {X : Cx} {C : Addr} {H' : Hp} {σ : St} {e : Value} {s' : Shared}
theorem XS.step {ea : Addr} {B : Heap} {pins : List (Addr × Obj)} {H : Hp} {sr : Shared} {h'' : Heap} (I : Inv X pins σ H sr) (os : s'.os = sr.os) (bare : AllBare s'.gens) (un : Un (frs X.stack) [] H H' sr.heap s'.heap) (ok : HOk X.prog X.w H' s'.heap)
    (kp : Kp B (frs X.stack) H' sr.heap s'.heap) (x : InF B X.stack ea (.ref C) s'.heap) (x' : InF B X.stack ea (.ref C) h'') (up : s'.heap.UpToSlots h'') : XS X C H' σ (.ref ea) { s' with heap := h'' } :=
  ⟨ea, B, pins, H, sr, rfl, I, os, bare, un.fly kp x'.st up x.nf, ok.fly kp x'.st, kp.fly ok x'.st fun b o0 q => un.there b o0 q (by simp), x'⟩
theorem passes_XS {Ex : Addr → Hp → St → Prop} {M : Model} (b : Body X) : PassesOwn M X.A X.env (fun e s' => ∃ C H' σ, XS X C H' σ e s' ∧ Ex C H' σ) := by
  rintro e s' ⟨C, H', σ, ⟨ea, B, pins, H, sr, rfl, I, os, bare, un, ok, kp, x⟩, he⟩
  have x1 := x
  have hfr := I.ok.frames
  rw [b.stk] at x1 hfr
  refine in_note hfr b.frm x1 fun h1 a0 hh up => ?_
  refine in_back b.frm hh fun h2 hh2 up2 => ?_
  have x2 : InF B X.stack ea (.ref C) h2 := by rw [b.stk]; exact hh2.inF b.frm
  exact ⟨C, H', σ, XS.step (s' := s') I os bare un ok kp x x2 (up.trans up2), he⟩
/-- it leaves the body -/
theorem XS.leave {M : Model} {E : XK} {E' : Value → Shared → Prop} (b : Body X) (h : XS X C H' σ e s') (he : E (.ref C) none H') :
    wpAny M X.A (leaving X.env e) (fun _ s'' => CXe X.prog X.w X.outer X.H₀ X.s₀ E e s'') E' s' := by
  obtain ⟨ea, B, pins, H, sr, rfl, I, os, bare, un, ok, kp, x⟩ := h
  have x1 := x
  have hfr := I.ok.frames
  rw [b.stk] at x1 hfr
  refine in_leave hfr b.frm x1 fun h' a0 hfl up => ?_
  have un2 := un.fly kp hfl.1 up x.nf
  have ok2 := ok.fly kp hfl.1
  have kp2 := kp.fly ok hfl.1 fun b o0 q => un.there b o0 q (by simp)
  have hex : ∀ c : Addr, c ∉ X.ex := fun c z => by rw [b.ex] at z; simp at z
  have loc : ∀ c o, X.s₀.heap.get? c = some o → c ≠ X.env.locals := fun c o q z => by
    have h1 := Heap.lt_size q
    have h2 := I.ok.above
    rw [z] at h1
    exact absurd (Nat.lt_of_lt_of_le h1 h2) (Nat.lt_irrefl _)
  have fr : ∀ c o, X.s₀.heap.get? c = some o → c ∉ frs X.outer → c ∉ frs X.stack := fun c o q hc z => by
    rw [b.stk] at z
    have z : c ∈ List.filterMap (fun e : Env => e.frame) (X.env :: X.outer) := z
    rw [List.filterMap_cons, b.frm] at z
    rcases List.mem_cons.mp z with z | z
    · exact loc c o q z
    · exact hc z
  refine ⟨ea, C, B, a0, H', rfl, os.trans I.os, bare, ⟨fun c o q n hc _ => ?_, fun c o q n hc _ => ?_, fun c o q n _ => ?_, fun c o q _ => ?_, fun c xs q => un2.tups c xs (I.base.tups c xs q), fun c o u q => un2.frzs c o u (I.base.frzs c o u q), fun c ps q => ?_⟩, ok2, ⟨fun c o0 o q hc e => ?_, kp2.trk⟩, hfl, he⟩
  · exact un2.keep c o (I.base.keep c o q n hc (hex c)) (I.base.free c o q n (hex c)) (fr c o q hc) (by simp)
  · obtain ⟨sl, e1⟩ := I.base.slot c o q n hc (hex c)
    have h1 : c ∈ frs X.stack := by
      rw [b.stk]
      show c ∈ List.filterMap (fun e : Env => e.frame) (X.env :: X.outer)
      rw [List.filterMap_cons, b.frm]
      exact List.mem_cons_of_mem _ hc
    obtain ⟨sl', e2⟩ := un2.slot c _ e1 (I.base.free c o q n (hex c)) h1 (by simp)
    exact ⟨sl', e2⟩
  · obtain ⟨o', e1⟩ := I.base.there c o q (hex c)
    exact un2.free c o' e1 (I.base.free c o q n (hex c)) (by simp)
  · obtain ⟨o', e1⟩ := I.base.there c o q (hex c)
    exact un2.there c o' e1 (by simp)
  · obtain ⟨m1, e1⟩ := I.base.tbls c ps q
    obtain ⟨m2, e2⟩ := un2.tbls c _ e1
    exact ⟨m1 ++ m2, by rw [e2, Array.append_assoc]⟩
  · obtain ⟨o', e1⟩ := I.base.there c o0 q (hex c)
    exact kp2.old c o' o e1 (fr c o0 q hc) e
/-- it comes from a callee -/
theorem XS.came {pins : List (Addr × Obj)} {H : Hp} {s : Shared} {E : XK} (I : Inv X pins σ H s) (h : CXe X.prog X.w X.stack H s E e s') : ∃ C H', XS X C H' σ e s' ∧ E (.ref C) none H' := by
  obtain ⟨ea, C, B, a0, H', rfl, os, bare, un, ok, kp, hfl, he⟩ := h
  exact ⟨C, H', ⟨ea, B, pins, H, s, rfl, I, os, bare, un, ok, kp, hfl.inF⟩, he⟩
/-- it is made here -/
theorem XS.made {pins : List (Addr × Obj)} {H : Hp} {s : Shared} {ea : Addr} {h' : Heap} {args : List Value} (I : Inv X pins σ H s) (hm : Heap.MadeExcOf s.heap h' ea (.ref C) args) : XS X C H σ (.ref ea) { s with heap := h' } := by
  have hB : ∀ b o, s.heap.get? b = some o → b ∉ frs X.stack → (PySem.W.hideAll s.heap (frs X.stack)).get? b = some o := fun b o q hb => PySem.W.hideAll_get _ q hb
  obtain ⟨t, he, htn, ht⟩ := hm.there
  refine ⟨ea, PySem.W.hideAll s.heap (frs X.stack), pins, H, s, rfl, I, rfl, I.bare, Un.kept hm.keeps, I.hok.kept hm.keeps, ⟨fun b o0 o q hb e => ?_, fun b u o q e => ?_⟩, ⟨fun b o q => hm.keeps _ _ (PySem.W.of_hideAll _ q), ?_, ?_, .inl ⟨_, _, _, he, rfl, rfl, rfl, rfl⟩⟩⟩
  · have := hm.keeps _ _ q
    have e : h'.get? b = some o := e
    rw [e] at this
    cases this
    exact hB b _ q hb
  · obtain ⟨o', e'⟩ := (I.hok b u q).at
    have := hm.keeps _ _ e'
    have e : h'.get? b = some o := e
    rw [e] at this
    cases this
    refine hB b _ e' fun z => ?_
    rw [I.stkFree b z] at q
    cases q
  · cases q : (PySem.W.hideAll s.heap (frs X.stack)).get? ea with
    | none => rfl
    | some o => have := PySem.W.of_hideAll _ q; rw [hm.new] at this; cases this
  · have ff := PySem.W.funFrames_hide (as := frs X.stack) I.stack fun env he a ha => List.mem_filterMap.mpr ⟨env, he, ha⟩
    exact ff.of_keeps fun b o hb _ => ⟨o, hm.keeps b o hb, rfl⟩
end
theorem exc_obj {K : PySem.W.Frag} {h : Heap} {C : Addr} {bmB : List Value} {newId : String} (X : K.In h) (q : PySem.W.excIn K C bmB newId = true) :
    ∃ bm N nm qn bs hdct sn sub ab col dd k0 k1 k2 k3 k5 mN, h.get? C = some (excClassObj nm qn C N bs bm hdct sn sub ab col dd k0 k1 k2 k3 k5 newId) ∧ h.Ns N mN ∧ mN "__init__" = none ∧ OwnTail h bmB bm := by
  unfold PySem.W.excIn at q
  split at q
  · rename_i dd cd sl ho
    split at q
    · rename_i C' bm k0 k1 k2 k3 n k5 hm hs
      simp only [Bool.and_eq_true, beq_iff_eq, Bool.not_eq_true'] at q
      obtain ⟨⟨⟨⟨⟨rfl, rfl⟩, hdel⟩, ht⟩, hok⟩, hni⟩ := q
      obtain ⟨nm, bs, mro, ns, qn, hd, sn, sub, ab, col, del⟩ := cd
      dsimp only at hm hdel hok hni
      subst hm hdel
      have hsl : sl = #[k0, k1, k2, k3, some (.builtin n), k5] := by
        obtain ⟨l⟩ := sl
        simp only at hs
        rw [hs]
      subst hsl
      exact ⟨bm, ns, nm, qn, bs, hd, sn, sub, ab, col, dd, k0, k1, k2, k3, k5, _, X _ _ ho, .of_isNs (PySem.W.isNs_of_in X hok), PySem.W.nsMap_none_of_in X hok hni, PySem.W.tail_of_in X ht⟩
    · cases q
  · cases q
noncomputable abbrev VEs : List Value := [.type "ValueError", .type "Exception", .type "BaseException", .type "object"]
noncomputable abbrev IsExc (K : PySem.W.Frag) (C : Addr) : Prop := PySem.W.excIn K C VEs "ValueError.__new__" = true
theorem PSs.wishx {X : Cx} {st : List Stmt} {t : TS} {E' : Value → Shared → Prop} (h : PSs (X.wish E') st t) (hE : ∀ e s', E' e s' → X.xe e s') : PSs X st t := fun pins s σ H D I hw =>
  wpAny_mono (h pins s σ H D (I.wish _) hw) (fun _ _ q => q.unwish) hE
/-- an exception with the wished objects leaves as wished -/
noncomputable def XOk (X : Bc) : Prop := ∀ F' A' W' H' S' σ' C e s', X.Am F' A' → RW X.K F' A' W' H' → SR X.K F' A' S' σ' → X.xk C S' W' → XS X C H' σ' e s' → X.xe e s'
section
variable {X : Bc} {n : Nat} {S : Sl} {W : Wl} {k : KB} {D : DB}
/-- raise C(..) -/
theorem bs_raise {x : Str} {C : Addr} {e : Expr} {es : List Expr} {np cpos pos : Pos} (xo : XOk X) (hc : X.calm = true) (hx : IsExc X.K C) (hm : X.mg x = some (.ref C)) (h : BA X S W (e :: es) fun as W1 => as.length ≤ sizeLine ∧ X.xk C S W1)
    (hg : Gl X x := by rfl) (hdb : (x == ("__debug__" : Str)) = false := by decide) (he : starEach (e :: es) X.env = (false, eval e X.env) :: starEach es X.env := by rfl) (hpl : (backTo cpos (starEach es X.env)).any (·.1) = false := by rfl) :
    BS X n S W (.Raise (some (.Call (.Name x np) (e :: es) [] cpos)) none pos) D := by
  intro pins s σ H E I ⟨F, A, hn, x0, r, sr, q⟩
  obtain ⟨tl, N, nm, qn, bs, hdct, sn, sub, ab, col, dd, k0, k1, k2, k3, k5, mN, hC, hN, hni, T⟩ := exc_obj I.ok.mod.kin hx
  refine wpAny_Raise_call_subT (C := C) (nm := nm) (q := qn) (N := N) (bs := bs) (bm := tl) (hdct := hdct) (sn := sn) (sub := sub) (ab := ab) (col := col) (dd := dd) (k0 := k0) (k1 := k1) (k2 := k2) (k3 := k3) (k5 := k5)
    PySem.F.excBase_ValueError (mN := mN) (T.hasType PySem.F.excBase_ValueError.hasBase) (I.ok.hd hc) (by rw [he]; show (false || (backTo cpos (starEach es X.env)).any (·.1)) = false; rw [hpl]; rfl) hni (ld_glob I hg hm ⟨rfl, ?_⟩ hdb)
  have hA := h cpos pins s σ H (fun vs H1 => vs.length ≤ sizeLine ∧ ∃ F' A' W', X.Am F' A' ∧ RW X.K F' A' W' H1 ∧ SR X.K F' A' S σ ∧ X.xk C S W') I ⟨F, A, x0.am, r, sr, fun F' A' W' H1 es' vs e1 r1 z1 h1 => ⟨by rw [← pd_len z1]; exact h1.1, F', A', W', x0.am.trans e1, r1, sr.ext e1, h1.2⟩⟩
  rw [he] at hA ⊢
  refine Calls.evalArgs_plain (wpAny_mono hA (fun vs s₂ ⟨xs, H1, I1, rv, hl, F', A', W', am, r1, sr1, hk⟩ => ?_) fun _ _ y => y)
  exact ⟨rfl, by rw [← rv.length]; exact hl, I1.bk _ _ hC, hN.keeps I1.bk, T.keeps I1.bk, fun h' ea hm' => xo F' A' W' H1 S σ C (.ref ea) _ am r1 sr1 hk (XS.made I1 hm')⟩
/-- a def that may raise -/
noncomputable abbrev RX := List El → Wl → KB → (Addr → Wl → Prop) → Prop
noncomputable def spX (K : PySem.W.Frag) (R : RX) : Sp := fun vs H Q E => ∃ F A W es k x, RW K F A W H ∧ Paired (ElR K F A) es vs ∧ R es W k x ∧ Post K F A k Q ∧ ∀ F' A' W' H' C, Ext F A F' A' → RW K F' A' W' H' → x C W' → E (.ref C) none H'
theorem be_callx {R : RX} {j : Nat} {f : Addr} {fd : FuncData} {ps : List Str} {x : Str} {p pos : Pos} {e : Expr} {es : List Expr} (F : FnOk X.prog X.w X.K X.mg X.base (CXe X.prog X.w) j f fd ps (spX X.K R)) (xo : XOk X) (hr : Room j X.A) (hm : X.mg x = some (.ref f))
    (hk : PySem.W.keepIn X.K (.ref f) = true) (hb : Binds X.K fd ps []) (h : BA X S W (e :: es) fun as W1 => R as W1 k fun C W' => X.xk C S W') (hg : Gl X x := by rfl) (hdb : (x == ("__debug__" : Str)) = false := by decide)
    (he : starEach (e :: es) X.env = (false, eval e X.env) :: starEach es X.env := by rfl) (hpl : (backTo pos (starEach es X.env)).any (·.1) = false := by rfl) : BE X S W (.Call (.Name x p) (e :: es) [] pos) k := by
  intro pins s σ H Q I ⟨Fh, A, x0, r, sr, q⟩
  refine wpAny_Call_Name_kw (ld_glob I hg hm ?_ hdb)
  refine PySem.W.callWith_K (h₀ := X.base) I.ok.mod.kin hk (thn (h pos pins s σ H (fun vs H1 => ∃ F1 A1 W1 as, X.Am F1 A1 ∧ RW X.K F1 A1 W1 H1 ∧ SR X.K F1 A1 S σ ∧ Paired (ElR X.K F1 A1) as vs ∧ R as W1 k (fun C W' => X.xk C S W') ∧ Post X.K F1 A1 k Q) I
    ⟨Fh, A, x0, r, sr, fun F1 A1 W1 H1 as vs e1 r1 z1 h1 => ⟨F1, A1, W1, as, x0.trans e1, r1, sr.ext e1, z1, h1, q.ext e1⟩⟩) fun us s1 ⟨vs, H1, I1, rv, F1, A1, W1, as, am, r1, sr1, z1, h1, q1⟩ => ⟨I1.kIn, ?_⟩) he hpl
  have hsp : spX X.K R vs H1 Q (fun cls _ H' => ∃ C F' A' W', cls = .ref C ∧ X.Am F' A' ∧ RW X.K F' A' W' H' ∧ SR X.K F' A' S σ ∧ X.xk C S W') :=
    ⟨F1, A1, W1, as, k, _, r1, z1, h1, q1, fun F' A' W' H' C e1 r' hx => ⟨C, F', A', W', rfl, am.trans e1, r', sr1.ext e1, hx⟩⟩
  have hl : us.length = ps.length := by rw [← rv.length]; exact F.len _ _ _ _ hsp
  have hb1 := hb s1 us I1.kIn (by rw [List.append_nil]; exact hl)
  rw [List.append_nil] at hb1
  refine wpAny_call (codeAny_mono (F.run X.A X.stack s1 H1 ⟨us, []⟩ us vs Q _ hr I1.env0 hb1 rv hsp) fun r s' hq => ?_)
  cases r with
  | error e =>
    have hq : CXe X.prog X.w X.stack H1 s1 (fun cls _ H' => ∃ C F' A' W', cls = .ref C ∧ X.Am F' A' ∧ RW X.K F' A' W' H' ∧ SR X.K F' A' S σ ∧ X.xk C S W') e s' := hq
    obtain ⟨C, H', xs, C', F', A', W', e1, am', r', sr', hx⟩ := XS.came I1 hq
    cases e1
    exact xo F' A' W' H' S σ C e s' am' r' sr' hx xs
  | ok fl =>
    cases fl with
    | ret u => exact I1.after hq
    | next => exact False.elim hq
    | brk => exact False.elim hq
    | cont => exact False.elim hq
/-- a def that may raise, by its body -/
theorem fn_X {P : Program} {w : World} {K : PySem.W.Frag} {mg : Str → Option Value} {base : Heap} {x qual : Str} {st : Stmt} {f : Addr} {fd : FuncData} {N ps : List Str} {j : Nat} {R : RX} (F : Fun K x qual st f fd) (S : FnScope N ps (defScope st)) (len : ∀ es W k y, R es W k y → es.length = ps.length)
    (hbody : ∀ (X : Bc) (cdv : Value) (A : Around) (outer : List Env) (s : Shared) (H : Hp) (E : XK) (xe : Value → Shared → Prop) (F0 : Hp) (A0 : List Addr) es W k y, X = ⟨(cxOf (CXe P w) P w K mg base N qual (defScope st) f cdv A outer s H E).wish xe, F0, A0, fun C _ W' => y C W'⟩ →
      Room j (A.deeper (envOfC qual (defScope st) s.heap.objs.size f cdv)) → PassesOwn (model P w) (A.deeper (envOfC qual (defScope st) s.heap.objs.size f cdv)) (envOfC qual (defScope st) s.heap.objs.size f cdv) xe → XOk X → closed W → R es W k y →
      BSs X W.length (startS N es) W (defBody st) { nx := fun _ W' => k (.d .none) W', rt := k }) : FnOk P w K mg base (CXe P w) (j + 1) f fd ps (spX K R) := by
  obtain ⟨oc, od, kV, doc, pm, an, cdv, ct, osl, rfl, lk, hcd⟩ := F.ex
  refine fn_of lk hcd S (fun vs H Q E ⟨Fh, A, W, es, k, y, r, p, h, q, qx⟩ => by rw [← pd_len p]; exact len es W k y h) fun A outer s H vs Q E hr ⟨Fh, Ad, W, es, k, y, r, p, h, q, qx⟩ => ?_
  have bd : Body (cxOf (CXe P w) P w K mg base N qual (defScope st) f cdv A outer s H E) := ⟨rfl, rfl, rfl⟩
  have ext : ∀ {F' A'}, Ex1 W.length Fh Ad F' A' → Ext Fh Ad F' A' := fun y => ⟨y.same, by have := y.pre; rw [← r.len, List.take_length] at this; exact this⟩
  refine ⟨_, PSs.wishx (E' := fun e s' => ∃ C H' σ, XS (cxOf (CXe P w) P w K mg base N qual (defScope st) f cdv A outer s H E) C H' σ e s' ∧ E (.ref C) none H') (hbody ⟨_, Fh, Ad, fun C _ W' => y C W'⟩ cdv A outer s H E _ Fh Ad es W k y rfl hr (passes_XS (X := cxOf (CXe P w) P w K mg base N qual (defScope st) f cdv A outer s H E) bd) ?_ r.closed h) ?_, Fh, Ad, by rw [r.len]; exact Nat.le_refl _, ⟨.refl, by rw [r.len]; exact Nat.le_refl _⟩, r, .start p, ?_⟩
  · exact fun F' A' W' H' S' σ' C e s' am r' sr' hy ⟨ea, B, pins, H1, sr1, he, I, rest⟩ => ⟨C, H', σ', ⟨ea, B, pins, H1, sr1, he, I.unwish, rest⟩, qx F' A' W' H' C am r' hy⟩
  · exact fun e s' ⟨C, H', σ, xs, he⟩ => XS.leave bd xs he
  · exact ⟨fun F' A' W' H' S' σ' y r' sr' h' => q F' A' W' H' _ _ (ext y) r' (.dd Rq.non) h', fun _ _ _ _ _ _ _ _ _ h => h.elim, fun _ _ _ _ _ _ _ _ _ h => h.elim, fun F' A' W' H' e v y r' z h' => q F' A' W' H' e v (ext y) r' z h'⟩
end
end L2
namespace L2
open PySem PySem.Spec PyProof.Rows
section
variable {X : Cx} {pins : List (Addr × Obj)} {σ : St} {H : Hp} {s : Shared} {xe : Value → Shared → Prop} {ea : Addr}
end
section
variable {X : Bc} {n : Nat} {S : Sl} {W : Wl} {D : DB}
end
end L2
namespace L2
open PySem PySem.Spec PyProof.Rows
section
variable {X : Cx} {C ea : Addr} {H' : Hp} {σ : St} {s' : Shared}
end
section
variable {X : Bc} {n : Nat} {S : Sl} {W : Wl} {D : DB}
end
end L2
namespace L2
open PySem PySem.Spec PyProof.Rows
section
variable {κ : Type} [DecidableEq κ]
noncomputable def valV (kvs : List (κ × V)) (k : κ) : Option V := (kvs.find? fun kv => decide (kv.1 = k)).map (·.2)
/-- in its place, or at the end -/
noncomputable def putK (kvs : List (κ × V)) (k : κ) (v : V) : List (κ × V) :=
  if (kvs.any fun kv => decide (kv.1 = k)) = true then kvs.map (fun kv => if kv.1 = k then (kv.1, v) else kv) else kvs ++ [(k, v)]
theorem valV_pos {p : κ × V} {r : List (κ × V)} {k : κ} (e : p.1 = k) : valV (p :: r) k = some p.2 := by simp [valV, List.find?_cons, e]
theorem valV_neg {p : κ × V} {r : List (κ × V)} {k : κ} (e : ¬ p.1 = k) : valV (p :: r) k = valV r k := by simp [valV, List.find?_cons, e]
theorem valV_any (k : κ) : ∀ kvs : List (κ × V), (kvs.any fun kv => decide (kv.1 = k)) = (valV kvs k).isSome
  | [] => rfl
  | p :: r => by
    rw [List.any_cons]
    by_cases e : p.1 = k
    · simp only [valV_pos e, decide_eq_true e, Bool.true_or, Option.isSome_some]
    · rw [valV_neg e, decide_eq_false e, Bool.false_or]; exact valV_any k r
theorem length_putK (kvs : List (κ × V)) (k : κ) (v : V) : (putK kvs k v).length ≤ kvs.length + 1 := by
  unfold putK
  split
  · rw [List.length_map]; omega
  · rw [List.length_append, List.length_cons, List.length_nil]; omega
theorem putK_new {kvs : List (κ × V)} {k : κ} (v : V) (h : valV kvs k = none) : putK kvs k v = kvs ++ [(k, v)] := by
  unfold putK
  rw [valV_any, h]
  exact if_neg (by decide)
theorem RelO.isSome_eq {o : Option V} {u : Option Value} (r : RelO o u) : o.isSome = u.isSome := by
  cases o with
  | none => cases u with
    | none => rfl
    | some _ => exact (show False from r).elim
  | some _ => cases u with
    | none => exact (show False from r).elim
    | some _ => rfl
theorem RelO.getD {o : Option V} {u : Option Value} {d : V} {d' : Value} (r : RelO o u) (rd : RelV d d') : RelV (o.getD d) (u.getD d') := by
  cases o with
  | none => cases u with
    | none => exact rd
    | some _ => exact (show False from r).elim
  | some _ => cases u with
    | none => exact (show False from r).elim
    | some _ => exact r
end
theorem kV_is {P : Program} {w : World} {k : Key} {u : Value} (r : RelV (kV k) u) : (mixKind P w).is k u = true := by
  cases k with
  | inl i => obtain ⟨t, e⟩ := (show ∃ t, u = Value.int i t from r); subst e; exact mixKind_int P w i t
  | inr x => obtain ⟨t, e⟩ := (show ∃ t, u = Value.str x t from r); subst e; exact mixKind_str P w x t
theorem items_are {P : Program} {w : World} : ∀ {ks : List Key} {us : List Value}, Vals (ks.map kV) us → ItemsAre (mixKind P w) ks us
  | [], _, r => by rw [List.map_nil] at r; cases r; exact .nil
  | k :: ks, _, r => by
    rw [List.map_cons] at r
    cases r with
    | cons h t => exact .cons (kV_is h) (items_are t)
/-- raw entries of a dict with tuple keys -/
noncomputable abbrev KT (H : Hp) : List (List Key × V) → List (List Key × Addr × Value) → Prop := Paired fun p q => p.1 = q.1 ∧ H q.2.1 = some (.tup (p.1.map kV)) ∧ RelV p.2 q.2.2
theorem KT.val {H : Hp} {kvs : List (List Key × V)} {xs : List (List Key × Addr × Value)} (r : KT H kvs xs) (k : List Key) : RelO (valV kvs k) ((atKey xs k).map (·.2)) := by
  induction r with
  | nil => exact True.intro
  | @cons p q ps qs h t ih =>
    obtain ⟨h1, _, h2⟩ := h
    by_cases e : p.1 = k
    · have e' : q.1 = k := h1.symm.trans e
      have b : atKey (q :: qs) k = some q.2 := by simp [atKey, List.find?_cons, e']
      rw [valV_pos e, b]; exact h2
    · have e' : ¬ q.1 = k := fun z => e (h1.trans z)
      have b : atKey (q :: qs) k = atKey qs k := by simp [atKey, List.find?_cons, e']
      rw [valV_neg e, b]; exact ih
theorem KT.repl {H : Hp} {kvs : List (List Key × V)} {xs : List (List Key × Addr × Value)} (r : KT H kvs xs) (k : List Key) {y : V} {u : Value} (ry : RelV y u) :
    KT H (kvs.map fun kv => if kv.1 = k then (kv.1, y) else kv) (xs.map (putAt k u)) := by
  induction r with
  | nil => exact .nil
  | @cons p q ps qs h t ih =>
    rw [List.map_cons, List.map_cons]
    refine .cons ?_ ih
    obtain ⟨h1, h2, h3⟩ := h
    unfold putAt
    by_cases e : p.1 = k
    · rw [if_pos e, if_pos (h1.symm.trans e)]; exact ⟨h1, h2, ry⟩
    · rw [if_neg e, if_neg (fun z => e (h1.trans z))]; exact ⟨h1, h2, h3⟩
theorem KT.put {H : Hp} {kvs : List (List Key × V)} {xs : List (List Key × Addr × Value)} (r : KT H kvs xs) (k : List Key) {b : Addr} {y : V} {u : Value} (hb : H b = some (.tup (k.map kV))) (ry : RelV y u) :
    KT H (putK kvs k y) (storedH xs k b u) := by
  have e : (kvs.any fun kv => decide (kv.1 = k)) = (atKey xs k).isSome := by
    rw [valV_any, (r.val k).isSome_eq, Option.isSome_map]
  unfold putK storedH
  rw [e]
  by_cases q : (atKey xs k).isSome = true
  · rw [if_pos q, if_pos q]; exact r.repl k ry
  · rw [if_neg q, if_neg q]; exact Paired.snoc r ⟨rfl, hb, ry⟩
theorem KT.keeps {H H' : Hp} {kvs : List (List Key × V)} {xs : List (List Key × Addr × Value)} (r : KT H kvs xs) (ht : ∀ b ys, H b = some (.tup ys) → H' b = some (.tup ys)) : KT H' kvs xs :=
  Paired.mapP r fun _ _ z => ⟨z.1, ht _ _ z.2.1, z.2.2⟩
section
variable {P : Program} {w : World} {H : Hp} {h : Heap} {a : Addr}
theorem rd_of {u : HO} (ok : HOk P w H h) (e : Rd H a u) : ObjOk P w H h a u := e.ok ok
/-- a tracked tuple of ints and texts is a key -/
theorem key_of {ks : List Key} (ok : HOk P w H h) (e : H a = some (.tup (ks.map kV))) : (tupleKind (mixKind P w)).is h ks a := by
  obtain ⟨_, its, r, o, h1, h2, n, h3⟩ := (show ObjOk P w H h a (.tup (ks.map kV)) from ok a _ e)
  exact ⟨o, its.toArray, n, h1, h2, h3, by simpa using items_are r⟩
theorem dt_rd {kvs : List (List Key × V)} (ok : HOk P w H h) (e : Rd H a (.dT kvs)) : kvs.length ≤ sizeLine ∧ (a == sysModules) = false ∧
    ∃ xs, KT H kvs xs ∧ h.DictOfH (tupleKind (mixKind P w)) a xs := by
  obtain ⟨z, y, xs, r, o, es, ep, h1, h2, h3, h4, h5⟩ := (show ObjOk P w H h a (.dT kvs) from rd_of ok e)
  refine ⟨z, y, xs, r, o, es, ep, h1, h2, h3, h4, fun x hx => ?_, h5⟩
  have all : ∀ {l : List (List Key × V)} {m : List (List Key × Addr × Value)}, KT H l m → ∀ x ∈ m, (tupleKind (mixKind P w)).is h x.1 x.2.1 := by
    intro l m q
    induction q with
    | nil => intro x hx; exact nomatch hx
    | @cons p q ps qs hq t ih =>
      intro x hx
      rcases List.mem_cons.mp hx with e | hx
      · subst e
        exact key_of ok (by rw [← hq.1]; exact hq.2.1)
      · exact ih x hx
  exact all r x hx
theorem dt_of {kvs : List (List Key × V)} (ok : HOk P w H h) (e : H a = some (.dT kvs)) : kvs.length ≤ sizeLine ∧ (a == sysModules) = false ∧
    ∃ xs, KT H kvs xs ∧ h.DictOfH (tupleKind (mixKind P w)) a xs := dt_rd ok (.inl e)
end
section
variable {X : Cx} {pins : List (Addr × Obj)} {σ : St} {H : Hp} {s : Shared} {a : Addr} {y v : V} {u r : Value} {o : Option V} {A : Around} {E : Value → Shared → Prop}
/-- a dict's object is replaced -/
theorem d_write {h' : Heap} {t' : Nat} {ob : HO} (I : Inv X pins σ H s) (mu : Mut (H a)) (hs : Heap.SameBut a s.heap h') (he : ∃ q, h'.get? a = some q) (new : ObjOk X.prog X.w (upd H a ob) h' a ob) :
    Inv X pins σ (upd H a ob) { s with heap := h', toks := t' } :=
  I.write (x := a) (e := a) mu (.inl rfl) (fun b q hb z => (hs.2 b hb).trans z) he new
end
section
variable {X : Cx} {pins : List (Addr × Obj)} {σ : St} {H : Hp} {s : Shared} {a : Addr} {kvs : List (Key × V)} {k : Key} {u : Value} {A : Around} {E : Value → Shared → Prop}
end
section
variable {X : Cx} {o i e value : Expr} {pos pos' tpos : Pos} {td ty tv : TE}
end
theorem dt_empty {P : Program} {w : World} {H : Hp} (h : Heap) (hb : sysModules < h.objs.size) : ObjOk P w H (h.push { cls := .type "dict", data := .dict #[] }) h.objs.size (.dT []) :=
  ⟨Nat.zero_le _, beq_eq_false_iff_ne.mpr (Ne.symm (Nat.ne_of_lt hb)), [], .nil, _, #[], 0, Heap.get?_push_size _ rfl, ⟨rfl, rfl, rfl⟩, rfl, rfl, List.nodup_nil⟩
/-- {}, to be a dict of the kind that is wanted -/
noncomputable def tDNewT : TE := fun _ H Q => ∀ p, H p = none → Q (.ref p) (upd H p (.dT []))
section
variable {X : Cx} {pos : Pos}
theorem pe_dnewT : PE X (.Dict [] [] pos) tDNewT := fun pins s σ H Q I h =>
  wpAny_Dict_empty ⟨.ref s.heap.objs.size, _, I.laid (a := s.heap.objs.size) (o := .dT []) (t' := s.toks) (fun _ _ q => Heap.get?_push_of_some _ q) (Nat.le_refl _) (dt_empty s.heap I.big), rfl, h _ (I.hok.fresh (Nat.le_refl _))⟩
end
section
variable {X : Cx} {pins : List (Addr × Obj)} {σ : St} {H : Hp} {s : Shared} {a : Addr} {y d : V} {u r : Value} {o : Option V} {A : Around} {E : Value → Shared → Prop}
end
section
variable {X : Cx} {o e f : Expr} {apos cpos : Pos} {td ty tx : TE}
end
section
variable {X : Cx} {pins : List (Addr × Obj)} {σ : St} {H : Hp} {s : Shared} {a : Addr} {kvs : List (Key × V)} {A : Around} {E : Value → Shared → Prop}
end
section
variable {X : Cx} {pins : List (Addr × Obj)} {σ : St} {H : Hp} {s : Shared} {a : Addr} {y : V} {u : Value} {A : Around} {E : Value → Shared → Prop}
end
end L2
namespace L2
open PySem PySem.Spec PyProof.Rows
theorem nd_last {α : Type} {l : List α} {k : α} (h : l.Nodup) (hk : k ∉ l) : (l ++ [k]).Nodup := List.nodup_append.mpr ⟨h, by simp, fun x hx y hy e => hk (by cases List.mem_singleton.mp hy; exact e ▸ hx)⟩
section
variable {prog : Program} {w : World} {K : Type} [DecidableEq K] {knd : HeapKind prog w K} {A : Around} {E : Value → Shared → Prop} {s : Shared}
/-- a new pair at the end -/
theorem dictH_snoc {h : Heap} {d a : Addr} {xs : List (K × Addr × Value)} {k : K} {v : Value} (hm : h.DictOfH knd d xs) (hkey : knd.is h k a) (hk : atKey xs k = none) (hk' : k ∉ xs.map (·.1)) :
    (h.update d (Obj.mapDictKeys (·.push ⟨knd.hash k, .ref a, v⟩))).DictOfH knd d (storedH xs k a v) := by
  obtain ⟨ob, ents, n, g1, g2, g3, g4, g5, g6⟩ := hm
  have all : ∀ x ∈ xs ++ [(k, a, v)], knd.is h x.1 x.2.1 := fun x hx => (List.mem_append.mp hx).elim (g5 x) fun z => by cases List.mem_singleton.mp z; exact hkey
  rw [storedH_new hk]
  refine ⟨_, _, n + 1, Heap.get?_update_self _ g1 (Obj.isFreed_of_dict (Obj.data_mapDictKeys g3 _)), g2.mapDictKeys _, Obj.data_mapDictKeys g3 _, by simp [g4, entryOfKey], fun x hx => knd.keeps (all x hx) g1 g3 (Heap.SameBut.update ..), ?_⟩
  rw [List.map_append]
  exact nd_last g6 hk'
theorem dictSetDefault_heap {d a : Addr} {xs : List (K × Addr × Value)} {k : K} {v : Value} {Q : Value → Shared → Prop} (hu : knd.room A) (hkey : knd.is s.heap k a) (hm : s.heap.DictOfH knd d xs) (hsz : xs.length ≤ sizeLine)
    (h1 : ∀ p, atKey xs k = some p → Q p.2 { s with toks := s.toks + knd.draws k })
    (h2 : atKey xs k = none → ∀ h', h'.DictOfH knd d (storedH xs k a v) → Heap.SameBut d s.heap h' → Q v { s with heap := h', toks := s.toks + knd.draws k }) :
    wpAny (model prog w) A (dictSetDefault d (.ref a) v) Q E s := by
  have hm0 := hm
  obtain ⟨ob, ents, n, g1, g2, g3, g4, g5, g6⟩ := hm
  let s1 : Shared := { s with toks := s.toks + knd.draws k }
  unfold dictSetDefault
  refine wpAny_holding (wpAny_bind (knd.pyHash hu hkey (wpAny_bind (wpAny_dictFind_heap (s := s1) hu hkey g1 g3 g4 g5 g6 (fun no => ?_) fun j p hj => ?_))))
  · have none_ := atKey_none_of_get no
    have few : ents.size ≤ sizeLine := by have := size_of_entries g4; omega
    exact wpAny_bind (wpAny_rule (wpAny_bind (wpAny_updateDictKeys (hz := few) (s := s1) g1 g3 (wpAny_pure (h2 none_ _ (dictH_snoc hm0 hkey none_ (not_mem_keys_of_get no)) (Heap.SameBut.update ..))))))
  · refine wpAny_bind (wpAny_dictEntries (s := s1) g1 g3 ?_)
    rw [entry_at g4 j, hj]
    exact wpAny_bind (wpAny_rule (wpAny_pure (h1 p (atKey_of_get g6 hj))))
theorem meetsH_setdefault (knd : HeapKind prog w K) (d a : Addr) (hd : (d == sysModules) = false) (dflt : Value) :
    MeetsIn prog w (Builtin.«dict.setdefault» ⟨[.ref d, .ref a, dflt], []⟩) (fun A R s => knd.room A.in1 ∧ ∃ k xs, knd.is s.heap k a ∧ s.heap.DictOfH knd d xs ∧ xs.length ≤ sizeLine ∧
      (∀ p, atKey xs k = some p → R (.ok (.ret p.2)) { s with toks := s.toks + knd.draws k }) ∧
      (atKey xs k = none → ∀ h', h'.DictOfH knd d (storedH xs k a dflt) → Heap.SameBut d s.heap h' → R (.ok (.ret dflt)) { s with heap := h', toks := s.toks + knd.draws k })) :=
  .of_wp fun A R s ⟨hu, k, xs, hkey, hm, hz, h1, h2⟩ => by
    unfold Builtin.«dict.setdefault»
    refine wpAny_bind ?_
    unfold Builtin.Dict.keyAndDefault
    refine wpAny_bind (wpAny_notOrdered_dict hm.typeIs ?_)
    show wpAny _ _ (pure (d, Value.ref a, some dflt)) _ _ s
    refine wpAny_pure ?_
    show wpAny _ _ (if (d == sysModules) = true then _ else (dictSetDefault d (.ref a) dflt >>= _)) _ _ s
    rw [if_neg (by rw [hd]; exact Bool.false_ne_true)]
    exact wpAny_bind (dictSetDefault_heap hu hkey hm hz (fun p hp => wpAny_pure ⟨p.2, rfl, h1 p hp⟩) fun hn h' hm' hs' => wpAny_pure ⟨dflt, rfl, h2 hn h' hm' hs'⟩)
end
section
variable {X : Cx}
theorem key_sq {pins : List (Addr × Obj)} {σ : St} {H : Hp} {s : Shared} {b : Addr} {ks : List Key} (I : Inv X pins σ H s) (e : SqT X.K H b (ks.map kV)) : (tupleKind (mixKind X.prog X.w)).is s.heap ks b := by
  obtain ⟨its, r, ⟨o, h1, h2, n, h3⟩, _⟩ := I.tuple e
  exact ⟨o, its.toArray, n, h1, h2, h3, by simpa using items_are r⟩
theorem mt_dgetT (hu : X.A.units + 1 < cLine) : MtR X "dict.get" (fun x ys H Q => ∃ a kvs k b d, x = .ref a ∧ ys = [.ref b, d] ∧ H a = some (.dT kvs) ∧ SqT X.K H b (k.map kV) ∧ Q ((valV kvs k).getD d) H) := by
  intro pins s σ H x ys v us Q I rx rs h
  obtain ⟨a, kvs, k, b, d, rfl, rfl, e, eb, q⟩ := h
  obtain ⟨u, r, rfl, ru, rd⟩ := rs.two
  cases (show v = Value.ref a from rx)
  cases (show u = Value.ref b from ru)
  obtain ⟨z, hd, xs, rel, dd⟩ := dt_of I.hok e
  exact call_meetsIn PySem.F.slot_dict_get dd.typeIs PySem.F.entry_dict_get (PySem.F.args_dict_get_3 _ _ _) (meetsH_dict_get_default (tupleKind (mixKind X.prog X.w)) a b hd r) ⟨tupleKind_room_in1 hu, k, xs, key_sq I eb, dd, _, H, I.tok _, (rel.val k).getD rd, q⟩
theorem mt_setdefT (hu : X.A.units + 1 < cLine) : MtR X "dict.setdefault" (fun x ys H Q => ∃ a kvs k b d, x = .ref a ∧ ys = [.ref b, d] ∧ H a = some (.dT kvs) ∧ H b = some (.tup (k.map kV)) ∧
    (∀ v, valV kvs k = some v → Q v H) ∧ (valV kvs k = none → kvs.length < sizeLine ∧ Q d (upd H a (.dT (putK kvs k d))))) := by
  intro pins s σ H x ys v us Q I rx rs h
  obtain ⟨a, kvs, k, b, d, rfl, rfl, e, eb, q1, q2⟩ := h
  obtain ⟨u, r, rfl, ru, rd⟩ := rs.two
  cases (show v = Value.ref a from rx)
  cases (show u = Value.ref b from ru)
  obtain ⟨z, hd, xs, rel, dd⟩ := dt_of I.hok e
  have hz : xs.length ≤ sizeLine := by rw [← Paired.length rel]; exact z
  refine call_meetsIn PySem.F.slot_dict_setdefault dd.typeIs PySem.F.entry_dict_setdefault (PySem.F.args_dict_setdefault_3 _ _ _) (meetsH_setdefault (tupleKind (mixKind X.prog X.w)) a b hd r) ⟨tupleKind_room_in1 hu, k, xs, key_of I.hok eb, dd, hz, fun p hp => ?_, fun hn h' dd' hs => ?_⟩
  · have rv := rel.val k
    rw [hp] at rv
    cases hv : valV kvs k with
    | none =>
      rw [hv] at rv
      cases RelO.none_of rv
    | some v =>
      rw [hv] at rv
      obtain ⟨w', hw, rw'⟩ := RelO.some_of rv
      cases hw
      exact ⟨v, H, I.tok _, rw', q1 v hv⟩
  · have hnv : valV kvs k = none := by
      have rv := rel.val k
      rw [hn] at rv
      cases hv : valV kvs k with
      | none => rfl
      | some v =>
        rw [hv] at rv
        obtain ⟨w', hw, _⟩ := RelO.some_of rv
        cases hw
    obtain ⟨hl, q⟩ := q2 hnv
    have hl' : (putK kvs k d).length ≤ sizeLine := by have := length_putK kvs k d; omega
    refine ⟨d, _, ?_, rd, q⟩
    obtain ⟨q', es, ep, hq, h2, h3, h4, _, h5⟩ := dd'
    refine d_write I (by rw [e]; exact True.intro) hs ⟨q', hq⟩ ⟨hl', hd, _, (rel.put k eb rd).keeps fun c ys ec => ?_, q', es, ep, hq, h2, h3, h4, h5⟩
    rw [upd_ne (ne_of ec e (fun z => nomatch z))]
    exact ec
/-- d[k] -/
theorem ix_dT (hu : X.A.units + 1 < cLine) : IxR X (fun x y H Q => ∃ a kvs k b v, x = .ref a ∧ y = .ref b ∧ H a = some (.dT kvs) ∧ SqT X.K H b (k.map kV) ∧ valV kvs k = some v ∧ Q v H) := by
  intro value slice pins s σ H x y v u Q I rx ry h hs
  obtain ⟨a, kvs, k, b, z, rfl, rfl, e, eb, hv, q⟩ := h
  cases (show v = Value.ref a from rx)
  cases (show u = Value.ref b from ry)
  obtain ⟨_, hd, xs, rel, dd⟩ := dt_of I.hok e
  obtain ⟨w', hw, rw'⟩ := RelO.some_of (v := z) (o := (atKey xs k).map (·.2)) (by rw [← hv]; exact rel.val k)
  obtain ⟨p, hp, hp2⟩ := Option.map_eq_some_iff.mp hw
  exact subscriptTail_builtinR (x := w') dd.typeIs PySem.F.slot_dict_getitem.lookup (wpAny_getItem_heap (Q := fun r s' => r = w' ∧ EP X pins σ Q r s') (tupleKind_room_in1 hu) (key_sq I eb) dd hp ⟨hp2, z, H, I.tok _, hp2 ▸ rw', q⟩) hs
end
end L2
namespace L2
open PySem PySem.Spec PyProof.Rows
noncomputable def keyD : Key → PyData
  | .inl i => .int i
  | .inr x => .str x
noncomputable abbrev tupK (ks : List Key) : PyData := .tuple (ks.map keyD)
theorem pd_keys {K : PySem.W.Frag} {F : Hp} : ∀ {ks : List Key} {vs : List V}, Paired (fun d v => Rq K F v d) (ks.map keyD) vs → vs = ks.map kV
  | [], _, .nil => rfl
  | .inl i :: ks, _, .cons h t => by rw [Rq.of_int h, pd_keys t]; rfl
  | .inr x :: ks, _, .cons h t => by rw [Rq.of_str h, pd_keys t]; rfl
theorem keys_pd {K : PySem.W.Frag} {F : Hp} : ∀ {ks : List Key}, Paired (fun d v => Rq K F v d) (ks.map keyD) (ks.map kV)
  | [] => .nil
  | .inl i :: ks => .cons (Rq.int i) keys_pd
  | .inr x :: ks => .cons (Rq.str x) keys_pd
theorem Rq.of_key {K : PySem.W.Frag} {F : Hp} {ks : List Key} {v : V} (r : Rq K F v (tupK ks)) : ∃ b, v = .ref b ∧ SqT K F b (ks.map kV) := by
  obtain ⟨b, vs, rfl, h, p⟩ := Rq.of_tup r
  cases pd_keys p
  exact ⟨b, rfl, h⟩
noncomputable def valE (kvs : List (List Key × El)) (k : List Key) : Option El := (kvs.find? fun kv => decide (kv.1 = k)).map (·.2)
noncomputable abbrev PKV (K : PySem.W.Frag) (F : Hp) (A : List Addr) : List (List Key × El) → List (List Key × V) → Prop := Paired fun p q => p.1 = q.1 ∧ ElR K F A p.2 q.2
section
variable {K : PySem.W.Frag} {F : Hp} {A : List Addr}
theorem pkv_val {k : List Key} : ∀ {kvs : List (List Key × El)} {vs : List (List Key × V)}, PKV K F A kvs vs → (valE kvs k = none ∧ valV vs k = none) ∨ ∃ e v, valE kvs k = some e ∧ valV vs k = some v ∧ ElR K F A e v
  | [], _, .nil => .inl ⟨rfl, rfl⟩
  | (a, e) :: kvs, _, .cons (b := (b, v)) ⟨hk, he⟩ t => by
    have hk : a = b := hk
    subst hk
    by_cases h : a = k
    · refine .inr ⟨e, v, ?_, ?_, he⟩
      · simp [valE, h]
      · exact valV_pos h
    · have e1 : valE ((a, e) :: kvs) k = valE kvs k := by simp [valE, h]
      rw [e1, valV_neg (show ¬ (a, v).1 = k from h)]
      exact pkv_val t
theorem pkv_snoc {kvs : List (List Key × El)} {vs : List (List Key × V)} (h : PKV K F A kvs vs) (k : List Key) {e : El} {v : V} (he : ElR K F A e v) : PKV K F A (kvs ++ [(k, e)]) (vs ++ [(k, v)]) := pd_app h (.cons ⟨rfl, he⟩ .nil)
end
section
variable {X : Bc} {S : Sl} {W : Wl} {k : KB}
theorem RW.atT {F : Hp} {A : List Addr} {H : Hp} (r : RW X.K F A W H) {j : Nat} {v : V} (z : ElR X.K F A (.o j) v) {kvs : List (List Key × El)} (hj : W[j]? = some (.dT kvs)) : ∃ a vs, v = .ref a ∧ A[j]? = some a ∧ H a = some (.dT vs) ∧ PKV X.K F A kvs vs := by
  obtain ⟨a, ha, rfl⟩ := z
  obtain ⟨h, e, vs, rfl, p⟩ := r.obj j a _ ha hj
  exact ⟨a, vs, rfl, ha, e, p⟩
/-- a key is made -/
theorem be_tupP {es : List Expr} {x1} {pos : Pos} (h : BA X S W es fun as W1 => ∃ ks, as = datas (ks.map keyD) ∧ ks.length ≤ sizeLine ∧ k (.p ks) W1) : BE X S W (.Tuple es x1 pos) k :=
  .of (pe_tup pa_U) fun F A σ H Q x0 r sr q => h.use x0 r sr fun F1 A1 W1 H1 as vs e1 r1 z1 ⟨ks, hd, hl, h1⟩ => by
    subst hd
    cases pd_keys (pd_datas z1)
    refine ⟨by rw [List.length_map]; exact hl, fun p hp => ?_⟩
    obtain ⟨r', x⟩ := r1.newF hp (.tup (ks.map kV))
    exact (q.ext e1) _ _ _ _ (.p ks) _ x r' ⟨p, rfl, upd_same⟩ h1
/-- {} -/
theorem be_dnewT {pos : Pos} (h : k (.o W.length) (W ++ [.dT []])) : BE X S W (.Dict [] [] pos) k :=
  .of pe_dnewT fun F A σ H Q x0 r sr q => fun p hp => q.newO r hp (o := .dT []) ⟨[], rfl, .nil⟩ h
/-- d.get(key, y) -/
theorem mb_dgetT {j : Nat} {kvs : List (List Key × El)} {ks : List Key} {y : El} (hu : X.A.units + 64 < cLine) (hj : W[j]? = some (.dT kvs)) (h : k ((valE kvs ks).getD y) W) : MB X "dict" "dict.get" (.o j) [.d (tupK ks), y] W k := .of (mt_dgetT (by omega)) fun F A H Q v vs r zx z q => by
  obtain ⟨a, ws, rfl, ha, hH, p⟩ := r.atT zx hj
  obtain ⟨u, u', rfl, zu, zu'⟩ := pd_two z
  obtain ⟨b, rfl, hb⟩ := Rq.of_key zu
  refine ⟨a, ws, ks, b, u', rfl, rfl, hH, r.sub.seqT hb, ?_⟩
  rcases pkv_val (k := ks) p with ⟨e1, e2⟩ | ⟨e, v, e1, e2, he⟩
  · rw [e1] at h
    rw [e2]
    exact q.same r zu' h
  · rw [e1] at h
    rw [e2]
    exact q.same r he h
/-- d[key] -/
theorem ib_dT {j : Nat} {kvs : List (List Key × El)} {ks : List Key} {e : El} (hu : X.A.units + 64 < cLine) (hj : W[j]? = some (.dT kvs)) (he : valE kvs ks = some e) (h : k e W) : IB X (.o j) (.d (tupK ks)) W k := .of (ix_dT (by omega)) fun F A H Q vx vy r zx zy q => by
  obtain ⟨a, ws, rfl, ha, hH, p⟩ := r.atT zx hj
  obtain ⟨b, rfl, hb⟩ := Rq.of_key zy
  rcases pkv_val (k := ks) p with ⟨e1, e2⟩ | ⟨e', v, e1, e2, he'⟩
  · rw [he] at e1
    cases e1
  · rw [he] at e1
    cases e1
    exact ⟨a, ws, ks, b, v, rfl, rfl, hH, r.sub.seqT hb, e2, q.same r he' h⟩
/-- d.setdefault(key, y) -/
theorem mb_setdefT {j : Nat} {kvs : List (List Key × El)} {ks : List Key} {y : El} (hu : X.A.units + 64 < cLine) (hj : W[j]? = some (.dT kvs)) (h1 : ∀ e, valE kvs ks = some e → k e W) (h2 : valE kvs ks = none → kvs.length < sizeLine ∧ k y (W.set j (.dT (kvs ++ [(ks, y)])))) :
    MB X "dict" "dict.setdefault" (.o j) [.p ks, y] W k := .of (mt_setdefT (by omega)) fun F A H Q v vs r zx z q => by
  obtain ⟨a, ws, rfl, ha, hH, p⟩ := r.atT zx hj
  obtain ⟨u, u', rfl, zu, zu'⟩ := pd_two z
  obtain ⟨b, rfl, hb⟩ := zu
  refine ⟨a, ws, ks, b, u', rfl, rfl, hH, r.sub _ _ hb, fun v hv => ?_, fun hv => ?_⟩
  · rcases pkv_val (k := ks) p with ⟨e1, e2⟩ | ⟨e, v', e1, e2, he⟩
    · rw [hv] at e2
      cases e2
    · rw [hv] at e2
      cases e2
      exact q.same r he (h1 e e1)
  · rcases pkv_val (k := ks) p with ⟨e1, e2⟩ | ⟨e, v', e1, e2, he⟩
    · obtain ⟨hl, hk⟩ := h2 e1
      refine ⟨by rw [← pd_len p]; exact hl, ?_⟩
      rw [putK_new u' e2]
      exact q.put r ha (o := .dT (kvs ++ [(ks, y)])) ⟨_, rfl, pkv_snoc p ks zu'⟩ zu' hk
    · rw [hv] at e2
      cases e2
end
end L2
namespace L2
open PySem PySem.Spec PyProof.Rows
noncomputable def tUGs (X : Bc) (es : List Expr) : TGs := fun vs σ H Q => ∃ t, PGs X es t ∧ t vs σ H Q
section
variable {X : Bc} {S : Sl} {W : Wl} {k : KB}
theorem pgs_U {es : List Expr} : PGs X es (tUGs X es) := fun pins s σ H vs us Q I r ⟨t, h, q⟩ => h pins s σ H vs us Q I r q
noncomputable def BGs (X : Bc) (S : Sl) (W : Wl) (es : List Expr) (xs : List El) (k : Sl → Wl → Prop) : Prop := ∀ F A σ H vs (Q : St → Hp → Prop), X.Am F A → RW X.K F A W H → SR X.K F A S σ → Paired (ElR X.K F A) xs vs →
  (∀ F' A' W' H' S' σ', Ext F A F' A' → RW X.K F' A' W' H' → SR X.K F' A' S' σ' → k S' W' → Q σ' H') → tUGs X es vs σ H Q
theorem bgs_nil {k : Sl → Wl → Prop} (h : k S W) : BGs X S W [] [] k := fun F A σ H vs Q x0 r sr z q => by
  cases z
  exact ⟨gNil, pgs_nil, rfl, q F A W H S σ .refl r sr h⟩
theorem bgs_cons {t : Expr} {ts : List Expr} {e : El} {xs : List El} {k : Sl → Wl → Prop} (h : BG X S W t e fun S' W' => BGs X S' W' ts xs k)
    (hs : (assignEach (t :: ts) X.env).map (·.2) = assign t X.env :: (assignEach ts X.env).map (·.2) := by rfl) : BGs X S W (t :: ts) (e :: xs) k := fun F A σ H vs Q x0 r sr z q => by
  cases z with
  | @cons _ v _ vs z zs =>
    exact ⟨gCons (tUG X t) (tUGs X ts), pgs_cons pg_U pgs_U hs, v, vs, rfl, h F A σ H v _ x0 r sr z fun F' A' W' H' S' σ' e1 r' sr' h' =>
      h' F' A' σ' H' vs Q (x0.trans e1) r' sr' (pd_imp (fun _ _ y => y.ext e1) zs) fun F2 A2 W2 H2 S2 σ2 e2 r2 sr2 h2 => q F2 A2 W2 H2 S2 σ2 (e1.trans e2) r2 sr2 h2⟩
theorem bg_tupG {es : List Expr} {c : Nat} {pos : Pos} {ds : List PyData} {k : Sl → Wl → Prop} (hc : X.calm = true) (h : BGs X S W es (datas ds) k)
    (hn : (assignEach es X.env).length = ds.length := by rfl) (hst : (assignEach es X.env).findIdx? (·.1) = none := by rfl) : BG X S W (.Tuple es c pos) (.d (.tuple ds)) k :=
  fun F A σ H v Q x0 r sr z q => by
    obtain ⟨a, vs, rfl, hs, p⟩ := Rq.of_tup z
    exact ⟨_, pg_tup hc pgs_U hn hst, a, vs, rfl, r.sub.seqT hs, (pd_len p).symm, h F A σ H vs Q x0 r sr (pd_datas' p) q⟩
theorem cb_max2 {i j : Int} (hc : X.calm = true) (h : k (.d (.int (if j > i then j else i))) W) : CB X (.builtin "max") [.d (.int i), .d (.int j)] W k := .of (call_max2 hc) fun F A H Q vs r zs q => by
  obtain ⟨u, u', rfl, zu, zu'⟩ := pd_two zs
  obtain rfl := Rq.of_int zu
  obtain rfl := Rq.of_int zu'
  exact ⟨i, j, rfl, q.same r (.dd (Rq.int _)) h⟩
theorem cb_min2 {i j : Int} (hc : X.calm = true) (h : k (.d (.int (if j < i then j else i))) W) : CB X (.builtin "min") [.d (.int i), .d (.int j)] W k := .of (call_min2 hc) fun F A H Q vs r zs q => by
  obtain ⟨u, u', rfl, zu, zu'⟩ := pd_two zs
  obtain rfl := Rq.of_int zu
  obtain rfl := Rq.of_int zu'
  exact ⟨i, j, rfl, q.same r (.dd (Rq.int _)) h⟩
theorem ob_repS {z : Str} {n : Nat} (h1 : 1 ≤ n) (h2 : n ≤ 1000) (hz : z.length ≤ 1000) (h : ∀ y, (n ≠ 1 → z.length ≠ 0 → y = repS z n) → (n = 1 → y = z) → (z.length = 0 → y = z) → k (.d (.str y)) W) : OB X (binaryOp .Mult) (.d (.str z)) (.d (.int n)) W k := .of op_repS fun F A H Q vx vy r zx zy q => by
  obtain rfl := Rq.of_str zx
  obtain rfl := Rq.of_int zy
  refine ⟨z, n, rfl, rfl, h1, h2, hz, fun a b => ?_, fun a => ?_, fun a => ?_⟩
  · exact q.same r (.dd (Rq.str _)) (h _ (fun _ _ => rfl) (fun e => absurd e a) fun e => absurd e b)
  · exact q.same r (.dd (Rq.str _)) (h z (fun e => absurd a e) (fun _ => rfl) fun _ => rfl)
  · exact q.same r (.dd (Rq.str _)) (h z (fun _ e => absurd a e) (fun _ => rfl) fun _ => rfl)
end
end L2
namespace L2
open PySem PySem.Spec PyProof.Rows
section
variable {prog : Program} {w : World} {A : Around} {E : Value → Shared → Prop} {s : Shared}
theorem nextOf_tup {it t : Addr} {i : Nat} {xs : Array Value} {x : Value} {Q : Value → Shared → Prop} (st : s.heap.IsTupleIter it t i) (tp : s.heap.IsTuple t xs) (hx : xs[i]? = some x)
    (q : ∀ g, g.IsTupleIter it t (i + 1) → Heap.SameBut it s.heap g → Q x { s with heap := g }) : wpAny (model prog w) A (Builtin.SmallTypes.nextOf (.ref it)) Q E s := by
  have ty := st.typeIs
  obtain ⟨oi, gi, ci, di⟩ := st
  obtain ⟨ot, gt, ct, nt, dt⟩ := tp
  unfold Builtin.SmallTypes.nextOf
  refine wpAny_bind (wpAny_callSpecial?_slot (name := Str.ofString "__next__") ty PySem.F.slot_tuple_iterator_next (wpAny_call_entry PySem.F.slot_tuple_iterator_next ty PySem.F.entry_tuple_iterator_next ?_ (PySem.F.args_tuple_iterator_next_1 _)))
  show wpAny _ _ (field (.ref it) 0 >>= _) _ _ s
  refine wpAny_bind (wpAny_field gi di (x := .ref t) rfl ?_)
  show wpAny _ _ (if (Value.ref t == Value.none) = true then _ else _) _ _ s
  rw [if_neg (show ¬ ((Value.ref t == Value.none) = true) by simp)]
  show wpAny _ _ (field (.ref it) 1 >>= _) _ _ s
  refine wpAny_bind (wpAny_field gi di (x := .int i 0) rfl ?_)
  show wpAny _ _ (seqItems? (.ref t) >>= _) _ _ s
  refine wpAny_bind (wpAny_seqItems gt dt ?_)
  simp only [Int.toNat_natCast, hx]
  exact wpAny_bind (wpAny_setField gi di (by simp) (wpAny_pure ⟨x, rfl, wpAny_pure (q _ ⟨_, Heap.get?_update_self _ gi (Obj.isFreed_of_fields (Obj.data_mapFields di _)), (Obj.cls_mapFields ..).trans ci, by
    rw [Obj.data_mapFields di]; simp [rawInt]⟩ (Heap.SameBut.update ..))⟩))
theorem enumT_item {e it t : Addr} {i : Nat} {xs : Array Value} {x old : Value} {Q : Option Value → Shared → Prop} (he : IsEnum s.heap e it i old) (st : s.heap.IsTupleIter it t i) (tp : s.heap.IsTuple t xs) (hx : xs[i]? = some x) (hne : e ≠ it)
    (q : ∀ g, IsEnumOut g e it ((i : Int) + 1) x s.heap.objs.size → g.IsTupleIter it t (i + 1) → g.get? s.heap.objs.size = some { cls := .type "tuple", data := .seq #[.int i s.toks, x] } →
      (∀ b o, b ≠ e → b ≠ it → s.heap.get? b = some o → g.get? b = some o) → Q (some (.ref s.heap.objs.size)) { s with heap := g, toks := s.toks + 1 }) : wpAny (model prog w) A (pyNext (.ref e)) Q E s := by
  obtain ⟨hp, gn, dw, tk, os⟩ := s
  have ty : Shared.TypeIs ⟨hp, gn, dw, tk, os⟩ (.ref e) "enumerate" := ⟨_, he, rfl⟩
  have hel : e < hp.objs.size := Heap.lt_size he
  unfold pyNext
  refine wpAny_bind (wpAny_attempt (wpAny_callSpecial?_slot (name := Str.ofString "__next__") ty PySem.F.slot_enumerate_next (wpAny_call_entry PySem.F.slot_enumerate_next ty PySem.F.entry_enumerate_next ?_ (PySem.F.args_enumerate_next_1 _))))
  show wpAny _ _ (field (.ref e) 2 >>= _) _ _ _
  refine wpAny_bind (wpAny_field he rfl (x := .ref it) rfl (wpAny_bind (nextOf_tup st tp hx fun g1 st1 sb1 => ?_)))
  have sb1 : Heap.SameBut it hp g1 := sb1
  have e1 : IsEnum g1 e it i old := (sb1.2 e hne).trans he
  show wpAny _ _ (field (.ref e) 3 >>= _) _ _ ⟨g1, gn, dw, tk, os⟩
  refine wpAny_bind (wpAny_field e1 rfl (x := rawInt i) rfl ?_)
  show wpAny _ _ (field (.ref e) 4 >>= _) _ _ ⟨g1, gn, dw, tk, os⟩
  refine wpAny_bind (wpAny_field e1 rfl (x := .none) rfl ?_)
  show wpAny _ _ (mkInt i >>= _) _ _ ⟨g1, gn, dw, tk, os⟩
  refine wpAny_bind (wpAny_mkInt ?_)
  show wpAny _ _ (setField (.ref e) 3 (rawInt ((i : Int) + 1)) >>= _) _ _ ⟨g1, gn, dw, tk + 1, os⟩
  refine wpAny_bind (wpAny_setField_rec e1 (by simp) fun g2 (e2 : IsEnum g2 e it ((i : Int) + 1) old) (sb2 : Heap.SameBut e g1 g2) => ?_)
  show wpAny _ _ (setField (.ref e) 4 .none >>= _) _ _ ⟨g2, gn, dw, tk + 1, os⟩
  refine wpAny_bind (wpAny_setField_rec e2 (by simp) fun g3 (e3 : IsEnum g3 e it ((i : Int) + 1) old) (sb3 : Heap.SameBut e g2 g3) => ?_)
  show wpAny _ _ (newTuple [.int i tk, x] >>= _) _ _ ⟨g3, gn, dw, tk + 1, os⟩
  refine wpAny_bind (wpAny_newTuple ?_)
  have z3 : g3.objs.size = hp.objs.size := by rw [sb3.1, sb2.1, sb1.1]
  let tO : Obj := { cls := .type "tuple", data := .seq #[.int i tk, x] }
  have e4 : IsEnum (g3.push tO) e it ((i : Int) + 1) old := Heap.get?_push_of_some _ e3
  have t4 : (g3.push tO).get? hp.objs.size = some tO := by rw [← z3]; exact Heap.get?_push_size _ rfl
  have k4 : ∀ b o, b ≠ e → b ≠ it → hp.get? b = some o → (g3.push tO).get? b = some o := fun b o be bi hb => Heap.get?_push_of_some _ ((sb3.2 b be).trans ((sb2.2 b be).trans ((sb1.2 b bi).trans hb)))
  have s4 : (g3.push tO).IsTupleIter it t (i + 1) := by
    obtain ⟨o, g, r⟩ := st1
    exact ⟨o, Heap.get?_push_of_some _ ((sb3.2 it (Ne.symm hne)).trans ((sb2.2 it (Ne.symm hne)).trans g)), r⟩
  show wpAny _ _ (Builtin.SmallTypes.ownedTupleIsFree (.ref e) >>= _) _ _ ⟨g3.push tO, gn, dw, tk + 1, os⟩
  rw [z3]
  generalize g3.push tO = g4 at e4 t4 k4 s4
  have ft : ∀ {g g' : Heap}, Heap.SameBut e g g' → ∀ b o, b ≠ e → g.get? b = some o → g'.get? b = some o := fun sb b o be hb => (sb.2 b be).trans hb
  refine wpAny_bind ?_
  unfold Builtin.SmallTypes.ownedTupleIsFree
  refine wpAny_bind (wpAny_field e4 rfl (x := .none) rfl (wpAny_pure ?_))
  simp only [if_true]
  refine wpAny_bind (wpAny_rule (wpAny_bind (wpAny_field e4 rfl (x := old) rfl (wpAny_bind (wpAny_setField_rec e4 (by simp) fun g5 (e5 : IsEnum g5 e it ((i : Int) + 1) x) (sb5 : Heap.SameBut e g4 g5) => ?_)))))
  show wpAny _ _ (Builtin.SmallTypes.ownedTupleHandOut (.ref e) (.ref hp.objs.size) >>= _) _ _ ⟨g5, gn, dw, tk + 1, os⟩
  refine wpAny_bind ?_
  unfold Builtin.SmallTypes.ownedTupleHandOut
  refine wpAny_bind (wpAny_setField_rec e5 (by simp) fun g6 (e6 : IsEnumOut g6 e it ((i : Int) + 1) x hp.objs.size) (sb6 : Heap.SameBut e g5 g6) => ?_)
  refine wpAny_setField_rec e6 (by simp) fun g7 (e7 : IsEnumOut g7 e it ((i : Int) + 1) x hp.objs.size) (sb7 : Heap.SameBut e g6 g7) => ?_
  have all : ∀ b o, b ≠ e → g4.get? b = some o → g7.get? b = some o := fun b o be hb => ft sb7 b o be (ft sb6 b o be (ft sb5 b o be hb))
  refine wpAny_bind (wpAny_letGo (wpAny_pure ⟨_, rfl, wpAny_pure (q g7 e7 ?_ (all _ _ (Nat.ne_of_gt hel) t4) fun b o be bi hb => all b o be (k4 b o be bi hb))⟩))
  obtain ⟨o, g, r⟩ := s4
  exact ⟨o, all it o (Ne.symm hne) g, r⟩
theorem nextOf_tupEnd {it t : Addr} {i : Nat} {xs : Array Value} {Q : Value → Shared → Prop} (hh : A.handled = none) (st : s.heap.IsTupleIter it t i) (tp : s.heap.IsTuple t xs) (hx : xs[i]? = none)
    (q : ∀ g x, Heap.ExtBut it s.heap g → (∃ o, g.get? x = some o ∧ o.cls = .type "StopIteration") → E (.ref x) { s with heap := g }) : wpAny (model prog w) A (Builtin.SmallTypes.nextOf (.ref it)) Q E s := by
  have ty := st.typeIs
  obtain ⟨oi, gi, ci, di⟩ := st
  obtain ⟨ot, gt, ct, nt, dt⟩ := tp
  unfold Builtin.SmallTypes.nextOf
  refine wpAny_bind (wpAny_callSpecial?_slot (name := Str.ofString "__next__") ty PySem.F.slot_tuple_iterator_next (wpAny_call_entry PySem.F.slot_tuple_iterator_next ty PySem.F.entry_tuple_iterator_next ?_ (PySem.F.args_tuple_iterator_next_1 _)))
  show wpAny _ _ (field (.ref it) 0 >>= _) _ _ s
  refine wpAny_bind (wpAny_field gi di (x := .ref t) rfl ?_)
  show wpAny _ _ (if (Value.ref t == Value.none) = true then _ else _) _ _ s
  rw [if_neg (show ¬ ((Value.ref t == Value.none) = true) by simp)]
  show wpAny _ _ (field (.ref it) 1 >>= _) _ _ s
  refine wpAny_bind (wpAny_field gi di (x := .int i 0) rfl ?_)
  show wpAny _ _ (seqItems? (.ref t) >>= _) _ _ s
  refine wpAny_bind (wpAny_seqItems gt dt ?_)
  simp only [Int.toNat_natCast, hx]
  refine wpAny_bind (wpAny_rule (wpAny_bind (wpAny_setField gi di (by simp) ?_)))
  show wpAny _ _ (newExc (.type "StopIteration") [] >>= _) _ _ _
  refine wpAny_bind ?_
  simp only [newExc, newTuple]
  refine wpAny_bind (wpAny_newObj_type (wpAny_bind (m := firstArgMember _ _) (wpAny_of_eq (a := Value.none) (by first | rfl | (simp only [firstArgMember]; rfl)) (wpAny_newObj_type ?_ (by size_fits)))) (by size_fits))
  simp only [raiseNew]
  refine wpAny_bind (wpAny_handled ?_)
  first | rw [show A.in1.handled = none from hh] | rw [hh]
  exact wpAny_bind (wpAny_pure (wpAny_throw (q _ _ (((Heap.SameBut.update ..).extBut.push _).push _) ⟨_, Heap.get?_push_size _ rfl, rfl⟩)))
theorem enumT_end {e it t : Addr} {i : Nat} {xs : Array Value} {old : Value} {Q : Option Value → Shared → Prop} (hh : A.handled = none) (he : IsEnum s.heap e it i old) (st : s.heap.IsTupleIter it t i) (tp : s.heap.IsTuple t xs) (hx : xs[i]? = none)
    (q : ∀ g, Heap.ExtBut it s.heap g → Q none { s with heap := g }) : wpAny (model prog w) A (pyNext (.ref e)) Q E s := by
  have ty : s.TypeIs (.ref e) "enumerate" := ⟨_, he, rfl⟩
  unfold pyNext
  refine wpAny_bind (wpAny_attempt (wpAny_callSpecial?_slot (name := Str.ofString "__next__") ty PySem.F.slot_enumerate_next (wpAny_call_entry PySem.F.slot_enumerate_next ty PySem.F.entry_enumerate_next ?_ (PySem.F.args_enumerate_next_1 _))))
  show wpAny _ _ (field (.ref e) 2 >>= _) _ _ _
  refine wpAny_bind (wpAny_field he rfl (x := .ref it) rfl (wpAny_bind (nextOf_tupEnd hh st tp hx fun g x eb ⟨o, ho, hc⟩ => ?_)))
  exact wpAny_bind (wpAny_isInstance (T := "StopIteration") (b := true) ⟨o, ho, hc⟩ isSubtype_stop (wpAny_pure (q _ eb)))
end
open AutoSeq1 (wpAny_loadPart') in
/-- enumerate(t) -/
theorem meets_enumT (t : Addr) (o : Obj) (xs : Array Value) (n : Nat) (hc : o.cls = .type "tuple") (hd : o.data = .seq xs n) :
    Meets (Builtin.«enumerate.__new__» ⟨[.type "enumerate", .ref t], []⟩) (fun _ R s => s.heap.get? t = some o ∧
      R (.ok (.ret (.ref (s.heap.push { cls := .type "tuple_iterator", data := .fields #[.ref t, .int 0 0] }).objs.size)))
        { s with heap := (s.heap.push { cls := .type "tuple_iterator", data := .fields #[.ref t, .int 0 0] }).push { cls := .type "enumerate", data := .fields #[.none, .bool false, .ref s.heap.objs.size, rawInt 0, .none, .none] } }) :=
  .of_wp fun prog w A R s h => by
    obtain ⟨hp, g, d, tk, os⟩ := s
    obtain ⟨ht, h⟩ := h
    have hsub := sub_enumerate
    have tp : Heap.IsTuple (Shared.heap ⟨hp, g, d, tk, os⟩) t xs := ⟨o, ht, hc, n, hd⟩
    wp_walk using wpAny_loadPart' ht
    refine wpAny_stack_any fun st => wpAny_pure ?_
    split
    · rename_i c _ _ _ _ _
      cases (c == Value.type "enumerate")
      · wp_walk using wpAny_loadPart' ht, wpAny_pyIter_tuple tp
        exact ⟨_, rfl, h⟩
      · wp_walk using wpAny_loadPart' ht, wpAny_pyIter_tuple tp
        exact ⟨_, rfl, h⟩
    · wp_walk using wpAny_loadPart' ht, wpAny_pyIter_tuple tp
      exact ⟨_, rfl, h⟩
section
end
end L2
namespace L2
open PySem PySem.Spec PyProof.Rows
section
variable {prog : Program} {w : World} {A : Around} {E : Value → Shared → Prop} {s : Shared}
noncomputable abbrev itO (t : Addr) : Obj := { cls := .type "tuple_iterator", data := .fields #[.ref t, .int 0 0] }
noncomputable abbrev enO (it : Addr) : Obj := { cls := .type "enumerate", data := .fields #[.none, .bool false, .ref it, rawInt 0, .none, .none] }
theorem call_enumT {t : Addr} {xs : Array Value} {Q : Value → Shared → Prop} (tp : s.heap.IsTuple t xs)
    (h : IsEnum ((s.heap.push (itO t)).push (enO s.heap.objs.size)) (s.heap.objs.size + 1) s.heap.objs.size 0 .none → Q (.ref (s.heap.objs.size + 1)) { s with heap := (s.heap.push (itO t)).push (enO s.heap.objs.size) }) :
    wpAny (model prog w) A (call (.type "enumerate") [.ref t]) Q E s := by
  obtain ⟨o, ht, hc, n, hd⟩ := tp
  have z : (s.heap.push (itO t)).objs.size = s.heap.objs.size + 1 := Heap.size_push ..
  have made := Heap.get?_push_size (s.heap.push (itO t)) (o := enO s.heap.objs.size) rfl
  rw [z] at made
  refine callType_new PySem.F.called_enumerate (by decide) (PySem.F.typeCall_enumerate_1 _) (PySem.F.newCall_enumerate_1 _) (fun obj => PySem.F.args_object_init_2 obj _) PySem.F.entry_enumerate_new (meets_enumT t o xs n hc hd) ⟨ht, ?_⟩
  show _ ∧ _
  rw [z]
  exact ⟨⟨_, made, rfl⟩, h made⟩
end
/-- (0, x0), (1, x1), .. of a tuple -/
noncomputable def Ite (K : PySem.W.Frag) (a : Addr) : It :=
  ⟨fun i H => ∃ xs x, SqT K H a xs ∧ xs[i]? = some x, fun i H y H' => ∃ p x, y = .ref p ∧ H p = none ∧ H' = upd H p (.tup [.int i, x]) ∧ ∀ xs, SqT K H a xs → xs[i]? = some x, fun i H => ∃ xs, SqT K H a xs ∧ xs.length ≤ i⟩
theorem turn_enumT {P : Program} {w : World} {K : PySem.W.Frag} {elts : List Expr} {c : Nat} {tp : Pos} (a e it : Addr) (hne : e ≠ it) :
    Turn P w K (.Tuple elts c tp) (Ite K a) [e, it] e (fun i h => (∃ old, IsEnum h e it i old) ∧ h.IsTupleIter it a i) where
  mem := by simp
  obj := fun i h ⟨⟨old, he⟩, o, g, _, d⟩ b hb => by
    rcases List.mem_cons.mp hb with rfl | hb
    · exact ⟨_, he, fun v z => by cases z⟩
    · cases List.mem_singleton.mp hb
      exact ⟨o, g, fun v z => by rw [d] at z; cases z⟩
  keep := fun i h h' ⟨⟨old, he⟩, o, g, r⟩ k => ⟨⟨old, k e (by simp) _ he⟩, o, k it (by simp) o g, r⟩
  item := by
    intro X hP hw hK hc i pins s σ H E I hf ⟨⟨old, he⟩, st⟩ hg
    subst hP hw hK
    obtain ⟨xs, x, hq, hx⟩ := hg
    obtain ⟨its, rv, p, hz⟩ := I.tuple hq
    obtain ⟨u, hu, ru⟩ := rv.get hx
    have fe := hf e (by simp)
    have fi := hf it (by simp)
    have nn : H s.heap.objs.size = none := I.hok.fresh (Nat.le_refl _)
    refine enumT_item he st (show s.heap.IsTuple a its.toArray from p) (x := u) (by simpa using hu) hne fun g eo st' t' kp => ?_
    refine ⟨_, rfl, wpAny_letOwnedTupleGo_enum eo fun g2 e2 sb => ?_⟩
    have sb : Heap.SameBut e g g2 := sb
    have hel : s.heap.objs.size ≠ e := Nat.ne_of_gt (Heap.lt_size he)
    have k2 : ∀ b o, b ≠ e → b ≠ it → s.heap.get? b = some o → g2.get? b = some o := fun b o be bi hb => (sb.2 b be).trans (kp b o be bi hb)
    have tracked : ∀ b u, H b = some u → b ≠ e ∧ b ≠ it := fun b u hb => ⟨ne_of_none hb fe.1, ne_of_none hb fi.1⟩
    have t2 : g2.get? s.heap.objs.size = some { cls := .type "tuple", data := .seq #[.int i s.toks, u] } := (sb.2 _ hel).trans t'
    have st2 : g2.IsTupleIter it a (i + 1) := by
      obtain ⟨o, go, r⟩ := st'
      exact ⟨o, (sb.2 it (Ne.symm hne)).trans go, r⟩
    refine ⟨.ref s.heap.objs.size, upd H s.heap.objs.size (.tup [.int i, x]), I.call' (ch := [e, it]) rfl ⟨fun b o q n hb hx => ?_, fun b o q n hb hx => ?_, fun b o q n hx => ?_, fun b o q hx => ?_, fun b ys q => ?_, fun b o v q => ?_, fun b ps q => ?_⟩ (fun b v q => ?_) I.bare (fun b hb => ?_), rfl, ⟨_, x, rfl, nn, rfl, fun ys hy => by rw [I.tuple_inj hy hq]; exact hx⟩, ⟨⟨u, e2⟩, st2⟩, fun b hb => ?_⟩
    · exact k2 b o (fun z => hx (by simp [z])) (fun z => hx (by simp [z])) q
    · exact ⟨o.slots, k2 b o (fun z => hx (by simp [z])) (fun z => hx (by simp [z])) q⟩
    · rw [upd_ne (Nat.ne_of_lt (Heap.lt_size q))]
      exact n
    · exact ⟨o, k2 b o (fun z => hx (by simp [z])) (fun z => hx (by simp [z])) q⟩
    · rw [upd_ne (ne_of_none q nn)]; exact q
    · rw [upd_ne (ne_of_none q nn)]; exact q
    · exact ⟨#[], by rw [upd_ne (ne_of_none q nn), Array.append_empty]; exact q⟩
    · by_cases hb : b = s.heap.objs.size
      · subst hb
        rw [upd_same] at q
        cases q
        exact ⟨by show 2 ≤ sizeLine; decide, [.int i s.toks, u], .cons ⟨_, rfl⟩ (.cons ru .nil), _, t2, rfl, _, rfl⟩
      · rw [upd_ne hb] at q
        refine (I.hok b v q).stay (fun c w' hc z => ?_) (fun c z => by rw [upd_ne (ne_of_none z nn)]; exact z) fun c ys z => by rw [upd_ne (ne_of_none z nn)]; exact z
        rcases hc with rfl | hc
        · exact k2 c w' (tracked c v q).1 (tracked c v q).2 z
        · exact k2 c w' (tracked c _ hc).1 (tracked c _ hc).2 z
    · rcases List.mem_cons.mp hb with rfl | hb
      · exact ⟨fe.2.2.2.1, fe.2.1, fe.2.2.2.2⟩
      · cases List.mem_singleton.mp hb
        exact ⟨fi.2.2.2.1, fi.2.1, fi.2.2.2.2⟩
    · have hb1 := (hf b hb).1
      have : b ≠ s.heap.objs.size := by
        rcases List.mem_cons.mp hb with rfl | hb
        · exact Ne.symm hel
        · cases List.mem_singleton.mp hb
          obtain ⟨o, go, _⟩ := st
          exact Nat.ne_of_lt (Heap.lt_size go)
      rw [upd_ne this]
      exact hb1
  done := by
    intro X hP hw hK hc i pins s σ H E I hf ⟨⟨old, he⟩, st⟩ hg
    subst hP hw hK
    obtain ⟨xs, hq, hx⟩ := hg
    obtain ⟨its, rv, p, hz⟩ := I.tuple hq
    obtain ⟨f0, f1, f2, f3, f4, f5⟩ := hf it (by simp)
    have hl := rv.length
    exact enumT_end (I.ok.hd hc) he st (show s.heap.IsTuple a its.toArray from p) (by simp; omega) fun g eb => ⟨rfl, I.turned (t' := s.toks) (fun b o hb e => eb b o hb e) f0 f1 f3 f4 f5⟩
  self := fun _ _ _ _ _ ⟨⟨old, he⟩, _⟩ h => wpAny_pyIter_enum he h
section
variable {X : Cx}
noncomputable def iEnumT (K : PySem.W.Frag) (ta : TA) : TI := fun σ H R => ta σ H fun vs H1 => ∃ a xs, vs = [.ref a] ∧ SqT K H1 a xs ∧ R (Ite K a) H1
theorem pi_enumT {elts : List Expr} {c : Nat} {tp : Pos} {a : Expr} {ta : TA} {p pos : Pos} (hg : Gl X "enumerate") (hm : X.mg "enumerate" = none) (ha : PA X [a] ta) (hs : starEach [a] X.env = [(false, eval a X.env)] := by rfl) : PI X (.Tuple elts c tp) (.Call (.Name "enumerate" p) [a] [] pos) (iEnumT X.K ta) := by
  intro pins s σ H R I h
  refine Call_ (ld_blt I hg hm boot_enumerate (PyProof.Rows.callWith_type1 (thn (ha pos pins s σ H _ I h) fun us s1 ⟨vs, H1, I1, r1, q1⟩ => ?_) hs rfl))
  obtain ⟨b, xs, rfl, hq, q⟩ := q1
  cases r1 with
  | cons r rr =>
    cases rr
    cases r
    obtain ⟨its, rv, tp, hz⟩ := I1.tuple hq
    refine call_enumT (show s1.heap.IsTuple b its.toArray from tp) fun he => ?_
    refine wpAny_pyIter_enum he ?_
    have kp : ∀ c o, s1.heap.get? c = some o → ((s1.heap.push (itO b)).push (enO s1.heap.objs.size)).get? c = some o := fun c o z => Heap.get?_push_of_some _ (Heap.get?_push_of_some _ z)
    refine ⟨s1.heap.objs.size + 1, [s1.heap.objs.size + 1, s1.heap.objs.size], _, _, H1, rfl, I1.kept (t' := s1.toks) kp, turn_enumT b _ _ (Nat.succ_ne_self _), ⟨⟨.none, he⟩, _, Heap.get?_push_of_some _ (Heap.get?_push_size _ rfl), rfl, rfl⟩, fun c hc => ?_, q⟩
    have hc : s1.heap.objs.size ≤ c := by
      rcases List.mem_cons.mp hc with z | z
      · rw [z]; exact Nat.le_succ _
      · rw [List.mem_singleton.mp z]; exact Nat.le_refl _
    exact I1.fpOk hc (I1.hok.fresh hc)
end
end L2
namespace L2
open PySem PySem.Spec PyProof.Rows
section
variable {X : Bc} {n : Nat} {S : Sl} {W : Wl} {D : DB}
end
end L2
namespace K1
open PySem L2
noncomputable def LET : Str := "abcdefghijklmnopqrstuvwxyz"
noncomputable def isNm (x : Str) : Bool := (decide (1 ≤ x.length) && decide (x.length ≤ 8)) && x.cps.toList.all fun c => decide (97 ≤ c) && decide (c ≤ 122)
theorem let_len : LET.length = 26 := by decide +kernel
theorem let_get (i : Nat) (h : i < 26) : LET.cps[i]? = some (97 + i) := by
  have : ∀ j : Fin 26, LET.cps[j.1]? = some (97 + j.1) := by decide +kernel
  exact this ⟨i, h⟩
theorem in_let (c : Nat) : (!(Builtin.Str.occurrences LET ⟨#[c]⟩ 0 LET.length 1).isEmpty) = (decide (97 ≤ c) && decide (c ≤ 122)) := by
  have sub1 : ∀ i, Builtin.Str.subAt LET ⟨#[c]⟩ i = true ↔ LET.cps[i]? = some c := fun i => by
    unfold Builtin.Str.subAt
    show (LET.cps.extract i (i + 1) == #[c]) = true ↔ _
    rw [beq_iff_eq]
    have hs : LET.cps.size = 26 := let_len
    by_cases hi : i < 26
    · rw [let_get i hi]
      have : LET.cps.extract i (i + 1) = #[97 + i] := by
        apply Array.ext
        · simp [hs]; omega
        · intro j h1 h2
          have hj : j = 0 := by simp at h2; omega
          subst hj
          have := let_get i hi
          rw [Array.getElem_extract]
          simp
          rw [Array.getElem?_eq_getElem (by omega)] at this
          simpa using this
      rw [this]
      simp
    · constructor
      · intro e
        have := congrArg Array.size e
        simp [hs] at this
        omega
      · intro e
        rw [Array.getElem?_eq_none (by omega)] at e
        cases e
  rcases PySem.StrLaws.occ_head LET ⟨#[c]⟩ 1 (Nat.le_refl _) with ⟨h0, hn⟩ | ⟨i, r, h0, hi, _⟩
  · rw [h0]
    by_cases hc : 97 ≤ c ∧ c ≤ 122
    · exfalso
      refine hn (c - 97) ⟨?_, (sub1 _).mpr ?_⟩
      · rw [let_len]; show c - 97 + 1 ≤ 26; omega
      · rw [let_get _ (by omega)]; congr 1; omega
    · have : (decide (97 ≤ c) && decide (c ≤ 122)) = false := by
        by_cases h1 : 97 ≤ c
        · have : ¬ c ≤ 122 := fun h2 => hc ⟨h1, h2⟩
          simp [this]
        · simp [h1]
      rw [this]
      rfl
  · rw [h0]
    have e := (sub1 i).mp hi.2
    have hlt : i < 26 := by
      have := hi.1
      rw [let_len] at this
      have : i + 1 ≤ 26 := this
      omega
    rw [let_get i hlt] at e
    have e : 97 + i = c := Option.some.inj e
    have h1 : 97 ≤ c := by omega
    have h2 : c ≤ 122 := by omega
    simp [h1, h2]
noncomputable abbrev cs (x : Str) : List Nat := x.cps.toList
theorem cs_len (x : Str) : (cs x).length = x.length := Array.length_toList
theorem cs_app (x y : Str) : cs (x ++ y) = cs x ++ cs y := by
  show (x.cps ++ y.cps).toList = _
  simp
theorem nm_iff {x : Str} : isNm x = true ↔ 1 ≤ (cs x).length ∧ (cs x).length ≤ 8 ∧ ∀ c ∈ cs x, 97 ≤ c ∧ c ≤ 122 := by
  unfold isNm
  rw [← cs_len]
  show ((decide (1 ≤ (cs x).length) && decide ((cs x).length ≤ 8)) && (cs x).all fun c => decide (97 ≤ c) && decide (c ≤ 122)) = true ↔ _
  generalize cs x = l
  simp [and_assoc]
structure Deed where
  tk : Bool
  x : Str
  y : Str
  w : Str
  deriving DecidableEq
noncomputable def Deed.kd (d : Deed) : Str := if d.tk then "take" else "send"
structure Deed.Ok (d : Deed) : Prop where
  x : isNm d.x = true
  y : isNm d.y = true
  w : isNm d.w = true
  ne : d.x ≠ d.y
theorem kd_or (d : Deed) : d.kd = "send" ∨ d.kd = "take" := by
  unfold Deed.kd
  split
  · exact .inr rfl
  · exact .inl rfl
noncomputable def dP (d : Deed) : PyData := .tuple [.str d.kd, .str d.x, .str d.y, .str d.w]
noncomputable def rP (ds : List Deed) : PyData := .tuple (ds.map dP)
theorem nm_len {x : Str} (h : isNm x = true) : x.length ≤ 8 := by
  obtain ⟨_, h2, _⟩ := nm_iff.mp h
  rw [cs_len] at h2
  exact h2
theorem nm_strOk {x : Str} (h : isNm x = true) : PyData.strOk x = true := by
  have h3 := (nm_iff.mp h).2.2
  show x.cps.all (· < 0x110000) = true
  rw [Array.all_eq_true_iff_forall_mem]
  intro c hc
  have := h3 c (by simpa using hc)
  simp
  omega
end K1
namespace K1
open PySem L2
theorem cut_to {α : Type} (xs : List α) (k : Nat) : cutL xs none (some (k : Int)) = xs.take k := by
  unfold cutL
  have e1 : HT.sIx xs.length 0 none = 0 := rfl
  have e2 : HT.sIx xs.length xs.length (some (k : Int)) = min k xs.length := HT.sIx_nat xs.length xs.length k
  rw [e1, e2, List.drop_zero, Nat.sub_zero]
  by_cases h : k ≤ xs.length
  · rw [Nat.min_eq_left h]
  · rw [List.take_of_length_le (by omega), List.take_of_length_le (by omega)]
theorem atI_nat' {α : Type} {xs : List α} {k : Nat} {x : α} (h : xs[k]? = some x) : atI xs (k : Int) = some x := by
  have hk := (List.getElem?_eq_some_iff.mp h).1
  unfold atI ixN
  rw [if_pos (by omega), if_pos (by omega)]
  simpa using h
end K1
namespace K1
open PySem L2
theorem eqv_strs : ∀ (a b : List Str), PyData.eqvAll (a.map .str) (b.map .str) = decide (a = b)
  | [], [] => by simp [PyData.eqvAll]
  | [], _ :: _ => by simp [PyData.eqvAll]
  | _ :: _, [] => by simp [PyData.eqvAll]
  | d :: ds, e :: es => by
    simp only [List.map_cons, PyData.eqvAll, eqv_strs ds es, PyData.eqv]
    rw [Bool.eq_iff_iff]
    simp
theorem lay_strs : ∀ {ns : List Str}, (∀ x ∈ ns, PyData.strOk x = true) → PyData.canLayAll0 (ns.map .str) = true ∧ PyData.depthAll (ns.map .str) ≤ 1
  | [], _ => ⟨rfl, by simp [PyData.depthAll]⟩
  | x :: r, h => by
    obtain ⟨h1, h2⟩ := lay_strs fun y hy => h y (List.mem_cons_of_mem _ hy)
    refine ⟨by simp [PyData.canLayAll0, PyData.canLay0, h1, h x List.mem_cons_self], ?_⟩
    simp only [List.map_cons, PyData.depthAll, PyData.depth]
    omega
theorem dat_strl {ns : List Str} (h : ∀ x ∈ ns, PyData.strOk x = true) : Dat (.list (ns.map .str)) := by
  obtain ⟨h1, h2⟩ := lay_strs h
  exact ⟨by simp [PyData.canLay0, h1], by simp only [PyData.depth]; omega⟩
end K1
namespace K1
open PySem L2
end K1
namespace L2
open PySem PySem.Spec PyProof.Rows PySem.SeqAt PySem.MeetsSeq
theorem remove_loopAt (l : Addr) (items : Array Value) (n : Nat) (x : Value) (e : Value → Bool) (j : Nat) (hj : j < items.size) (hit : e items[j] = true) (hs1 : items.size ≤ sizeLine) (k : Nat) :
    ∀ i : Nat, j - i = k → i ≤ j → (∀ m (hm : m < items.size), i ≤ m → m < j → e items[m] = false) → Meets (Builtin.«list.remove.loop» ⟨[.ref l, x, rawInt i], []⟩)
      (fun A R s => s.heap.get? l = some { cls := .type "list", dict := none, data := .seq items n, slots := #[] } ∧ (∀ y, y ∈ items → EqAt A.in1 s y x (e y)) ∧ R (.ok (.ret .none)) { s with heap := s.heap.update l (Obj.mapSeq fun xs => xs.eraseIdxIfInBounds j) }) := by
  induction k with
  | zero =>
    intro i hk hij hno prog w A R s h
    obtain ⟨hp, g, d, tk, os⟩ := s
    obtain ⟨hl, he, h⟩ := h
    obtain rfl : i = j := by omega
    wp_walk using wpAny_loadPart' hl
    have hi : items[((i : Nat) : Int).toNat]? = some items[i] := by simp [hj]
    rw [hi]
    refine wpAny_bind (he _ (Array.getElem_mem hj) prog w _ _ ?_)
    rw [hit]
    have hz' : (items.eraseIdxIfInBounds i).size ≤ sizeLine + 1 := Nat.le_trans (size_erased items _) (Nat.le_succ_of_le hs1)
    wp_walk using (wpAny_updateSeq hl rfl (hz := hs1) (_hz' := hz')), wpAny_loadPart' hl
    simpa using h
  | succ k ih =>
    intro i hk hij hno prog w A R s h
    obtain ⟨hp, g, d, tk, os⟩ := s
    obtain ⟨hl, he, h⟩ := h
    have hlt : i < items.size := by omega
    wp_walk using wpAny_loadPart' hl
    have hi : items[((i : Nat) : Int).toNat]? = some items[i] := by simp [hlt]
    have hc : ((i : Int) + 1) = ((i + 1 : Nat) : Int) := by push_cast; rfl
    rw [hi]
    refine wpAny_bind (he _ (Array.getElem_mem hlt) prog w _ _ ?_)
    rw [hno i hlt (Nat.le_refl _) (by omega)]
    wp_walk
    rw [hc]
    exact ⟨plainId_quiet plain_remove_loop _, codeAny_builtin entry_remove_loop (by
      rw [Around.under_plainId plain_remove_loop _]
      exact ih (i + 1) (by omega) (by omega) (fun m hm h1 h2 => hno m hm (by omega) h2) prog w A R _ ⟨hl, he, h⟩)⟩
theorem list_removeAt (l : Addr) (items : Array Value) (n : Nat) (x : Value) (e : Value → Bool) (j : Nat) (hj : j < items.size) (hit : e items[j] = true) (hs1 : items.size ≤ sizeLine) (hno : ∀ m (hm : m < items.size), m < j → e items[m] = false) :
    Meets (Builtin.«list.remove» ⟨[.ref l, x], []⟩)
      (fun A R s => s.heap.get? l = some { cls := .type "list", dict := none, data := .seq items n, slots := #[] } ∧ (∀ y, y ∈ items → EqAt A.in1 s y x (e y)) ∧ R (.ok (.ret .none)) { s with heap := s.heap.update l (Obj.mapSeq fun xs => xs.eraseIdxIfInBounds j) }) := by
  intro prog w A R s h
  obtain ⟨hp, g, d, tk, os⟩ := s
  obtain ⟨hl, he, h⟩ := h
  wp_walk using wpAny_loadPart' hl
  exact ⟨plainId_quiet plain_remove_loop _, codeAny_builtin entry_remove_loop (by
    rw [Around.under_plainId plain_remove_loop _]
    exact remove_loopAt l items n x e j hj hit hs1 _ 0 rfl (Nat.zero_le _) (fun m hm _ h2 => hno m hm h2) prog w A R _ ⟨hl, he, h⟩)⟩
section
variable {X : Bc} {S : Sl} {W : Wl} {k : KB}
theorem pd_erase {α β : Type} {F : α → β → Prop} : ∀ {l : List α} {m : List β} (i : Nat), Paired F l m → Paired F (l.eraseIdx i) (m.eraseIdx i)
  | _, _, _, .nil => .nil
  | _, _, 0, .cons _ t => t
  | _, _, i + 1, .cons r t => .cons r (pd_erase i t)
theorem mt_removeQ (hu : X.A.units + 100 < cLine) : MtR X "list.remove" (fun x vs H Q => ∃ l xs y ds d m, x = .ref l ∧ vs = [y] ∧ H l = some (.lst xs) ∧ Paired (fun d v => Rq X.K H v d) ds xs ∧ Rq X.K H y d ∧ PyData.canLayAll0 ds = true ∧ Dat d ∧ ds.findIdx? (fun z => PyData.eqv z d) = some m ∧ xs.length ≤ sizeLine ∧ Q .non (upd H l (.lst (xs.eraseIdx m)))) := by
  intro pins s σ H x vs v us Q I rx rv h
  obtain ⟨l, xs, y, ds, d, m, rfl, rfl, hH, pd, rd, hc, hd, hm, hz, q⟩ := h
  cases rx
  obtain ⟨u, rfl, ru⟩ := rv.one
  obtain ⟨z, its, n, r, hl, e⟩ := I.lstM hH
  obtain ⟨as, ra⟩ := Rqs.reads I ds hc (Rqs.of pd) r
  obtain ⟨bs, rb⟩ := Rq.reads I d hd.lay rd ru
  have hlen : its.length = ds.length := r.length.symm.trans (pd_len pd).symm
  rw [List.findIdx?_eq_some_iff_getElem] at hm
  obtain ⟨hm1, hm2, hm3⟩ := hm
  have rdm : ∀ (i : Nat) (h1 : i < its.length) (h2 : i < ds.length), readOf s.heap its[i] = ds[i] := fun i h1 h2 => by
    have := readsAll_map ds _ _ hc ra
    have e2 := congrArg (fun l => l[i]?) this
    simp [h1, h2] at e2
    exact e2
  have hsz : its.length ≤ sizeLine := by rw [← r.length]; exact hz
  refine call_meets PySem.F.slot_list_remove ⟨_, e, rfl⟩ PySem.F.entry_list_remove (PySem.F.args_list_remove_2 _ _) (list_removeAt l its.toArray n u (fun y => PyData.eqv (readOf s.heap y) d) m (by rw [List.size_toArray]; omega) ?_ (by rw [List.size_toArray]; exact hsz) ?_) ⟨e, ?_, ?_⟩
  · have := rdm m (by omega) hm1
    simp [this]
    exact hm2
  · intro i h1 h2
    have h1 : i < its.length := by simpa using h1
    have := rdm i h1 (by omega)
    simp [this]
    simpa using hm3 i h2
  · refine items_eqAt (by simpa using ra) rb hc hd.lay ?_
    have h1 := hd.dep
    have h2 : min (PyData.depthAll ds) d.depth ≤ 64 := Nat.le_trans (Nat.min_le_right _ _) h1
    omega
  · have he : (its.toArray.eraseIdxIfInBounds m) = (its.eraseIdx m).toArray := by
      apply Array.toList_inj.mp
      simp [Array.toList_eraseIdxIfInBounds]
    have hr : Vals (xs.eraseIdx m) (its.eraseIdx m) := by
      have : Paired RelV xs its := r
      exact pd_erase m this
    refine ⟨.non, _, I.lset (its' := its.eraseIdx m) hH e ?_ hr ?_, rfl, q⟩
    · show its.toArray.eraseIdxIfInBounds m = (its.eraseIdx m).toArray
      rw [List.eraseIdxIfInBounds_toArray]
    · have := len_erase xs m
      omega
theorem datas_erase (ds : List PyData) (m : Nat) : (datas ds).eraseIdx m = datas (ds.eraseIdx m) := by
  unfold datas
  induction ds generalizing m with
  | nil => rfl
  | cons d ds ih => cases m with
    | zero => rfl
    | succ m => simp [ih]
theorem mb_remove {j m : Nat} {ds : List PyData} {d : PyData} (hu : X.A.units + 100 < cLine) (hj : W[j]? = some (.lst (datas ds))) (hc : PyData.canLayAll0 ds = true) (hd : Dat d) (hm : ds.findIdx? (fun z => PyData.eqv z d) = some m) (hl : ds.length ≤ sizeLine) (h : k (.d .none) (W.set j (.lst (datas (ds.eraseIdx m))))) :
    MB X "list" "list.remove" (.o j) [.d d] W k := .of (mt_removeQ hu) fun F A H Q v vs r zx z q => by
  obtain ⟨a, ws, rfl, ha, hH, p⟩ := r.at zx hj
  obtain ⟨u, rfl, zu⟩ := pd_one z
  refine ⟨a, ws, u, ds, d, m, rfl, rfl, hH, pd_imp (fun _ _ t => Rq.same r.sub _ t) (pd_datas p), Rq.same r.sub _ zu, hc, hd, hm, by rw [← pd_len p]; simpa [datas] using hl, ?_⟩
  refine q.put r ha (o := .lst (datas (ds.eraseIdx m))) ⟨_, rfl, ?_⟩ (.dd Rq.non) h
  rw [← datas_erase]
  exact pd_erase m p
theorem op_inQ (neg : Bool) (hu : X.A.units + 100 < cLine) : OpR X (compareOp (if neg then .NotIn else .In)) (fun x y H Q => ∃ d ds, Rq X.K H x d ∧ (Rq X.K H y (.list ds) ∨ Rq X.K H y (.tuple ds)) ∧ Dat d ∧ PyData.canLayAll0 ds = true ∧ Q (.bl (if neg then !(ds.any fun z => PyData.eqv z d) else ds.any fun z => PyData.eqv z d)) H) := by
  intro pins s σ H x y v u Q I rx ry h
  obtain ⟨d, ds, rd, re, hd, hc, q⟩ := h
  obtain ⟨as, h1⟩ := Rq.reads I d hd.lay rd rx
  have hdep : X.A.units + 1 + min (PyData.depthAll ds) d.depth < cLine := by
    have h1 := hd.dep
    have h2 : min (PyData.depthAll ds) d.depth ≤ 64 := Nat.le_trans (Nat.min_le_right _ _) h1
    omega
  rcases re with re | re
  · obtain ⟨bs, h2⟩ := Rq.reads I (.list ds) (by simpa [PyData.canLay0] using hc) re ry
    cases neg with
    | false => exact SeqAt.in_list_reads h2 h1 hc hd.lay hdep ⟨.bl _, H, I, rfl, q⟩
    | true => exact SeqAt.notIn_list_reads h2 h1 hc hd.lay hdep ⟨.bl _, H, I, rfl, q⟩
  · obtain ⟨bs, h2⟩ := Rq.reads I (.tuple ds) (by simpa [PyData.canLay0] using hc) re ry
    cases neg with
    | false => exact SeqAt.in_tuple_reads h2 h1 hc hd.lay hdep ⟨.bl _, H, I, rfl, q⟩
    | true => exact SeqAt.notIn_tuple_reads h2 h1 hc hd.lay hdep ⟨.bl _, H, I, rfl, q⟩
theorem ob_inQ (neg : Bool) {d : PyData} {y : El} {ds : List PyData} (hu : X.A.units + 100 < cLine) (hy : lstD W y ds ∨ y = .d (.tuple ds)) (hd : Dat d) (hc : PyData.canLayAll0 ds = true) (h : k (.d (.bool (if neg then !(ds.any fun z => PyData.eqv z d) else ds.any fun z => PyData.eqv z d))) W) : OB X (compareOp (if neg then .NotIn else .In)) (.d d) y W k :=
  .of (op_inQ neg hu) fun F A H Q vx vy r zx zy q => by
    refine ⟨d, ds, Rq.same r.sub _ zx, ?_, hd, hc, q.same r (.dd (Rq.bl _)) h⟩
    rcases hy with hy | rfl
    · exact .inl (r.dat zy (.inr ⟨ds, rfl, hy⟩))
    · exact .inr (Rq.same r.sub _ zy)
end
end L2
namespace L2
open PySem PySem.Spec PyProof.Rows
inductive BF where
  | len | all | any | abs | divmod | max | min | tuple | int
  deriving DecidableEq
inductive MF where
  | append | pop | get | setdefault | remove
  deriving DecidableEq
inductive TF where
  | int | bool | str | tuple | list | dict
  deriving DecidableEq
mutual
inductive ME where
  | no
  | v (i : Nat)
  | g (x : Str)
  | c (d : PyData)
  | op (o : Operator) (a b : ME)
  | cmp (o : CmpOp) (a b : ME)
  | chain (o o' : CmpOp) (a b c : ME)
  | and (es : MEs)
  | or (es : MEs)
  | not (a : ME)
  | ife (c a b : ME)
  | tup (es : MEs)
  | key (es : MEs)
  | lst (own : Bool) (es : MEs)
  | dic (kind : Nat)
  | call (f : Str) (es : MEs)
  | bi (f : BF) (es : MEs)
  | isi (e : ME) (T : TF)
  | meth (m : MF) (o : ME) (es : MEs)
  | ix (a b : ME)
  | sl (a : ME) (lo hi : MO)
  | comp (own : Bool) (O Fv : List Str) (cap : List Nat) (tg : MT) (it : MI) (cond : MEs) (elt : ME)
inductive MEs where
  | nil
  | cons (e : ME) (es : MEs)
inductive MO where
  | no
  | some (e : ME)
inductive MI where
  | seq (e : ME)
  | range (e : ME)
inductive MT where
  | name (i : Nat)
  | tup (ts : MTs)
  | sub (o i : ME)
inductive MTs where
  | nil
  | cons (t : MT) (ts : MTs)
end
mutual
inductive MS where
  | no
  | pass
  | expr (e : ME)
  | set (t : MT) (e : ME)
  | aug (i : Nat) (o : Operator) (e : ME)
  | ret (e : ME)
  | ifs (c : ME) (a b : MSs)
  | for_ (t : MT) (it : MI) (b : MSs)
  | enum (t : MT) (e : ME) (b : MSs)
  | raise_ (C : Str) (es : MEs)
inductive MSs where
  | nil
  | cons (s : MS) (ss : MSs)
end
inductive Res (α : Type) where
  | ok (a : α) (W : Wl)
  | exc (C : Str) (W : Wl)
  | stuck
noncomputable def Res.bind {α β : Type} (r : Res α) (f : α → Wl → Res β) : Res β := match r with
  | .ok a W => f a W
  | .exc C W => .exc C W
  | .stuck => .stuck
@[simp] theorem Res.bind_ok {α β : Type} (a : α) (W : Wl) (f : α → Wl → Res β) : (Res.ok a W).bind f = f a W := rfl
@[simp] theorem Res.bind_exc {α β : Type} (C : Str) (W : Wl) (f : α → Wl → Res β) : (Res.exc C W).bind f = .exc C W := rfl
@[simp] theorem Res.bind_stuck {α β : Type} (f : α → Wl → Res β) : (Res.stuck : Res α).bind f = .stuck := rfl
/-- only where it holds -/
noncomputable def Res.when {α : Type} (b : Prop) [Decidable b] (r : Res α) : Res α := @ite _ b (Classical.propDecidable b) r .stuck
theorem Res.when_pos {α : Type} {b : Prop} [Decidable b] (h : b) (r : Res α) : Res.when b r = r := if_pos h
open Classical in
noncomputable def Res.whenC {α : Type} (b : Prop) (r : Res α) : Res α := if b then r else .stuck
theorem Res.whenC_pos {α : Type} {b : Prop} (h : b) (r : Res α) : Res.whenC b r = r := if_pos h
@[simp] theorem Res.whenC_true {α : Type} (r : Res α) : Res.whenC True r = r := if_pos trivial
/-- a thing that is there -/
noncomputable def Res.opt {α β : Type} (o : Option α) (f : α → Res β) : Res β := match o with
  | some a => f a
  | none => .stuck
@[simp] theorem Res.opt_some {α β : Type} (a : α) (f : α → Res β) : Res.opt (some a) f = f a := rfl
@[simp] theorem Res.opt_none {α β : Type} (f : α → Res β) : Res.opt none f = .stuck := rfl
/-- all data -/
noncomputable def datasOf : List El → Option (List PyData)
  | [] => some []
  | .d x :: es => (datasOf es).map (x :: ·)
  | _ :: _ => none
@[simp] theorem datasOf_datas (ds : List PyData) : datasOf (datas ds) = some ds := by
  induction ds with
  | nil => rfl
  | cons d ds ih =>
    show (datasOf (datas ds)).map (d :: ·) = _
    rw [ih]
    rfl
theorem datas_of : ∀ {es : List El} {ds : List PyData}, datasOf es = some ds → es = datas ds
  | [], _, h => by cases h; rfl
  | .d x :: es, ds, h => by
    simp only [datasOf] at h
    cases e : datasOf es with
    | none => rw [e] at h; cases h
    | some r => rw [e] at h; cases h; rw [datas_of e]; rfl
  | .o _ :: _, _, h => by cases h
  | .s _ :: _, _, h => by cases h
  | .x _ :: _, _, h => by cases h
  | .p _ :: _, _, h => by cases h
/-- the items of a list of data -/
noncomputable def lstOf (W : Wl) : El → Option (List PyData)
  | .d (.list ds) => some ds
  | .o j => match W[j]? with
    | some (.lst es) => datasOf es
    | _ => none
  | _ => none
theorem lst_of {W : Wl} {x : El} {ds : List PyData} (h : lstOf W x = some ds) : lstD W x ds := by
  unfold lstOf at h
  split at h
  · cases h; exact .inl rfl
  · split at h
    · rename_i es e; exact .inr ⟨_, rfl, by rw [e, datas_of h]⟩
    · cases h
  · cases h
/-- the data of a thing -/
noncomputable def datOf (W : Wl) : El → Option PyData
  | .d d => some d
  | .o j => (lstOf W (.o j)).map .list
  | _ => none
noncomputable def datB (d : PyData) : Bool := d.canLay0 && decide (d.depth ≤ 64)
theorem datB_dat {d : PyData} (h : datB d = true) : Dat d := by
  unfold datB at h
  simp at h
  exact ⟨h.1, h.2⟩
noncomputable def evEq (W : Wl) (x y : El) : Option Bool := match x, y with
  | .d (.int i), .d (.int j) => some (decide (i = j))
  | .d (.str i), .d (.str j) => some (decide (i = j))
  | .d (.bool i), .d (.bool j) => some (decide (i = j))
  | x, y => (datOf W x).bind fun d => (datOf W y).bind fun e => if datB d && datB e then some (PyData.eqv d e) else none
noncomputable def strsD : List PyData → Option (List Str)
  | [] => some []
  | .str x :: r => (strsD r).map (x :: ·)
  | _ :: _ => none
theorem strs_of : ∀ {ds : List PyData} {xs : List Str}, strsD ds = some xs → ds = xs.map .str
  | [], _, h => by cases h; rfl
  | .str x :: r, xs, h => by
    simp only [strsD] at h
    cases e : strsD r with
    | none => rw [e] at h; cases h
    | some q => rw [e] at h; cases h; rw [strs_of e]; rfl
  | .none :: _, _, h => by cases h
  | .bool _ :: _, _, h => by cases h
  | .int _ :: _, _, h => by cases h
  | .list _ :: _, _, h => by cases h
  | .tuple _ :: _, _, h => by cases h
  | .dict _ :: _, _, h => by cases h
@[simp] theorem strsD_map (xs : List Str) : strsD (xs.map .str) = some xs := by
  induction xs with
  | nil => rfl
  | cons x xs ih =>
    show (strsD (xs.map .str)).map (x :: ·) = _
    rw [ih]; rfl
noncomputable def boolsD : List PyData → Option (List Bool)
  | [] => some []
  | .bool x :: r => (boolsD r).map (x :: ·)
  | _ :: _ => none
theorem bools_of : ∀ {ds : List PyData} {xs : List Bool}, boolsD ds = some xs → ds = xs.map .bool
  | [], _, h => by cases h; rfl
  | .bool x :: r, xs, h => by
    simp only [boolsD] at h
    cases e : boolsD r with
    | none => rw [e] at h; cases h
    | some q => rw [e] at h; cases h; rw [bools_of e]; rfl
  | .none :: _, _, h => by cases h
  | .str _ :: _, _, h => by cases h
  | .int _ :: _, _, h => by cases h
  | .list _ :: _, _, h => by cases h
  | .tuple _ :: _, _, h => by cases h
  | .dict _ :: _, _, h => by cases h
@[simp] theorem boolsD_map (xs : List Bool) : boolsD (xs.map .bool) = some xs := by
  induction xs with
  | nil => rfl
  | cons x xs ih =>
    show (boolsD (xs.map .bool)).map (x :: ·) = _
    rw [ih]; rfl
/-- texts of a list, a tuple -/
noncomputable def textsOf (W : Wl) : El → Option (List Str)
  | .d (.tuple ds) => strsD ds
  | x => (lstOf W x).bind strsD
/-- the items of a list, a tuple -/
noncomputable def seqOf (W : Wl) : El → Option (List PyData)
  | .d (.tuple ds) => some ds
  | x => lstOf W x
noncomputable def evIn (W : Wl) (x y : El) : Option Bool := match x, y with
  | .d (.str i), .d (.str j) => some (!(Builtin.Str.occurrences j i 0 j.length 1).isEmpty)
  | .d (.str i), y => (textsOf W y).map fun xs => decide (i ∈ xs)
  | .d d, y => (seqOf W y).bind fun ds => if datB d && PyData.canLayAll0 ds then some (ds.any fun z => PyData.eqv z d) else none
  | _, _ => none
noncomputable def evCmp (o : CmpOp) (x y : El) (W : Wl) : Option Bool := match o, x, y with
  | .Lt, .d (.int i), .d (.int j) => some (decide (i < j))
  | .LtE, .d (.int i), .d (.int j) => some (decide (i ≤ j))
  | .Gt, .d (.int i), .d (.int j) => some (decide (j < i))
  | .GtE, .d (.int i), .d (.int j) => some (decide (j ≤ i))
  | .Eq, x, y => evEq W x y
  | .NotEq, x, y => (evEq W x y).map (!·)
  | .Is, .d d, .d .none => some (isNone d)
  | .IsNot, .d d, .d .none => some (!isNone d)
  | .In, x, y => evIn W x y
  | .NotIn, .d (.str i), y => (textsOf W y).map fun xs => !decide (i ∈ xs)
  | .NotIn, .d d, y => (seqOf W y).bind fun ds => if datB d && PyData.canLayAll0 ds then some (!(ds.any fun z => PyData.eqv z d)) else none
  | _, _, _ => none
noncomputable abbrev bitsOf (n : Int) : Nat := Builtin.Int.intBits n
/-- a text some times -/
noncomputable def repT (z : Str) (n : Nat) : Str := if n = 1 ∨ z.length = 0 then z else repS z n
noncomputable def evOp (o : Operator) (x y : El) (W : Wl) : Res El := match o, x, y with
  | .Add, .d (.int i), .d (.int j) => .ok (.d (.int (i + j))) W
  | .Add, .d (.str i), .d (.str j) => .when (i.length + j.length ≤ sizeLine) (.ok (.d (.str (i ++ j))) W)
  | .Add, .d (.tuple i), .d (.tuple j) => .when (i.length + j.length ≤ sizeLine) (.ok (.d (.tuple (i ++ j))) W)
  | .Add, x, y => .opt (lstOf W x) fun i => .opt (lstOf W y) fun j => .when (i.length + j.length ≤ sizeLine) (.ok (.d (.list (i ++ j))) W)
  | .Sub, .d (.int i), .d (.int j) => .ok (.d (.int (i - j))) W
  | .Mult, .d (.int i), .d (.int j) => .when (bitsOf i + bitsOf j ≤ 100000000) (.ok (.d (.int (i * j))) W)
  | .Mult, .d (.str z), .d (.int j) => .when (1 ≤ j ∧ j ≤ 1000 ∧ z.length ≤ 1000) (.ok (.d (.str (repT z j.toNat))) W)
  | .Mod, .d (.int i), .d (.int j) => .when (0 < j) (.ok (.d (.int (i % j))) W)
  | .FloorDiv, .d (.int i), .d (.int j) => .when (0 < j ∧ j < 1073741824) (.ok (.d (.int (i / j))) W)
  | .Pow, .d (.int i), .d (.int j) => .when (0 ≤ j ∧ j ≤ 1000000 ∧ i.natAbs < 2 ^ 64) (.ok (.d (.int (i ^ j.toNat))) W)
  | _, _, _ => .stuck
noncomputable def evIx (x y : El) (W : Wl) : Res El := match x, y with
  | .d (.list ds), .d (.int i) => .opt (atI ds i) fun d => .ok (.d d) W
  | .d (.tuple ds), .d (.int i) => .opt (atI ds i) fun d => .ok (.d d) W
  | .d (.str z), .d (.int i) => .when (z.length ≤ sizeLine) (.opt (atI z.cps.toList i) fun c => .ok (.d (.str ⟨#[c]⟩)) W)
  | .s ns, .d (.int i) => .opt (atI ns i) fun n => .ok (.d (.int n)) W
  | .o j, .d (.int i) => match W[j]? with
    | some (.lst es) => .opt (atI es i) fun e => .ok e W
    | _ => .stuck
  | .o j, .d (.tuple ts) => match W[j]? with
    | some (.dT kvs) => .opt (strsD ts) fun xs => .opt (valE kvs (xs.map .inr)) fun e => .ok e W
    | _ => .stuck
  | _, _ => .stuck
noncomputable def evSl (x : El) (lo hi : Option Int) (W : Wl) : Res El := match x with
  | .d (.tuple ds) => .ok (.d (.tuple (cutL ds lo hi))) W
  | .d (.list ds) => .ok (.d (.list (cutL ds lo hi))) W
  | .d (.str z) => .when (z.length ≤ sizeLine) (.ok (.d (.str (Txt.slice z lo hi))) W)
  | .s ns => .ok (.d (.list ((cutL ns lo hi).map .int))) W
  | .o j => .opt (lstOf W (.o j)) fun ds => .ok (.d (.list (cutL ds lo hi))) W
  | _ => .stuck
noncomputable def evBi (f : BF) (xs : List El) (W : Wl) : Res El := match f, xs with
  | .len, [.d (.str x)] => .when (x.length ≤ sizeLine) (.ok (.d (.int x.length)) W)
  | .len, [.d (.tuple ds)] => .ok (.d (.int ds.length)) W
  | .len, [.s ns] => .ok (.d (.int ns.length)) W
  | .len, [x] => .opt (lstOf W x) fun ds => .ok (.d (.int ds.length)) W
  | .all, [x] => .opt (lstOf W x) fun ds => .opt (boolsD ds) fun bs => .ok (.d (.bool (bs.all id))) W
  | .any, [x] => .opt (lstOf W x) fun ds => .opt (boolsD ds) fun bs => .ok (.d (.bool (bs.any id))) W
  | .abs, [.d (.int i)] => .ok (.d (.int (if i < 0 then -i else i))) W
  | .divmod, [.d (.int i), .d (.int j)] => .when (0 < j ∧ j < 1073741824) (.ok (.d (.tuple [.int (i / j), .int (i % j)])) W)
  | .max, [.d (.int i), .d (.int j)] => .ok (.d (.int (if j > i then j else i))) W
  | .min, [.d (.int i), .d (.int j)] => .ok (.d (.int (if j < i then j else i))) W
  | .tuple, [x] => .opt (lstOf W x) fun ds => .ok (.d (.tuple ds)) W
  | .int, [.d (.bool b)] => .ok (.d (.int (if b then 1 else 0))) W
  | _, _ => .stuck
noncomputable def evMeth (m : MF) (x : El) (xs : List El) (W : Wl) : Res El := match m, x, xs with
  | .append, .o j, [y] => match W[j]? with
    | some (.lst es) => .when (es.length < sizeLine) (.ok (.d .none) (W.set j (.lst (es ++ [y]))))
    | _ => .stuck
  | .pop, .o j, [.d (.int i)] => match W[j]? with
    | some (.lst (y :: es)) => .when (i = 0) (.ok y (W.set j (.lst es)))
    | _ => .stuck
  | .get, .o j, [.d (.tuple ts), y] => match W[j]? with
    | some (.dT kvs) => .opt (strsD ts) fun ks => .ok ((valE kvs (ks.map .inr)).getD y) W
    | _ => .stuck
  | .setdefault, .o j, [.p ks, y] => match W[j]? with
    | some (.dT kvs) => match valE kvs ks with
      | some e => .ok e W
      | none => .when (kvs.length < sizeLine) (.ok y (W.set j (.dT (kvs ++ [(ks, y)]))))
    | _ => .stuck
  | .remove, .o j, [.d d] => .opt (lstOf W (.o j)) fun ds => .when (PyData.canLayAll0 ds = true ∧ datB d = true ∧ ds.length ≤ sizeLine) (.opt (ds.findIdx? fun z => PyData.eqv z d) fun m => .ok (.d .none) (W.set j (.lst (datas (ds.eraseIdx m)))))
  | _, _, _ => .stuck
/-- a thing that has the method -/
noncomputable def isTyB (W : Wl) (x : El) : MF → Bool
  | .append => match x with | .o j => (match W[j]? with | some (.lst _) => true | _ => false) | _ => false
  | .pop => match x with | .o j => (match W[j]? with | some (.lst _) => true | _ => false) | _ => false
  | .get => match x with | .o j => (match W[j]? with | some (.dT _) => true | some (.dK _) => true | _ => false) | _ => false
  | .setdefault => match x with | .o j => (match W[j]? with | some (.dT _) => true | some (.dK _) => true | _ => false) | _ => false
  | .remove => match x with | .o j => (match W[j]? with | some (.lst _) => true | _ => false) | _ => false
noncomputable def truth (W : Wl) (x : El) : Option Bool := match x with
  | .d (.str y) => if y.length ≤ sizeLine then some (truD (.str y)) else none
  | .d d => some (truD d)
  | .o j => (lstOf W (.o j)).map fun ds => truD (.list ds)
  | _ => none
noncomputable def TF.ty : TF → String
  | .int => "int" | .bool => "bool" | .str => "str" | .tuple => "tuple" | .list => "list" | .dict => "dict"
noncomputable def isinst (x : El) (W : Wl) (T : TF) : Option Bool := (datOf W x).map fun d => isD d T.ty
/-- what a loop walks -/
structure Walk where
  ds : List PyData
  g : Option Nat
noncomputable def Walk.still (w : Walk) (W : Wl) : Prop := match w.g with
  | none => True
  | some j => W[j]? = some (.lst (datas w.ds))
noncomputable def evSeq (x : El) (W : Wl) : Option Walk := match x with
  | .d (.list ds) => some ⟨ds, none⟩
  | .d (.tuple ds) => some ⟨ds, none⟩
  | .d (.str z) => some ⟨signsD z, none⟩
  | .o j => (lstOf W (.o j)).map fun ds => ⟨ds, some j⟩
  | _ => none
inductive SRes where
  | nx (S : Sl) (W : Wl)
  | rt (e : El) (W : Wl)
  | exc (C : Str) (S : Sl) (W : Wl)
  | stuck
noncomputable def Res.st {α : Type} (r : Res α) (S : Sl) (f : α → Wl → SRes) : SRes := match r with
  | .ok a W => f a W
  | .exc C W => .exc C S W
  | .stuck => .stuck
@[simp] theorem Res.st_ok {α : Type} (a : α) (W : Wl) (S : Sl) (f : α → Wl → SRes) : (Res.ok a W).st S f = f a W := rfl
@[simp] theorem Res.st_exc {α : Type} (C : Str) (W : Wl) (S : Sl) (f : α → Wl → SRes) : (Res.exc C W : Res α).st S f = .exc C S W := rfl
@[simp] theorem Res.st_stuck {α : Type} (S : Sl) (f : α → Wl → SRes) : (Res.stuck : Res α).st S f = .stuck := rfl
noncomputable def SRes.bind (r : SRes) (f : Sl → Wl → SRes) : SRes := match r with
  | .nx S W => f S W
  | r => r
@[simp] theorem SRes.bind_nx (S : Sl) (W : Wl) (f : Sl → Wl → SRes) : (SRes.nx S W).bind f = f S W := rfl
@[simp] theorem SRes.bind_rt (e : El) (W : Wl) (f : Sl → Wl → SRes) : (SRes.rt e W).bind f = .rt e W := rfl
@[simp] theorem SRes.bind_exc (C : Str) (S : Sl) (W : Wl) (f : Sl → Wl → SRes) : (SRes.exc C S W).bind f = .exc C S W := rfl
@[simp] theorem SRes.bind_stuck (f : Sl → Wl → SRes) : SRes.stuck.bind f = .stuck := rfl
open Classical in
noncomputable def SRes.whenC (b : Prop) (r : SRes) : SRes := if b then r else .stuck
theorem SRes.whenC_pos {b : Prop} (h : b) (r : SRes) : SRes.whenC b r = r := if_pos h
@[simp] theorem SRes.whenC_true (r : SRes) : SRes.whenC True r = r := if_pos trivial
/-- a comprehension's turns; none: nothing is told -/
noncomputable def compL (still : Wl → Prop) (step : PyData → Wl → Res (Option PyData)) : List PyData → List PyData → Wl → Res (List PyData)
  | [], ys, W => .whenC (still W) (.ok ys W)
  | d :: ds, ys, W => Res.whenC (still W) (match step d W with
    | .ok (some y) W' => compL still step ds (ys ++ [y]) W'
    | .ok none W' => compL still step ds ys W'
    | _ => .stuck)
noncomputable def forL (still : Wl → Prop) (step : PyData → Sl → Wl → SRes) : List PyData → Sl → Wl → SRes
  | [], S, W => SRes.whenC (still W) (.nx S W)
  | d :: ds, S, W => SRes.whenC (still W) ((step d S W).bind fun S' W' => forL still step ds S' W')
noncomputable def slot (S : Sl) (i : Nat) : Option El := (S[i]?).getD none
noncomputable def evRange (j : Int) (W : Wl) : Res Walk := .when (-(2 ^ 62) ≤ j ∧ j < 2 ^ 62) (.ok ⟨rangeD 0 j.toNat, none⟩ W)
/-- the target of a comprehension -/
noncomputable def evTcs : MTs → List PyData → Sl → Option Sl
  | .nil, [], S => some S
  | .cons (.name i) ts, d :: ds, S => evTcs ts ds (S.set i (some (.d d)))
  | _, _, _ => none
noncomputable def evTc : MT → PyData → Sl → Option Sl
  | .name i, d, S => some (S.set i (some (.d d)))
  | .tup ts, .tuple ds, S => evTcs ts ds S
  | _, _, _ => none
section
variable (call : Str → List El → Wl → Res El) (Γ : Str → Option PyData)
noncomputable def asB (x : El) (W : Wl) : Res Bool := match x with
  | .d (.bool b) => .ok b W
  | _ => .stuck
noncomputable def asD (x : El) (W : Wl) : Res PyData := match x with
  | .d d => .ok d W
  | _ => .stuck
noncomputable def asI (x : El) (W : Wl) : Res Int := match x with
  | .d (.int i) => .ok i W
  | _ => .stuck
mutual
noncomputable def evE : ME → Sl → Wl → Res El
  | .no, _, _ => .stuck
  | .v i, S, W => .opt (slot S i) fun e => .ok e W
  | .g x, _, W => .opt (Γ x) fun d => .ok (.d d) W
  | .c d, _, W => .ok (.d d) W
  | .op o a b, S, W => (evE a S W).bind fun x W1 => (evE b S W1).bind fun y W2 => evOp o x y W2
  | .cmp o a b, S, W => (evE a S W).bind fun x W1 => (evE b S W1).bind fun y W2 => .opt (evCmp o x y W2) fun t => .ok (.d (.bool t)) W2
  | .chain o o' a b c, S, W => (evE a S W).bind fun x W1 => (evE b S W1).bind fun y W2 => .opt (evCmp o x y W2) fun t =>
      if t then (evE c S W2).bind fun z W3 => .opt (evCmp o' y z W3) fun t' => .ok (.d (.bool t')) W3 else .ok (.d (.bool false)) W2
  | .and es, S, W => evAnd es S W
  | .or es, S, W => evOr es S W
  | .not a, S, W => (evE a S W).bind fun x W1 => (asB x W1).bind fun t W2 => .ok (.d (.bool (!t))) W2
  | .ife c a b, S, W => (evT c S W).bind fun t W1 => if t then evE a S W1 else evE b S W1
  | .tup es, S, W => (evAs es S W).bind fun xs W1 => .opt (datasOf xs) fun ds => .when (ds.length ≤ sizeLine) (.ok (.d (.tuple ds)) W1)
  | .key es, S, W => (evAs es S W).bind fun xs W1 => .opt (datasOf xs) fun ds => .opt (strsD ds) fun ks => .when (ks.length ≤ sizeLine) (.ok (.p (ks.map .inr)) W1)
  | .lst own es, S, W => (evAs es S W).bind fun xs W1 => .when (xs.length ≤ sizeLine) (if own then .ok (.o W1.length) (W1 ++ [.lst xs]) else .opt (datasOf xs) fun ds => .ok (.d (.list ds)) W1)
  | .dic n, _, W => if n = 0 then .ok (.d (.dict [])) W else if n = 1 then .ok (.o W.length) (W ++ [.dK []]) else .ok (.o W.length) (W ++ [.dT []])
  | .call f es, S, W => (evAs es S W).bind fun xs W1 => call f xs W1
  | .bi f es, S, W => (evAs es S W).bind fun xs W1 => evBi f xs W1
  | .isi e T, S, W => (evE e S W).bind fun x W1 => .opt (isinst x W1 T) fun t => .ok (.d (.bool t)) W1
  | .meth m o es, S, W => (evE o S W).bind fun x W1 => .when (isTyB W1 x m = true) ((evAs es S W1).bind fun xs W2 => evMeth m x xs W2)
  | .ix a b, S, W => (evE a S W).bind fun x W1 => (evE b S W1).bind fun y W2 => evIx x y W2
  | .sl a lo hi, S, W => (evE a S W).bind fun x W1 => (evO lo S W1).bind fun l W2 => (evO hi S W2).bind fun h W3 => evSl x l h W3
  | .comp own O Fv cap tg it cond elt, S, W => (evI it S W).bind fun w W1 =>
      .when (w.ds.length ≤ sizeLine) ((compL w.still (fun d W2 => .opt (evTc tg d (cmpS O cap S)) fun S2 => (evCond cond S2 W2).bind fun t W3 => if t then (evE elt S2 W3).bind fun y W4 => (asD y W4).bind fun z W5 => .ok (some z) W5 else .ok none W3) w.ds [] W1).bind fun ys W' =>
        if own then .ok (.o W'.length) (W' ++ [.lst (datas ys)]) else .ok (.d (.list ys)) W')
/-- the truth of a test -/
noncomputable def evT : ME → Sl → Wl → Res Bool
  | .not a, S, W => (evT a S W).bind fun t W1 => .ok (!t) W1
  | .and es, S, W => evAndT es S W
  | .or es, S, W => evOrT es S W
  | .cmp o a b, S, W => (evE a S W).bind fun x W1 => (evE b S W1).bind fun y W2 => .opt (evCmp o x y W2) fun t => .ok t W2
  | .chain o o' a b c, S, W => (evE a S W).bind fun x W1 => (evE b S W1).bind fun y W2 => .opt (evCmp o x y W2) fun t =>
      if t then (evE c S W2).bind fun z W3 => .opt (evCmp o' y z W3) fun t' => .ok t' W3 else .ok false W2
  | .v i, S, W => .opt (slot S i) fun e => .opt (truth W e) fun t => .ok t W
  | .call f es, S, W => (evAs es S W).bind fun xs W1 => (call f xs W1).bind fun x W2 => .opt (truth W2 x) fun t => .ok t W2
  | .bi f es, S, W => (evAs es S W).bind fun xs W1 => (evBi f xs W1).bind fun x W2 => .opt (truth W2 x) fun t => .ok t W2
  | .isi e T, S, W => (evE e S W).bind fun x W1 => .opt (isinst x W1 T) fun t => .ok t W1
  | .ix a b, S, W => (evE a S W).bind fun x W1 => (evE b S W1).bind fun y W2 => (evIx x y W2).bind fun z W3 => .opt (truth W3 z) fun t => .ok t W3
  | _, _, _ => .stuck
noncomputable def evAnd : MEs → Sl → Wl → Res El
  | .nil, _, _ => .stuck
  | .cons e .nil, S, W => evE e S W
  | .cons e (.cons e' es), S, W => (evE e S W).bind fun x W1 => (asB x W1).bind fun t W2 => if t then evAnd (.cons e' es) S W2 else .ok (.d (.bool false)) W2
noncomputable def evOr : MEs → Sl → Wl → Res El
  | .nil, _, _ => .stuck
  | .cons e .nil, S, W => evE e S W
  | .cons e (.cons e' es), S, W => (evE e S W).bind fun x W1 => (asB x W1).bind fun t W2 => if t then .ok (.d (.bool true)) W2 else evOr (.cons e' es) S W2
noncomputable def evAndT : MEs → Sl → Wl → Res Bool
  | .nil, _, _ => .stuck
  | .cons e .nil, S, W => evT e S W
  | .cons e (.cons e' es), S, W => (evT e S W).bind fun t W2 => if t then evAndT (.cons e' es) S W2 else .ok false W2
noncomputable def evOrT : MEs → Sl → Wl → Res Bool
  | .nil, _, _ => .stuck
  | .cons e .nil, S, W => evT e S W
  | .cons e (.cons e' es), S, W => (evT e S W).bind fun t W2 => if t then .ok true W2 else evOrT (.cons e' es) S W2
noncomputable def evAs : MEs → Sl → Wl → Res (List El)
  | .nil, _, W => .ok [] W
  | .cons e es, S, W => (evE e S W).bind fun x W1 => (evAs es S W1).bind fun xs W2 => .ok (x :: xs) W2
noncomputable def evO : MO → Sl → Wl → Res (Option Int)
  | .no, _, W => .ok none W
  | .some e, S, W => (evE e S W).bind fun x W1 => (asI x W1).bind fun i W2 => .ok (some i) W2
noncomputable def evI : MI → Sl → Wl → Res Walk
  | .seq e, S, W => (evE e S W).bind fun x W1 => .opt (evSeq x W1) fun w => .ok w W1
  | .range e, S, W => (evE e S W).bind fun x W1 => (asI x W1).bind fun j W2 => evRange j W2
noncomputable def evCond : MEs → Sl → Wl → Res Bool
  | .nil, _, W => .ok true W
  | .cons e .nil, S, W => evT e S W
  | .cons _ (.cons _ _), _, _ => .stuck
end
end
end L2
namespace L2
open PySem PySem.Spec PyProof.Rows
noncomputable def evSet (o i v : El) (W : Wl) : Option Wl := match o, i with
  | .o j, .d (.int i) => match W[j]? with
    | some (.lst es) => (ixN es.length i).map fun m => W.set j (.lst (es.set m v))
    | _ => none
  | _, _ => none
noncomputable def evAug (o : Operator) (x y : El) (W : Wl) : Res El := match o, x, y with
  | .Add, .d (.int i), .d (.int j) => .ok (.d (.int (i + j))) W
  | .Add, .o j, .d (.list ds) => match W[j]? with
    | some (.lst es) => .when (es.length + ds.length ≤ sizeLine) (.ok (.o j) (W.set j (.lst (es ++ datas ds))))
    | _ => .stuck
  | _, _, _ => .stuck
noncomputable def enumD : Nat → List PyData → List PyData
  | _, [] => []
  | i, d :: ds => .tuple [.int i, d] :: enumD (i + 1) ds
noncomputable def lenT : MTs → Nat
  | .nil => 0
  | .cons _ ts => lenT ts + 1
section
variable (call : Str → List El → Wl → Res El) (Γ : Str → Option PyData)
mutual
noncomputable def evG : MT → El → Sl → Wl → SRes
  | .name i, e, S, W => .nx (S.set i (some e)) W
  | .tup ts, .d (.tuple ds), S, W => if lenT ts = ds.length then evGs ts ds S W else .stuck
  | .tup _, _, _, _ => .stuck
  | .sub o i, e, S, W => (evE call Γ o S W).st S fun x W1 => (evE call Γ i S W1).st S fun y W2 => match evSet x y e W2 with
    | some W3 => .nx S W3
    | none => .stuck
noncomputable def evGs : MTs → List PyData → Sl → Wl → SRes
  | .nil, [], S, W => .nx S W
  | .cons t ts, d :: ds, S, W => (evG t (.d d) S W).bind fun S' W' => evGs ts ds S' W'
  | _, _, _, _ => .stuck
end
mutual
noncomputable def evS : MS → Sl → Wl → SRes
  | .no, _, _ => .stuck
  | .pass, S, W => .nx S W
  | .expr e, S, W => (evE call Γ e S W).st S fun _ W1 => .nx S W1
  | .set t e, S, W => (evE call Γ e S W).st S fun x W1 => evG call Γ t x S W1
  | .aug i o e, S, W => match slot S i with
    | some a => (evE call Γ e S W).st S fun y W1 => (evAug o a y W1).st S fun z W2 => .nx (S.set i (some z)) W2
    | none => .stuck
  | .ret e, S, W => (evE call Γ e S W).st S fun x W1 => .rt x W1
  | .ifs c a b, S, W => (evT call Γ c S W).st S fun t W1 => if t then evSs a S W1 else evSs b S W1
  | .for_ t it b, S, W => (evI call Γ it S W).st S fun w W1 => forL w.still (fun d S' W' => (evG call Γ t (.d d) S' W').bind fun S2 W2 => evSs b S2 W2) w.ds S W1
  | .enum t e b, S, W => (evE call Γ e S W).st S fun x W1 => match x with
    | .d (.tuple ds) => forL (fun _ => True) (fun d S' W' => (evG call Γ t (.d d) S' W').bind fun S2 W2 => evSs b S2 W2) (enumD 0 ds) S W1
    | _ => .stuck
  | .raise_ C es, S, W => (evAs call Γ es S W).st S fun xs W1 => if xs.length ≤ sizeLine then .exc C S W1 else .stuck
noncomputable def evSs : MSs → Sl → Wl → SRes
  | .nil, S, W => .nx S W
  | .cons s ss, S, W => (evS s S W).bind fun S' W' => evSs ss S' W'
end
end
structure Fn where
  ar : Nat
  sz : Nat
  body : MSs
  drop : Bool
/-- what stood there ahead stands there, or holds no object -/
noncomputable def Stays (W W' : Wl) : Prop := ∀ i, i < W.length → W'[i]? = W[i]? ∨ ∃ o, W'[i]? = some o ∧ o.below 0
noncomputable def fin (drop : Bool) (W : Wl) (e : El) (W' : Wl) : Res El := if drop then Res.whenC (Stays W W') (match e with
    | .o m => if m < W.length then .ok (.o m) (W'.take W.length) else .opt (lstOf W' (.o m)) fun ds => .ok (.d (.list ds)) (W'.take W.length)
    | .p ks => .ok (.d (tupK ks)) (W'.take W.length)
    | e => .ok e (W'.take W.length)) else .ok e W'
noncomputable def fnEnd (drop : Bool) (W : Wl) (r : SRes) : Res El := match r with
  | .nx _ W' => fin drop W (.d .none) W'
  | .rt e W' => fin drop W e W'
  | .exc C _ W' => if drop then Res.whenC (Stays W W') (.exc C (W'.take W.length)) else .exc C W'
  | .stuck => .stuck
noncomputable def evCall (Φ : Str → Option Fn) (Γ : Str → Option PyData) : Nat → Str → List El → Wl → Res El
  | 0, _, _, _ => .stuck
  | n + 1, f, as, W => .opt (Φ f) fun fn => .when (as.length = fn.ar) (fnEnd fn.drop W (evSs (evCall Φ Γ n) Γ fn.body (as.map some ++ List.replicate (fn.sz - as.length) none) W))
@[simp] theorem fnEnd_nx (b : Bool) (W W' : Wl) (S : Sl) : fnEnd b W (.nx S W') = fin b W (.d .none) W' := rfl
@[simp] theorem fnEnd_rt (b : Bool) (W W' : Wl) (e : El) : fnEnd b W (.rt e W') = fin b W e W' := rfl
theorem Stays.app (W V : Wl) : Stays W (W ++ V) := fun i hi => .inl (by rw [List.getElem?_append_left hi])
theorem Stays.refl (W : Wl) : Stays W W := fun _ _ => .inl rfl
@[simp] theorem fin_keep (W W' : Wl) (e : El) : fin false W e W' = .ok e W' := rfl
@[simp] theorem fin_d_app (W V : Wl) (d : PyData) : fin true W (.d d) (W ++ V) = .ok (.d d) W := by
  unfold fin
  rw [if_pos rfl, Res.whenC_pos (.app W V), List.take_left]
@[simp] theorem fin_d (W : Wl) (d : PyData) : fin true W (.d d) W = .ok (.d d) W := by
  unfold fin
  rw [if_pos rfl, Res.whenC_pos (.refl W), List.take_length]
theorem fin_l {W V : Wl} {m : Nat} {ds : List PyData} (hm : W.length ≤ m) (h : (W ++ V)[m]? = some (.lst (datas ds))) : fin true W (.o m) (W ++ V) = .ok (.d (.list ds)) W := by
  unfold fin
  rw [if_pos rfl, Res.whenC_pos (.app W V)]
  simp only
  rw [if_neg (by omega), List.take_left]
  have e : lstOf (W ++ V) (.o m) = some ds := by
    unfold lstOf
    simp only [h, datasOf_datas]
  rw [e]
  rfl
end L2
namespace L2
open PySem PySem.Spec PyProof.Rows
noncomputable def Res.holds {α : Type} (r : Res α) (k : α → Wl → Prop) (q : Str → Wl → Prop) : Prop := match r with
  | .ok a W => k a W
  | .exc C W => q C W
  | .stuck => False
theorem Res.holds_bind {α β : Type} {r : Res α} {f : α → Wl → Res β} {k : β → Wl → Prop} {q : Str → Wl → Prop} (h : (r.bind f).holds k q) : r.holds (fun a W => (f a W).holds k q) q := by
  cases r <;> exact h
theorem Res.holds_when {α : Type} {b : Prop} [Decidable b] {r : Res α} {k : α → Wl → Prop} {q : Str → Wl → Prop} (h : (Res.when b r).holds k q) : b ∧ r.holds k q := by
  unfold Res.when at h
  by_cases hb : b
  · rw [if_pos hb] at h; exact ⟨hb, h⟩
  · rw [if_neg hb] at h; exact h.elim
theorem Res.holds_whenC {α : Type} {b : Prop} {r : Res α} {k : α → Wl → Prop} {q : Str → Wl → Prop} (h : (Res.whenC b r).holds k q) : b ∧ r.holds k q := by
  unfold Res.whenC at h
  by_cases hb : b
  · rw [if_pos hb] at h; exact ⟨hb, h⟩
  · rw [if_neg hb] at h; exact h.elim
theorem Res.holds_opt {α β : Type} {o : Option α} {f : α → Res β} {k : β → Wl → Prop} {q : Str → Wl → Prop} (h : (Res.opt o f).holds k q) : ∃ a, o = some a ∧ (f a).holds k q := by
  cases o with
  | none => exact h.elim
  | some a => exact ⟨a, rfl, h⟩
theorem Res.holds.mono {α : Type} {r : Res α} {k k' : α → Wl → Prop} {q q' : Str → Wl → Prop} (h : r.holds k q) (hk : ∀ a W, k a W → k' a W) (hq : ∀ C W, q C W → q' C W) : r.holds k' q' := by
  cases r with
  | ok a W => exact hk _ _ h
  | exc C W => exact hq _ _ h
  | stuck => exact h
theorem mul_sum' {a b : Int} (h : bitsOf a + bitsOf b ≤ 100000000) : IntMulOk a b := by
  have : Builtin.Int.intTooBig (Builtin.Int.intBits a + Builtin.Int.intBits b) = false := by
    unfold Builtin.Int.intTooBig
    refine decide_eq_false ?_
    have e : (bitsLine : Nat) = 134217728 := by decide
    show ¬ ((bitsOf a : Int) + (bitsOf b : Int) > ((bitsLine : Nat) : Int))
    rw [e]
    omega
  unfold IntMulOk
  rw [this]
  simp
theorem op_mulS' {X : Cx} : OpR X (binaryOp .Mult) (rI (fun i j => bitsOf i + bitsOf j ≤ 100000000) fun i j => .int (i * j)) := opI fun _ _ _ _ _ _ _ hc q => PyProof.Rows.mul_int q (mul_sum' hc)
section
variable {X : Bc} {S : Sl} {W : Wl} {k : KB} {q : Str → Wl → Prop}
theorem evOp_ok {o : Operator} {x y : El} (h : (evOp o x y W).holds k q) : OB X (binaryOp o) x y W k := by
  unfold evOp at h
  split at h
  · exact ob_add h
  · obtain ⟨a, b⟩ := Res.holds_when h; exact ob_cats a b
  · obtain ⟨a, b⟩ := Res.holds_when h; exact ob_catt a b
  · obtain ⟨i, hi, h⟩ := Res.holds_opt h
    obtain ⟨j, hj, h⟩ := Res.holds_opt h
    obtain ⟨a, b⟩ := Res.holds_when h
    exact ob_catl (lst_of hi) (lst_of hj) a b
  · exact ob_sub h
  · obtain ⟨a, b⟩ := Res.holds_when h; exact ob_int op_mulS' a b
  · rename_i z j
    obtain ⟨⟨a, b, c⟩, d⟩ := Res.holds_when h
    obtain ⟨n, rfl⟩ : ∃ n : Nat, j = n := ⟨j.toNat, by omega⟩
    refine ob_repS (by omega) (by omega) c fun y h1 h2 h3 => ?_
    have : y = repT z (n : Int).toNat := by
      unfold repT
      rw [Int.toNat_natCast]
      by_cases e1 : n = 1
      · rw [if_pos (.inl e1)]; exact h2 e1
      · by_cases e2 : z.length = 0
        · rw [if_pos (.inr e2)]; exact h3 e2
        · rw [if_neg (by simp [e1, e2])]; exact h1 e1 e2
    rw [this]
    exact d
  · obtain ⟨a, b⟩ := Res.holds_when h; exact ob_mod a b
  · obtain ⟨a, b⟩ := Res.holds_when h; exact ob_fdiv a b
  · obtain ⟨a, b⟩ := Res.holds_when h; exact ob_pow a b
  · exact h.elim
theorem dat_of {x : El} {d : PyData} (h : datOf W x = some d) : dat W x d := by
  unfold datOf at h
  split at h
  · cases h; exact .inl rfl
  · rename_i j
    cases e : lstOf W (.o j) with
    | none => rw [e] at h; cases h
    | some ds => rw [e] at h; cases h; exact .inr ⟨ds, rfl, lst_of e⟩
  · cases h
theorem evEq_ok {x y : El} {b : Bool} (hu : X.A.units + 100 < cLine) (h : evEq W x y = some b) : (k (.d (.bool b)) W → OB X (compareOp .Eq) x y W k) ∧ (k (.d (.bool (!b))) W → OB X (compareOp .NotEq) x y W k) := by
  unfold evEq at h
  split at h
  · cases h; exact ⟨ob_eqI, ob_neI⟩
  · cases h; exact ⟨ob_eqS, ob_neS⟩
  · cases h; exact ⟨ob_eqB, ob_neB⟩
  · cases e1 : datOf W x with
    | none => rw [e1] at h; cases h
    | some d =>
      cases e2 : datOf W y with
      | none => rw [e1, e2] at h; cases h
      | some e =>
        rw [e1, e2] at h
        simp only [Option.bind] at h
        by_cases c : (datB d && datB e) = true
        · rw [if_pos c] at h
          cases h
          rw [Bool.and_eq_true] at c
          exact ⟨ob_eq (by omega) (dat_of e1) (dat_of e2) (datB_dat c.1) (datB_dat c.2), ob_ne (by omega) (dat_of e1) (dat_of e2) (datB_dat c.1) (datB_dat c.2)⟩
        · rw [if_neg c] at h; cases h
theorem texts_of {y : El} {xs : List Str} (h : textsOf W y = some xs) : lstD W y (xs.map .str) ∨ y = .d (.tuple (xs.map .str)) := by
  unfold textsOf at h
  split at h
  · exact .inr (by rw [strs_of h])
  · cases e : lstOf W y with
    | none => rw [e] at h; cases h
    | some ds => rw [e] at h; exact .inl (strs_of h ▸ lst_of e)
theorem seq_of {y : El} {ds : List PyData} (h : seqOf W y = some ds) : lstD W y ds ∨ y = .d (.tuple ds) := by
  unfold seqOf at h
  split at h
  · cases h; exact .inr rfl
  · exact .inl (lst_of h)
theorem inQ_ok {d : PyData} {y : El} {b : Bool} (neg : Bool) (hu : X.A.units + 100 < cLine) (h : ((seqOf W y).bind fun ds => if datB d && PyData.canLayAll0 ds then some (if neg then !(ds.any fun z => PyData.eqv z d) else ds.any fun z => PyData.eqv z d) else none) = some b) (hk : k (.d (.bool b)) W) : OB X (compareOp (if neg then .NotIn else .In)) (.d d) y W k := by
  cases e : seqOf W y with
  | none => rw [e] at h; cases h
  | some ds =>
    rw [e] at h
    simp only [Option.bind] at h
    by_cases c : (datB d && PyData.canLayAll0 ds) = true
    · rw [if_pos c] at h
      cases h
      rw [Bool.and_eq_true] at c
      exact ob_inQ neg hu (seq_of e) (datB_dat c.1) c.2 hk
    · rw [if_neg c] at h; cases h
theorem evCmp_ok {o : CmpOp} {x y : El} {b : Bool} (hu : X.A.units + 100 < cLine) (h : evCmp o x y W = some b) (hk : k (.d (.bool b)) W) : OB X (compareOp o) x y W k := by
  unfold evCmp at h
  split at h
  · cases h; exact ob_lt hk
  · cases h; exact ob_le hk
  · cases h; exact ob_gt hk
  · cases h; exact ob_ge hk
  · exact (evEq_ok hu h).1 hk
  · cases e : evEq W x y with
    | none => rw [e] at h; cases h
    | some c => rw [e] at h; cases h; exact (evEq_ok hu e).2 hk
  · cases h; exact ob_isN hk
  · cases h; exact ob_notN hk
  · unfold evIn at h
    split at h
    · cases h; exact ob_inS hk
    · rename_i i _
      cases e : textsOf W y with
      | none => rw [e] at h; cases h
      | some xs => rw [e] at h; cases h; exact ob_inL (texts_of e) hk
    · exact inQ_ok false hu h hk
    · cases h
  · cases e : textsOf W y with
    | none => rw [e] at h; cases h
    | some xs => rw [e] at h; cases h; exact ob_ninL (texts_of e) hk
  · exact inQ_ok true hu h hk
  · cases h
theorem strs_keys (xs : List Str) : (xs.map PyData.str) = (xs.map (Sum.inr : Str → Key)).map keyD := by rw [List.map_map]; rfl
theorem evIx_ok {x y : El} (hu : X.A.units + 100 < cLine) (h : (evIx x y W).holds k q) : IB X x y W k := by
  unfold evIx at h
  split at h
  · obtain ⟨d, e, h⟩ := Res.holds_opt h; exact ib_lst e h
  · obtain ⟨d, e, h⟩ := Res.holds_opt h; exact ib_tup e h
  · obtain ⟨a, h⟩ := Res.holds_when h
    obtain ⟨d, e, h⟩ := Res.holds_opt h
    exact ib_str a e h
  · obtain ⟨d, e, h⟩ := Res.holds_opt h; exact ib_script e h
  · split at h
    · rename_i es hj
      obtain ⟨d, e, h⟩ := Res.holds_opt h
      exact ib_own hj e h
    · exact h.elim
  · split at h
    · rename_i kvs hj
      obtain ⟨xs, e, h⟩ := Res.holds_opt h
      obtain ⟨v, e2, h⟩ := Res.holds_opt h
      rw [strs_of e, strs_keys]
      exact ib_dT (by omega) hj e2 h
    · exact h.elim
  · exact h.elim
theorem evSl_ok {x : El} {lo hi : Option Int} (h : (evSl x lo hi W).holds k q) : LB X x lo hi W k := by
  unfold evSl at h
  split at h
  · exact lb_tup h
  · exact lb_lst h
  · obtain ⟨a, h⟩ := Res.holds_when h; exact lb_str a h
  · exact lb_script h
  · rename_i j
    obtain ⟨ds, e, h⟩ := Res.holds_opt h
    rcases lst_of e with z | ⟨j', z, hj⟩
    · cases z
    · cases z; exact lb_own hj h
  · exact h.elim
noncomputable def BF.val : BF → Value
  | .len => .builtin "len" | .all => .builtin "all" | .any => .builtin "any" | .abs => .builtin "abs" | .divmod => .builtin "divmod" | .max => .builtin "max" | .min => .builtin "min" | .tuple => .type "tuple" | .int => .type "int"
noncomputable def BF.name : BF → Str
  | .len => "len" | .all => "all" | .any => "any" | .abs => "abs" | .divmod => "divmod" | .max => "max" | .min => "min" | .tuple => "tuple" | .int => "int"
theorem evBi_ok {f : BF} {xs : List El} (hc : X.calm = true) (h : (evBi f xs W).holds k q) : CB X f.val xs W k := by
  unfold evBi at h
  split at h
  · obtain ⟨a, h⟩ := Res.holds_when h; exact cb_lenS a h
  · exact cb_lenT h
  · exact cb_lenScript h
  · obtain ⟨ds, e, h⟩ := Res.holds_opt h; exact cb_lenL (lst_of e) h
  · obtain ⟨ds, e, h⟩ := Res.holds_opt h
    obtain ⟨bs, e2, h⟩ := Res.holds_opt h
    exact cb_all hc (bools_of e2 ▸ lst_of e) h
  · obtain ⟨ds, e, h⟩ := Res.holds_opt h
    obtain ⟨bs, e2, h⟩ := Res.holds_opt h
    exact cb_any hc (bools_of e2 ▸ lst_of e) h
  · exact cb_abs h
  · obtain ⟨a, h⟩ := Res.holds_when h; exact cb_divmod a h
  · exact cb_max2 hc h
  · exact cb_min2 hc h
  · obtain ⟨ds, e, h⟩ := Res.holds_opt h; exact cb_tupL (lst_of e) h
  · exact cb_intB h
  · exact h.elim
noncomputable def MF.ty : MF → String
  | .append => "list" | .pop => "list" | .get => "dict" | .setdefault => "dict" | .remove => "list"
noncomputable def MF.id : MF → String
  | .append => "list.append" | .pop => "list.pop" | .get => "dict.get" | .setdefault => "dict.setdefault" | .remove => "list.remove"
noncomputable def MF.name : MF → Str
  | .append => "append" | .pop => "pop" | .get => "get" | .setdefault => "setdefault" | .remove => "remove"
theorem MF.pa (m : MF) : PlainAttrs m.ty := match m with | .append => PySem.F.plainAttrs_list | .pop => PySem.F.plainAttrs_list | .get => PySem.F.plainAttrs_dict | .setdefault => PySem.F.plainAttrs_dict | .remove => PySem.F.plainAttrs_list
theorem MF.slot (m : MF) : Slot m.ty m.name m.id := match m with | .append => PySem.F.slot_list_append | .pop => PySem.F.slot_list_pop | .get => PySem.F.slot_dict_get | .setdefault => PySem.F.slot_dict_setdefault | .remove => PySem.F.slot_list_remove
theorem MF.hty (m : MF) : typeOf (.builtin m.id) = pure (.type "method_descriptor") := match m with | .append => PySem.F.type_list_append | .pop => PySem.F.type_list_pop | .get => PySem.F.type_dict_get | .setdefault => PySem.F.type_dict_setdefault | .remove => PySem.F.type_list_remove
theorem evMeth_ok {m : MF} {x : El} {xs : List El} (hu : X.A.units + 100 < cLine) (h : (evMeth m x xs W).holds k q) : MB X m.ty m.id x xs W k := by
  unfold evMeth at h
  split at h
  · split at h
    · rename_i hj
      obtain ⟨a, h⟩ := Res.holds_when h
      exact mb_append hj a h
    · exact h.elim
  · split at h
    · rename_i hj
      obtain ⟨a, h2⟩ := Res.holds_when h
      subst a
      exact mb_pop0 hj h2
    · exact h.elim
  · split at h
    · rename_i hj
      obtain ⟨ks, e, h⟩ := Res.holds_opt h
      rw [strs_of e, strs_keys]
      exact mb_dgetT (by omega) hj h
    · exact h.elim
  · split at h
    · rename_i hj
      split at h
      · rename_i e he
        exact mb_setdefT (by omega) hj (fun e' h' => by rw [he] at h'; cases h'; exact h) fun h' => by rw [he] at h'; cases h'
      · rename_i he
        obtain ⟨a, h⟩ := Res.holds_when h
        exact mb_setdefT (by omega) hj (fun e' h' => by rw [he] at h'; cases h') fun _ => ⟨a, h⟩
    · exact h.elim
  · obtain ⟨ds, e, h⟩ := Res.holds_opt h
    obtain ⟨⟨a, b, c⟩, h⟩ := Res.holds_when h
    obtain ⟨m, hm, h⟩ := Res.holds_opt h
    rcases lst_of e with z | ⟨j', z, hj⟩
    · cases z
    · cases z; exact mb_remove hu hj a (datB_dat b) hm c h
  · exact h.elim
theorem isTyB_ok {x : El} {m : MF} (h : isTyB W x m = true) : isTy W x m.ty := by
  unfold isTyB at h
  split at h <;> split at h <;> first | (split at h <;> first | exact .inl ⟨rfl, _, by assumption⟩ | exact .inr ⟨rfl, .inl ⟨_, by assumption⟩⟩ | exact .inr ⟨rfl, .inr ⟨_, by assumption⟩⟩ | cases h) | cases h
theorem truth_ok {e : Expr} {t : Bool} {x : El} (h : truth W x = some t) : ∃ d, dat W x d ∧ (∀ y, d = .str y → y.length ≤ sizeLine) ∧ truD d = t := by
  unfold truth at h
  split at h
  · split at h
    · rename_i y hy; cases h; exact ⟨_, .inl rfl, fun z e => by cases e; exact hy, rfl⟩
    · cases h
  · rename_i d hn; cases h; exact ⟨_, .inl rfl, fun y e => absurd (by rw [e]) (hn y), rfl⟩
  · rename_i j
    cases e : lstOf W (.o j) with
    | none => rw [e] at h; cases h
    | some ds => rw [e] at h; cases h; exact ⟨.list ds, .inr ⟨ds, rfl, lst_of e⟩, (fun y e => nomatch e), rfl⟩
  · cases h
end
end L2
namespace L2
open PySem PySem.Spec PyProof.Rows
structure SE where
  N : List Str
  sc : Scope
noncomputable def visB (sc : Scope) (x : Str) : Bool := (match sc.names.lookup x with | some .local => true | some .cell => true | some .free => true | _ => false) && !(x == ("__debug__" : Str)) && !(x == ("__classdict__" : Str))
noncomputable def glB (sc : Scope) (x : Str) : Bool := (match sc.names.lookup x with | some .globalImplicit => true | _ => false) && !(x == ("__debug__" : Str))
noncomputable def locB (sc : Scope) (x : Str) : Bool := match sc.names.lookup x with | some .local => true | some .cell => true | _ => false
noncomputable def cmpB (N : List Str) (sc : Scope) (O F : List Str) (cap : List Nat) (scope : Scope) : Bool :=
  decide (scope.kind = .function) && scope.names.all (fun y => decide (y.2 ≠ .cell)) && scope.names.all (fun y => !decide (y.2 = .local) || decide (scope.names.lookup y.1 = some .local)) &&
  scope.names.all (fun y => !decide (y.2 = .free) || decide (sc.names.lookup y.1 = some .cell) || decide (sc.names.lookup y.1 = some .free)) && decide (F.map some = cap.map (fun j => N[j]?)) && F.all (fun x => decide (scope.names.lookup x = some .free)) && decide ((O ++ F).Nodup)
noncomputable def TF.name : TF → Str
  | .int => "int" | .bool => "bool" | .str => "str" | .tuple => "tuple" | .list => "list" | .dict => "dict"
noncomputable def constB : PyData → Const → Bool
  | .none, .none => true
  | .bool b, .bool b' => decide (b = b')
  | .int i, .int j => decide (i = j)
  | .str s, .str t => decide (s = t)
  | _, _ => false
noncomputable def noCall0 : Expr → Bool
  | .Call _ [] _ _ => false
  | _ => true
/-- the names of a comprehension's target: own ones -/
noncomputable def okTn (N : List Str) (m : Nat) (scope : Scope) (i : Nat) : Expr → Bool
  | .Name x _ => decide (N[i]? = some x) && decide (i < m) && decide (scope.names.lookup x = some .local)
  | _ => false
noncomputable def okTcs (N : List Str) (m : Nat) (scope : Scope) : MTs → List Expr → Bool
  | .nil, [] => true
  | .cons (.name i) ts, e :: es => okTn N m scope i e && okTcs N m scope ts es
  | _, _ => false
noncomputable def okTc (N : List Str) (m : Nat) (scope : Scope) : MT → Expr → Bool
  | .name i, e => okTn N m scope i e
  | .tup ts, e => match e with
    | .Tuple es _ _ => okTcs N m scope ts es
    | _ => false
  | .sub _ _, _ => false
section
variable (B D : Str → Bool)
mutual
noncomputable def okE : ME → SE → Expr → Bool
  | .no, _, _ => false
  | .v i, E, e => match e with
    | .Name x _ => decide (E.N[i]? = some x) && visB E.sc x
    | _ => false
  | .g y, E, e => match e with
    | .Name x _ => decide (x = y) && glB E.sc x
    | _ => false
  | .c d, _, e => match e with
    | .Constant c _ _ => constB d c
    | _ => false
  | .op o a b, E, e => match e with
    | .BinOp ea eo eb _ => decide (o = eo) && okE a E ea && okE b E eb
    | _ => false
  | .cmp o a b, E, e => match e with
    | .Compare ea [eo] [eb] _ => decide (o = eo) && okE a E ea && okE b E eb
    | _ => false
  | .chain o o' a b c, E, e => match e with
    | .Compare ea [eo, eo'] [eb, ec] _ => decide (o = eo) && decide (o' = eo') && okE a E ea && okE b E eb && okE c E ec
    | _ => false
  | .and es, E, e => match e with
    | .BoolOp .And vs _ => okEs es E vs
    | _ => false
  | .or es, E, e => match e with
    | .BoolOp .Or vs _ => okEs es E vs
    | _ => false
  | .not a, E, e => match e with
    | .UnaryOp .Not ea _ => okE a E ea
    | _ => false
  | .ife c a b, E, e => match e with
    | .IfExp ec ea eb _ => okE c E ec && okE a E ea && okE b E eb
    | _ => false
  | .tup es, E, e => match e with
    | .Tuple vs _ _ => okEs es E vs
    | _ => false
  | .key es, E, e => match e with
    | .Tuple vs _ _ => okEs es E vs
    | _ => false
  | .lst _ es, E, e => match e with
    | .List vs _ => okEs es E vs
    | _ => false
  | .dic _, _, e => match e with
    | .Dict [] [] _ => true
    | _ => false
  | .call f es, E, e => match e with
    | .Call (.Name x _) (v :: vs) [] _ => decide (x = f) && glB E.sc x && D x && okEs es E (v :: vs)
    | _ => false
  | .bi f es, E, e => match e with
    | .Call (.Name x _) (v :: vs) [] _ => decide (x = f.name) && glB E.sc x && B x && okEs es E (v :: vs)
    | _ => false
  | .isi a T, E, e => match e with
    | .Call (.Name x _) [ea, .Name t _] [] _ => decide (x = "isinstance") && glB E.sc x && B x && decide (t = T.name) && glB E.sc t && B t && okE a E ea
    | _ => false
  | .meth m o es, E, e => match e with
    | .Call (.Attribute oe name apos) (v :: vs) [] cpos => decide (name = m.name) && okE o E oe && noCall0 oe && (apos.endLine == cpos.line) && decide (vs.length < 28) && okEs es E (v :: vs)
    | _ => false
  | .ix a b, E, e => match e with
    | .Subscript ea eb _ => okE a E ea && okE b E eb
    | _ => false
  | .sl a lo hi, E, e => match e with
    | .Subscript ea (.Slice l h none _) _ => okE a E ea && okO lo E l && okO hi E h
    | _ => false
  | .comp _ O Fv cap tg it cond elt, E, e => match e with
    | .ListComp ee [⟨et, ei, eifs, 0⟩] scope _ => okI it E ei && cmpB E.N E.sc O Fv cap scope && okTc (O ++ Fv) O.length scope tg et && okEs cond ⟨O ++ Fv, scope⟩ eifs && okE elt ⟨O ++ Fv, scope⟩ ee
    | _ => false
noncomputable def okEs : MEs → SE → List Expr → Bool
  | .nil, _, vs => vs.isEmpty
  | .cons e es, E, vs => match vs with
    | v :: vs => okE e E v && okEs es E vs
    | [] => false
noncomputable def okO : MO → SE → Option Expr → Bool
  | .no, _, o => o.isNone
  | .some m, E, o => match o with
    | some e => okE m E e
    | none => false
noncomputable def okI : MI → SE → Expr → Bool
  | .seq m, E, e => okE m E e
  | .range m, E, e => match e with
    | .Call (.Name x _) [a] [] _ => decide (x = "range") && glB E.sc x && B x && okE m E a
    | _ => false
end
end
/-- no set display, no star, no slice -/
noncomputable def Plain : Expr → Prop
  | .Set _ _ _ => False
  | .Starred _ _ => False
  | .Slice _ _ _ _ => False
  | _ => True
theorem okE_plain {B D : Str → Bool} {m : ME} {E : SE} {e : Expr} (h : okE B D m E e = true) : Plain e := by
  cases e <;> first | exact trivial | (exfalso; cases m <;> simp [okE] at h)
section
variable {B D : Str → Bool} {E : SE}
theorem star_plain {e : Expr} (h : Plain e) (es : List Expr) (env : Env) : starEach (e :: es) env = (false, eval e env) :: starEach es env := by
  cases e <;> first | rfl | exact h.elim
theorem okEs_plain : ∀ {es : MEs} {vs : List Expr}, okEs B D es E vs = true → ∀ e ∈ vs, Plain e
  | .nil, vs, h => by
    cases vs with
    | nil => simp
    | cons _ _ => simp [okEs] at h
  | .cons m es, vs, h => by
    cases vs with
    | nil => simp
    | cons v vs =>
      simp only [okEs, Bool.and_eq_true] at h
      intro e he
      rcases List.mem_cons.mp he with rfl | he
      · exact okE_plain h.1
      · exact okEs_plain h.2 e he
theorem star_false : ∀ {vs : List Expr}, (∀ e ∈ vs, Plain e) → ∀ (env : Env), ∀ p ∈ starEach vs env, p.1 = false
  | [], _, env => by simp [starEach]
  | v :: vs, h, env => by
    rw [star_plain (h v List.mem_cons_self)]
    intro p hp
    rcases List.mem_cons.mp hp with rfl | hp
    · rfl
    · exact star_false (fun e he => h e (List.mem_cons_of_mem _ he)) env p hp
theorem star_any {vs : List Expr} (h : ∀ e ∈ vs, Plain e) (pos : Pos) (env : Env) : (backTo pos (starEach vs env)).any (·.1) = false := by
  rw [List.any_eq_false]
  intro p hp
  unfold backTo at hp
  obtain ⟨q, hq, rfl⟩ := List.mem_map.mp hp
  have := star_false h env q hq
  simpa using this
theorem star_all {vs : List Expr} (h : ∀ e ∈ vs, Plain e) (pos : Pos) (env : Env) : (backTo pos (starEach vs env)).all (fun x => !x.1) = true := by
  rw [List.all_eq_true]
  intro p hp
  unfold backTo at hp
  obtain ⟨q, hq, rfl⟩ := List.mem_map.mp hp
  have := star_false h env q hq
  simpa using this
theorem plain_marks {e : Expr} (h : Plain e) (o : CmpOp) : behindInMarks o e = false := by
  cases e <;> first | rfl | exact h.elim
theorem plain_ix {e : Expr} (h : Plain e) : PlainIx e := by
  cases e <;> first | (intro _ _; rfl) | exact h.elim
theorem plain_fold {e : Expr} (h : Plain e) (env : Env) (x : Value) : foldedSetIterable e env x = pure x := by
  cases e <;> first | rfl | exact h.elim
theorem base_of {o : Expr} (h : noCall0 o = true) (name : Str) (env : Env) : attributeBase o name env (eval o env) = eval o env := by
  cases o <;> first | rfl | skip
  rename_i f args kw pos
  cases args with
  | nil => simp [noCall0] at h
  | cons a as => cases f <;> rfl
end
theorem lookup_relabel {env : Env} {x : Str} : ∀ {names : List (Str × NameKind)} {k : NameKind}, names.lookup x = some k →
    (names.map fun (n, k) => if (k == NameKind.free && env.scope.kind == .function && env.kindOf n == some .cell) then (n, NameKind.cell) else (n, k)).lookup x = some k ∨ (k = .free ∧ (names.map fun (n, k) => if (k == NameKind.free && env.scope.kind == .function && env.kindOf n == some .cell) then (n, NameKind.cell) else (n, k)).lookup x = some .cell)
  | [], _, h => by cases h
  | (n, j) :: r, k, h => by
    simp only [List.map_cons]
    by_cases hx : x = n
    · subst hx
      simp only [List.lookup_cons, beq_self_eq_true] at h
      cases h
      by_cases hc : (j == NameKind.free && env.scope.kind == .function && env.kindOf x == some .cell) = true
      · rw [if_pos hc]
        simp only [List.lookup_cons, beq_self_eq_true]
        have : j = .free := by simp at hc; exact hc.1.1
        exact .inr ⟨this, by first | exact trivial | rfl⟩
      · rw [if_neg hc]
        simp only [List.lookup_cons, beq_self_eq_true]
        exact .inl (by first | exact trivial | rfl)
    · have hb : (x == n) = false := by simpa using hx
      simp only [List.lookup_cons, hb] at h
      by_cases hc : (j == NameKind.free && env.scope.kind == .function && env.kindOf n == some .cell) = true
      · rw [if_pos hc]; simp only [List.lookup_cons, hb]; exact lookup_relabel h
      · rw [if_neg hc]; simp only [List.lookup_cons, hb]; exact lookup_relabel h
theorem cmpB_ok {N : List Str} {sc sc' : Scope} {O F : List Str} {cap : List Nat} {scope : Scope} (hc : ∀ x, (sc.names.lookup x = some .cell ∨ sc.names.lookup x = some .free) → (sc'.names.lookup x = some .cell ∨ sc'.names.lookup x = some .free)) (h : cmpB N sc O F cap scope = true) : CmpScope N sc' O F cap scope ∧ (O ++ F).Nodup := by
  unfold cmpB at h
  simp only [Bool.and_eq_true, decide_eq_true_eq, List.all_eq_true, Bool.or_eq_true, Bool.not_eq_true', decide_eq_false_iff_not] at h
  obtain ⟨⟨⟨⟨⟨⟨h1, h2⟩, h3⟩, h4⟩, h5⟩, h6⟩, h7⟩ := h
  refine ⟨⟨h1, h2, fun y hy e => (h3 y hy).resolve_left (fun z => z e), fun y hy e => hc _ ?_, h5, h6⟩, h7⟩
  rcases h4 y hy with (z | z) | z
  · exact absurd e z
  · exact .inl z
  · exact .inr z
end L2
namespace L2
open PySem PySem.Spec PyProof.Rows
/-- what a def tells, as the evaluator has it -/
noncomputable def Rc (Φ : Str → Option Fn) (Γ : Str → Option PyData) (cA : Str → Option Addr) (n : Nat) (f : Str) : RX := fun as W k y => (evCall Φ Γ n f as W).holds k fun C W' => ∃ a, cA C = some a ∧ y a W'
/-- what the text has behind its top -/
structure Glo (Φ : Str → Option Fn) (Γ : Str → Option PyData) (cA : Str → Option Addr) (B D Qx : Str → Bool) (n : Nat) (P : Program) (w : World) (K : PySem.W.Frag) (mg : Str → Option Value) (base : Heap) : Prop where
  bi : ∀ x, B x = true → mg x = none
  df : ∀ x, D x = true → (Φ x).isSome = true
  gv : ∀ x d, Γ x = some d → ∃ v u, mg x = some u ∧ RelV v u ∧ ∀ F, Rq K F v d
  fn : ∀ f fn, Φ f = some fn → ∃ a fd ps, mg f = some (.ref a) ∧ PySem.W.keepIn K (.ref a) = true ∧ Binds K fd ps [] ∧ FnOk P w K mg base (CXe P w) n a fd ps (spX K (Rc Φ Γ cA n f))
  ex : ∀ x C, cA x = some C → mg x = some (.ref C) ∧ IsExc K C
  qx : ∀ x, Qx x = true → ∃ C, cA x = some C
/-- a body's context -/
structure Ctx (n : Nat) (X : Bc) (E : SE) : Prop where
  N : X.N = E.N
  vis : ∀ x, visB E.sc x = true → Vis X.env.scope x
  gl : ∀ x, glB E.sc x = true → Gl X x
  cf : ∀ x, (E.sc.names.lookup x = some .cell ∨ E.sc.names.lookup x = some .free) → (X.env.scope.names.lookup x = some .cell ∨ X.env.scope.names.lookup x = some .free)
  calm : X.calm = true
  room : Room n X.A
  xo : XOk X
noncomputable def XQ (cA : Str → Option Addr) (X : Bc) (S : Sl) : Str → Wl → Prop := fun C W' => ∃ a, cA C = some a ∧ X.xk a S W'
theorem BF.boot (f : BF) : bootBuiltins f.name = some f.val := by cases f <;> decide +kernel
theorem TF.boot (T : TF) : bootBuiltins T.name = some (.type T.ty) := by cases T <;> decide +kernel
theorem TF.nn (f : TF) : f.name ≠ "__name__" := by cases f <;> decide +kernel
theorem TF.or (T : TF) : T.ty = "int" ∨ T.ty = "bool" ∨ T.ty = "str" ∨ T.ty = "tuple" ∨ T.ty = "list" ∨ T.ty = "dict" := by cases T <;> simp [TF.ty]
theorem b_isinst : bootBuiltins "isinstance" = some (.builtin "isinstance") := by decide +kernel
theorem glB_dbg {sc : Scope} {x : Str} (h : glB sc x = true) : (x == ("__debug__" : Str)) = false := by
  unfold glB at h
  simp only [Bool.and_eq_true, Bool.not_eq_true'] at h
  exact h.2
theorem visB_dbg {sc : Scope} {x : Str} (h : visB sc x = true) : (x == ("__debug__" : Str)) = false ∧ (x == ("__classdict__" : Str)) = false := by
  unfold visB at h
  simp only [Bool.and_eq_true, Bool.not_eq_true'] at h
  exact ⟨h.1.2, h.2⟩
theorem glB_look {sc : Scope} {x : Str} (h : glB sc x = true) : sc.names.lookup x = some .globalImplicit := by
  unfold glB at h
  simp only [Bool.and_eq_true] at h
  revert h
  cases e : sc.names.lookup x with
  | none => intro h; simp at h
  | some k => cases k <;> intro h <;> simp at h ⊢
theorem visB_look {sc : Scope} {x : Str} (h : visB sc x = true) : sc.names.lookup x = some .local ∨ sc.names.lookup x = some .cell ∨ sc.names.lookup x = some .free := by
  unfold visB at h
  simp only [Bool.and_eq_true] at h
  revert h
  cases e : sc.names.lookup x with
  | none => intro h; simp at h
  | some k => cases k <;> intro h <;> simp at h ⊢
theorem asB_ok {x : El} {W : Wl} {k : Bool → Wl → Prop} {q : Str → Wl → Prop} (h : (asB x W).holds k q) : ∃ b, x = .d (.bool b) ∧ k b W := by
  unfold asB at h
  split at h
  · exact ⟨_, rfl, h⟩
  · exact h.elim
theorem asI_ok {x : El} {W : Wl} {k : Int → Wl → Prop} {q : Str → Wl → Prop} (h : (asI x W).holds k q) : ∃ b, x = .d (.int b) ∧ k b W := by
  unfold asI at h
  split at h
  · exact ⟨_, rfl, h⟩
  · exact h.elim
theorem asD_ok {x : El} {W : Wl} {k : PyData → Wl → Prop} {q : Str → Wl → Prop} (h : (asD x W).holds k q) : ∃ b, x = .d b ∧ k b W := by
  unfold asD at h
  split at h
  · exact ⟨_, rfl, h⟩
  · exact h.elim
theorem slot_ok {S : Sl} {i : Nat} {e : El} (h : slot S i = some e) : S[i]? = some (some e) := by
  unfold slot at h
  cases q : S[i]? with
  | none => rw [q] at h; cases h
  | some o => rw [q] at h; cases h; rfl
noncomputable def Walk.m (w : Walk) : Nat := match w.g with
  | none => 0
  | some j => j + 1
/-- the context of a comprehension's turn -/
noncomputable abbrev Bc.cmp (X : Bc) (N : List Str) (scope : Scope) (cl : List (Str × Addr)) (C : Addr) (ex : List Addr) (s : Shared) (H : Hp) : Bc := { cxB X N scope cl C ex s H with xk := fun _ _ _ => False }
theorem Ctx.cmp {n : Nat} {X : Bc} {E : SE} (C : Ctx n X E) {N : List Str} {scope : Scope} {cl : List (Str × Addr)} {c : Addr} {ex : List Addr} {s : Shared} {H : Hp} : Ctx n (X.cmp N scope cl c ex s H) ⟨N, scope⟩ where
  N := rfl
  vis := fun x h => by
    rcases visB_look h with e | e | e
    · rcases lookup_relabel (env := X.env) e with e' | ⟨z, _⟩
      · exact .inl e'
      · cases z
    · rcases lookup_relabel (env := X.env) e with e' | ⟨z, _⟩
      · exact .inr (.inl e')
      · cases z
    · rcases lookup_relabel (env := X.env) e with e' | ⟨_, e'⟩
      · exact .inr (.inr e')
      · exact .inr (.inl e')
  gl := fun x h => by
    rcases lookup_relabel (env := X.env) (glB_look h) with e' | ⟨z, _⟩
    · exact e'
    · cases z
  cf := fun x h => by
    rcases h with e | e
    · rcases lookup_relabel (env := X.env) e with e' | ⟨z, _⟩
      · exact .inl e'
      · cases z
    · rcases lookup_relabel (env := X.env) e with e' | ⟨_, e'⟩
      · exact .inr e'
      · exact .inl e'
  calm := C.calm
  room := C.room
  xo := fun _ _ _ _ _ _ _ _ _ _ _ _ z => z.elim
theorem BTc.one {X : Bc} {N : List Str} {scope : Scope} {S : Sl} {W : Wl} {c : Expr} {k : TB} (h : ∀ cl C ex s H, BT (X.cmp N scope cl C ex s H) S W c k) : BTc X N scope S W [c] k := btc_one fun cl C ex s H => h cl C ex s H
theorem BEc.of {X : Bc} {N : List Str} {scope : Scope} {S : Sl} {W : Wl} {c : Expr} {k : KB} (h : ∀ cl C ex s H, BE (X.cmp N scope cl C ex s H) S W c k) : BEc X N scope S W c k := fun cl C ex s H => h cl C ex s H
theorem okTn_ok {X : Bc} {N : List Str} {m i : Nat} {scope : Scope} {e : Expr} {S : Sl} {W : Wl} {x : El} {k : Sl → Wl → Prop} (nd : N.Nodup) (h : okTn N m scope i e = true) (hk : k (S.set i (some x)) W) : BGc X N scope m S W e x k := by
  unfold okTn at h
  split at h
  · simp only [Bool.and_eq_true, decide_eq_true_eq] at h
    have loc : ∀ cl C ex s H, (cxComp X.toCx N scope cl C ex s H).env.scope.names.lookup _ = some .local := fun cl C ex s H => by
      rcases lookup_relabel (env := X.env) h.2 with e' | ⟨z, _⟩
      · exact e'
      · cases z
    exact bgc_name nd h.1.1 h.1.2 (fun cl C ex s H => .inl (loc cl C ex s H)) loc hk
  · cases h
theorem assignEach_plain : ∀ {es : List Expr} {N : List Str} {m : Nat} {scope : Scope} {ts : MTs} (env : Env), okTcs N m scope ts es = true → (assignEach es env).length = es.length ∧ (assignEach es env).findIdx? (·.1) = none := by
  intro es
  induction es with
  | nil => intro N m scope ts env h; exact ⟨rfl, rfl⟩
  | cons e es ih =>
    intro N m scope ts env h
    cases ts with
    | nil => simp [okTcs] at h
    | cons t ts =>
      cases t with
      | name i =>
        simp only [okTcs, Bool.and_eq_true] at h
        obtain ⟨a, b⟩ := ih env h.2
        cases e <;> simp [okTn] at h
        refine ⟨?_, ?_⟩
        · show (assignEach es env).length + 1 = es.length + 1
          rw [a]
        · show (List.findIdx? _ ((false, _) :: assignEach es env)) = none
          rw [List.findIdx?_cons]
          simp [b]
      | tup _ => simp [okTcs] at h
      | sub _ _ => simp [okTcs] at h
noncomputable def slotsT : MTs → List Nat
  | .nil => []
  | .cons (.name i) ts => i :: slotsT ts
  | .cons _ ts => slotsT ts
theorem nms_of {X : Bc} {N : List Str} {m : Nat} {scope : Scope} (nd : N.Nodup) {cl : List (Str × Addr)} {C : Addr} {ex : List Addr} {s : Shared} {H : Hp} : ∀ {ts : MTs} {es : List Expr}, okTcs N m scope ts es = true → Nms (cxB X N scope cl C ex s H) es (slotsT ts) ∧ ∀ i ∈ slotsT ts, i < m
  | .nil, [], _ => ⟨.nil, by simp [slotsT]⟩
  | .nil, _ :: _, h => by simp [okTcs] at h
  | .cons (.name i) ts, [], h => by simp [okTcs] at h
  | .cons (.tup _) ts, _, h => by simp [okTcs] at h
  | .cons (.sub _ _) ts, _, h => by simp [okTcs] at h
  | .cons (.name i) ts, e :: es, h => by
    simp only [okTcs, Bool.and_eq_true] at h
    obtain ⟨a, b⟩ := nms_of (X := X) nd (cl := cl) (C := C) (ex := ex) (s := s) (H := H) h.2
    have h1 := h.1
    cases e <;> simp [okTn] at h1
    rename_i x pos
    have loc : (cxB X N scope cl C ex s H).env.scope.names.lookup x = some .local := by
      rcases lookup_relabel (env := X.env) h1.2 with e' | ⟨z, _⟩
      · exact e'
      · cases z
    refine ⟨.cons nd h1.1.1 (.inl loc) a (.inr loc) rfl, ?_⟩
    intro j hj
    rcases List.mem_cons.mp hj with rfl | hj
    · exact h1.1.2
    · exact b j hj
theorem evTcs_set : ∀ {ts : MTs} {es : List Expr} {N : List Str} {m : Nat} {scope : Scope} {ds : List PyData} {S S2 : Sl}, okTcs N m scope ts es = true → evTcs ts ds S = some S2 → (slotsT ts).length = ds.length ∧ setAll S (slotsT ts) (datas ds) = S2 ∧ es.length = ds.length
  | .nil, es, N, m, scope, ds, S, S2, h0, h => by
    cases es with
    | cons _ _ => simp [okTcs] at h0
    | nil =>
      cases ds with
      | nil => simp only [evTcs] at h; cases h; exact ⟨rfl, rfl, rfl⟩
      | cons _ _ => simp [evTcs] at h
  | .cons (.name i) ts, es, N, m, scope, ds, S, S2, h0, h => by
    cases es with
    | nil => simp [okTcs] at h0
    | cons e es =>
      cases ds with
      | nil => simp [evTcs] at h
      | cons d ds =>
        simp only [okTcs, Bool.and_eq_true] at h0
        simp only [evTcs] at h
        obtain ⟨a, b, c⟩ := evTcs_set h0.2 h
        exact ⟨by simp [slotsT, a], b, by simp [c]⟩
  | .cons (.tup _) ts, es, N, m, scope, ds, S, S2, h0, h => by cases es <;> simp [okTcs] at h0
  | .cons (.sub _ _) ts, es, N, m, scope, ds, S, S2, h0, h => by cases es <;> simp [okTcs] at h0
theorem okTc_ok {X : Bc} {N : List Str} {m : Nat} {scope : Scope} {t : MT} {e : Expr} {S S2 : Sl} {W : Wl} {d : PyData} {k : Sl → Wl → Prop} (hc : X.calm = true) (nd : N.Nodup) (h : okTc N m scope t e = true) (hs : evTc t d S = some S2) (hk : k S2 W) : BGc X N scope m S W e (.d d) k := by
  cases t with
  | name i =>
    simp only [evTc] at hs
    cases hs
    exact okTn_ok nd h hk
  | tup ts =>
    simp only [okTc] at h
    split at h
    · cases d with
      | tuple ds =>
        simp only [evTc] at hs
        obtain ⟨a, b, c⟩ := evTcs_set h hs
        subst b
        exact bgc_tup hc (fun cl C ex s H => (nms_of nd h).1) (nms_of (X := X) nd (cl := []) (C := 0) (ex := []) (s := X.s₀) (H := X.H₀) h).2 a hk
          (by intro cl C ex s H; rw [(assignEach_plain _ h).1, a, c]) (by intro cl C ex s H; exact (assignEach_plain _ h).2)
      | _ => simp [evTc] at hs
    · cases h
  | sub _ _ => simp [okTc] at h
end L2
namespace L2
open PySem PySem.Spec PyProof.Rows
/-- the globals, as a context has them -/
noncomputable abbrev GloX (Φ : Str → Option Fn) (Γ : Str → Option PyData) (cA : Str → Option Addr) (B D Qx : Str → Bool) (n : Nat) (X : Bc) : Prop := Glo Φ Γ cA B D Qx n X.prog X.w X.K X.mg X.base
section
variable {Φ : Str → Option Fn} {Γ : Str → Option PyData} {cA : Str → Option Addr} {B D Qx : Str → Bool} {n : Nat}
theorem be_glo {X : Bc} {S : Sl} {W : Wl} {k : KB} {f : Str} {vs : List Expr} {v : Expr} {p pos : Pos} {E : SE} (G : GloX Φ Γ cA B D Qx n X) (C : Ctx n X E) (hg : glB E.sc f = true) (hD : D f = true) (hpl : ∀ e ∈ v :: vs, Plain e)
    (h : BA X S W (v :: vs) fun xs W1 => (evCall Φ Γ n f xs W1).holds k (XQ cA X S)) : BE X S W (.Call (.Name f p) (v :: vs) [] pos) k := by
  have hf := G.df f hD
  cases e : Φ f with
  | none => rw [e] at hf; cases hf
  | some fn =>
    obtain ⟨a, fd, ps, hm, hk, hb, F⟩ := G.fn f fn e
    exact be_callx F C.xo C.room hm hk hb h (C.gl f hg) (glB_dbg hg) (star_plain (hpl v List.mem_cons_self) _ _) (star_any (fun e he => hpl e (List.mem_cons_of_mem _ he)) _ _)
theorem be_blt {X : Bc} {S : Sl} {W : Wl} {k : KB} {f : BF} {vs : List Expr} {v : Expr} {p pos : Pos} {E : SE} (G : GloX Φ Γ cA B D Qx n X) (C : Ctx n X E) (hg : glB E.sc f.name = true) (hB : B f.name = true) (hpl : ∀ e ∈ v :: vs, Plain e)
    (h : BA X S W (v :: vs) fun xs W1 => (evBi f xs W1).holds k (XQ cA X S)) : BE X S W (.Call (.Name f.name p) (v :: vs) [] pos) k := by
  have hm := G.bi _ hB
  have hv := f.boot
  have s1 := star_plain (hpl v List.mem_cons_self) vs X.env
  have s2 := star_any (fun e he => hpl e (List.mem_cons_of_mem _ he)) pos X.env
  have h' : BA X S W (v :: vs) fun xs W1 => CB X f.val xs W1 k := fun pos pins s σ H Q I t => h pos pins s σ H Q I (by
    obtain ⟨F, A, x0, r, sr, q⟩ := t
    exact ⟨F, A, x0, r, sr, fun F' A' W' H' es vs e1 r1 z1 h1 => q F' A' W' H' es vs e1 r1 z1 (evBi_ok C.calm h1)⟩)
  generalize hvv : f.val = fv at hv h'
  cases f <;> (cases hvv; first | exact be_callB (C.gl _ hg) hm hv h' (by decide) (glB_dbg hg) s1 s2 | exact be_callT (C.gl _ hg) hm hv h' (by decide) (glB_dbg hg) s1 s2)
/-- a comprehension's turns, as told -/
theorem kc_of {X : Bc} {O Fv : List Str} {cap : List Nat} {scope : Scope} {S : Sl} {tg elt : Expr} {ifs : List Expr} {k : List PyData → Wl → Prop} {q : Str → Wl → Prop} {w : Walk} {W1 : Wl} {step : PyData → Wl → Res (Option PyData)} (hl : w.ds.length ≤ sizeLine)
    (hstep : ∀ d W' (kk : Option PyData → Wl → Prop), (step d W').holds kk (fun _ _ => False) → BGc X (O ++ Fv) scope O.length (cmpS O cap S) W' tg (.d d) fun S2 W2 => BTc X (O ++ Fv) scope S2 W2 ifs fun b W3 => if b = true then BEc X (O ++ Fv) scope S2 W3 elt fun y W4 => ∃ dy, y = .d dy ∧ kk (some dy) W4 else kk none W3)
    (h : (compL w.still step w.ds [] W1).holds k q) : KC X O Fv cap scope S tg elt ifs k w.m w.still w.ds W1 := by
  refine ⟨fun i ys W' => ys.length ≤ i ∧ (compL w.still step (w.ds.drop i) ys W').holds k q, ⟨Nat.zero_le _, h⟩, fun i ys W' hi ⟨hy, p⟩ => ⟨?_, by omega⟩, fun i d ys W' hd ⟨hy, p⟩ => ?_, fun ys W' ⟨hy, p⟩ => ?_⟩
  · unfold compL at p
    split at p <;> exact (Res.holds_whenC p).1
  · have e : w.ds.drop i = d :: w.ds.drop (i + 1) := by
      obtain ⟨hi, e⟩ := List.getElem?_eq_some_iff.mp hd
      rw [List.drop_eq_getElem_cons hi, e]
    rw [e] at p
    unfold compL at p
    have p := (Res.holds_whenC p).2
    have := hstep d W' (fun o W2 => match o with | some y => (ys ++ [y]).length ≤ i + 1 ∧ (compL w.still step (w.ds.drop (i + 1)) (ys ++ [y]) W2).holds k q | none => ys.length ≤ i + 1 ∧ (compL w.still step (w.ds.drop (i + 1)) ys W2).holds k q) (by
      cases hs : step d W' with
      | ok o W2 =>
        rw [hs] at p
        cases o with
        | none => exact ⟨by omega, p⟩
        | some y => exact ⟨by simp; omega, p⟩
      | exc C W2 => rw [hs] at p; exact p.elim
      | stuck => rw [hs] at p; exact p.elim)
    exact this
  · rw [List.drop_length] at p
    unfold compL at p
    exact (Res.holds_whenC p).2
/-- what is walked is known only when it stands there -/
noncomputable def iAny (K : PySem.W.Frag) (tl : TE) : TI := fun σ H R => tl σ H fun x H1 => iList K (fun _ _ Q => Q x H1) σ H1 R ∨ iTup K (fun _ _ Q => Q x H1) σ H1 R ∨ iStr (fun _ _ Q => Q x H1) σ H1 R
theorem pi_any {X : Cx} {tg l : Expr} {tl : TE} (hl : PE X l tl) : PI X tg l (iAny X.K tl) := by
  intro pins s σ H R I h
  refine thn (hl pins s σ H _ I h) fun v s1 ⟨x, H1, I1, r1, q1⟩ => ?_
  rcases q1 with q1 | q1 | q1
  · obtain ⟨a, e, ⟨xs, hq⟩, q⟩ := q1
    subst e
    cases r1
    obtain ⟨its, rv, p, hz⟩ := I1.list hq
    refine wpAny_pyIter_list p.isList ⟨s1.heap.objs.size, [s1.heap.objs.size], _, _, H1, rfl, I1.kept (t' := s1.toks) fun b o e => Heap.get?_push_of_some _ e, turn_list a _, ⟨_, Heap.get?_push_size _ rfl, rfl, rfl⟩, fun b hb => ?_, q⟩
    obtain rfl : b = s1.heap.objs.size := by simpa using hb
    exact I1.fpOk (Nat.le_refl _) (I1.hok.fresh (Nat.le_refl _))
  · obtain ⟨a, e, ⟨xs, hq⟩, q⟩ := q1
    subst e
    cases r1
    obtain ⟨its, rv, p, hz⟩ := I1.tuple hq
    refine wpAny_pyIter_tuple (show s1.heap.IsTuple a its.toArray from p) ⟨s1.heap.objs.size, [s1.heap.objs.size], _, _, H1, rfl, I1.kept (t' := s1.toks) fun b o e => Heap.get?_push_of_some _ e, turn_tuple a _, ⟨_, Heap.get?_push_size _ rfl, rfl, rfl⟩, fun b hb => ?_, q⟩
    obtain rfl : b = s1.heap.objs.size := by simpa using hb
    exact I1.fpOk (Nat.le_refl _) (I1.hok.fresh (Nat.le_refl _))
  · obtain ⟨x, e, q⟩ := q1
    subst e
    obtain ⟨t, rfl⟩ := r1
    have fin : ∀ (o : Obj) (cl : String), (cl = "str_ascii_iterator" ∨ cl = "str_iterator") → (s1.heap.push o).IsStrIter s1.heap.objs.size cl x t 0 → PIE X pins σ tg R (.ref s1.heap.objs.size) { s1 with heap := s1.heap.push o } := fun o cl hc st => by
      refine ⟨s1.heap.objs.size, [s1.heap.objs.size], _, _, H1, rfl, I1.kept (t' := s1.toks) fun b o e => Heap.get?_push_of_some _ e, turn_str _ x t cl hc, st, fun b hb => ?_, q⟩
      obtain rfl : b = s1.heap.objs.size := by simpa using hb
      exact I1.fpOk (Nat.le_refl _) (I1.hok.fresh (Nat.le_refl _))
    cases ha : x.cps.all (· < 128)
    · exact wpAny_pyIter_wide ha (fin _ _ (.inr rfl) ⟨_, Heap.get?_push_size _ rfl, rfl, rfl⟩)
    · exact wpAny_pyIter_ascii ha (fin _ _ (.inl rfl) ⟨_, Heap.get?_push_size _ rfl, rfl, rfl⟩)
theorem okI_plain {B D : Str → Bool} {i : MI} {E : SE} {e : Expr} (h : okI B D i E e = true) : Plain e := by
  cases i with
  | seq m => rw [okI] at h; exact okE_plain h
  | range m => cases e <;> first | exact trivial | simp [okI] at h
theorem evSeq_ok {X : Bc} {S : Sl} {W : Wl} {tg e : Expr} {ki : Nat → (Wl → Prop) → List PyData → Wl → Prop} (h : BE X S W e fun x W1 => ∃ w, evSeq x W1 = some w ∧ ki w.m w.still w.ds W1) : BI X S W tg e ki := fun F A σ H R x0 r sr q =>
  ⟨_, pi_any pe_U, h.use x0 r sr fun F1 A1 W1 H1 y vy e1 r1 z1 ⟨w, hw, h1⟩ => by
    unfold evSeq at hw
    split at hw
    · cases hw
      obtain ⟨a, vs, rfl, hv, z⟩ := Rq.of_lst z1
      have hl : ∀ {F' A' W' H'}, Ex1 0 F1 A1 F' A' → RW X.K F' A' W' H' → SqL X.K H' a vs := fun x r' => .inl (r'.sub.rd (x.same.rd hv))
      refine .inl ⟨a, rfl, ⟨vs, .inl (r1.sub.rd hv)⟩, q 0 GT F1 A1 W1 H1 _ _ e1 r1 (Nat.zero_le _) ⟨fun i F' A' W' H' hi x r' _ => ?_, fun i F' A' W' H' y H'' hi x r' _ hy => ?_, fun F' A' W' H' x r' _ => ?_⟩ h1⟩
      · have hi' : i < vs.length := by rw [← pd_len z]; exact hi
        exact ⟨vs, vs[i], hl x r', by simp [hi']⟩
      · obtain ⟨e, hy⟩ := hy
        obtain ⟨d, h1, h2⟩ := pd_getR z (hy vs (hl x r'))
        exact ⟨e, d, h1, Rq.same x.same _ h2⟩
      · exact ⟨vs, hl x r', by rw [← pd_len z]; exact Nat.le_refl _⟩
    · cases hw
      obtain ⟨a, vs, rfl, hv, z⟩ := Rq.of_tup z1
      have hl : ∀ {F' A' W' H'}, Ex1 0 F1 A1 F' A' → RW X.K F' A' W' H' → SqT X.K H' a vs := fun x r' => r'.sub.seqT (x.same.seqT hv)
      refine .inr (.inl ⟨a, rfl, ⟨vs, r1.sub.seqT hv⟩, q 0 GT F1 A1 W1 H1 _ _ e1 r1 (Nat.zero_le _) ⟨fun i F' A' W' H' hi x r' _ => ?_, fun i F' A' W' H' y H'' hi x r' _ hy => ?_, fun F' A' W' H' x r' _ => ?_⟩ h1⟩)
      · have hi' : i < vs.length := by rw [← pd_len z]; exact hi
        exact ⟨vs, vs[i], hl x r', by simp [hi']⟩
      · obtain ⟨e, hy⟩ := hy
        obtain ⟨d, h1, h2⟩ := pd_getR z (hy vs (hl x r'))
        exact ⟨e, d, h1, Rq.same x.same _ h2⟩
      · exact ⟨vs, hl x r', by rw [← pd_len z]; exact Nat.le_refl _⟩
    · cases hw
      rename_i x _
      obtain rfl := Rq.of_str z1
      have hl : (signsD x).length = x.cps.size := by unfold signsD; simp
      refine .inr (.inr ⟨x, rfl, q 0 GT F1 A1 W1 H1 _ _ e1 r1 (Nat.zero_le _) ⟨fun i F' A' W' H' hi _ _ _ => by rw [hl] at hi; exact hi, fun i F' A' W' H' y H'' hi _ r' _ hy => ?_, fun F' A' W' H' _ r' _ => by rw [hl]; exact Nat.le_refl _⟩ h1⟩)
      obtain ⟨e, c, hc, rfl⟩ := hy
      refine ⟨e, _, ?_, .str _⟩
      unfold signsD
      rw [List.getElem?_map, Array.getElem?_toList, hc]
      rfl
    · rename_i j _
      cases hds : lstOf W1 (.o j) with
      | none => rw [hds] at hw; cases hw
      | some ds =>
        rw [hds] at hw
        cases hw
        have hj : W1[j]? = some (.lst (datas ds)) := by
          rcases lst_of hds with z | ⟨j', z, hj⟩
          · cases z
          · cases z; exact hj
        obtain ⟨a, ha, rfl⟩ := z1
        have hja : j < A1.length := (List.getElem?_eq_some_iff.mp ha).1
        have ha' : ∀ {F' A'}, Ex1 (j + 1) F1 A1 F' A' → A'[j]? = some a := fun {F' A'} x => by
          have e := take_pre x.pre (by omega)
          have := congrArg (fun l => l[j]?) e
          simp only [List.getElem?_take_of_lt (Nat.lt_succ_self j)] at this
          rw [this]; exact ha
        have key : ∀ {F' A' W' H'}, Ex1 (j + 1) F1 A1 F' A' → RW X.K F' A' W' H' → W'[j]? = some (.lst (datas ds)) → ∃ vs, H' a = some (.lst vs) ∧ Paired (fun d v => Rq X.K F' v d) ds vs := fun x r' hG => by
          obtain ⟨u, e, vs, rfl, p⟩ := r'.obj j a _ (ha' x) hG
          exact ⟨vs, e, pd_datas p⟩
        obtain ⟨v0, e0, p0⟩ := key (.refl (by omega)) r1 hj
        refine .inl ⟨a, rfl, ⟨v0, SqL.of e0⟩, q (j + 1) _ F1 A1 W1 H1 ds _ e1 r1 hja ⟨fun i F' A' W' H' hi x r' hG => ?_, fun i F' A' W' H' y H'' hi x r' hG hy => ?_, fun F' A' W' H' x r' hG => ?_⟩ h1⟩
        · obtain ⟨vs, e, p⟩ := key x r' hG
          have hi' : i < vs.length := by rw [← pd_len p]; exact hi
          exact ⟨vs, vs[i], SqL.of e, by simp [hi']⟩
        · obtain ⟨vs, e, p⟩ := key x r' hG
          obtain ⟨e', hy⟩ := hy
          obtain ⟨d, h1, h2⟩ := pd_getR p (hy vs (SqL.of e))
          exact ⟨e', d, h1, h2⟩
        · obtain ⟨vs, e, p⟩ := key x r' hG
          exact ⟨vs, SqL.of e, by rw [← pd_len p]; exact Nat.le_refl _⟩
    · cases hw⟩
end
end L2
namespace L2
open PySem PySem.Spec PyProof.Rows
section
variable {Φ : Str → Option Fn} {Γ : Str → Option PyData} {cA : Str → Option Addr} {B D Qx : Str → Bool} {n : Nat}
theorem marks2 {o o' : CmpOp} {b c : Expr} (hc : Plain c) : lastMarks [o, o'] [b, c] = false := plain_marks hc o'
theorem Ctx.un {X : Bc} {E : SE} (C : Ctx n X E) : X.A.units + 100 < cLine := by have := C.room.un; omega
theorem trueOk {X : Bc} {S : Sl} {W : Wl} {e : Expr} {k : TB} {q : Str → Wl → Prop} (h : BE X S W e fun x W1 => (Res.opt (truth W1 x) fun t => Res.ok t W1).holds k q)
    (he : ∀ whole, isTrue e X.env whole = (do let v ← whole; standAt e.pos; holding [v] (truthy v)) := by intro _; rfl) : BT X S W e k := by
  refine bt_tru (h.mono fun x W1 z => ?_) he
  obtain ⟨t, ht, z⟩ := Res.holds_opt z
  obtain ⟨d, h1, h2, h3⟩ := truth_ok (e := e) ht
  exact ⟨d, h1, h2, by rw [h3]; exact z⟩
mutual
theorem evE_ok : ∀ (m : ME) {X : Bc} {E : SE} {e : Expr} {S : Sl} {W : Wl} {k : KB}, GloX Φ Γ cA B D Qx n X → Ctx n X E → okE B D m E e = true → (evE (evCall Φ Γ n) Γ m S W).holds k (XQ cA X S) → BE X S W e k
  | .no, X, E, e, S, W, k, G, C, ho, h => by simp [okE] at ho
  | .v i, X, E, e, S, W, k, G, C, ho, h => by
    unfold okE at ho
    split at ho
    · simp only [Bool.and_eq_true, decide_eq_true_eq] at ho
      simp only [evE] at h
      obtain ⟨x, hx, h⟩ := Res.holds_opt h
      exact be_var (i := i) (by rw [C.N]; exact ho.1) (C.vis _ ho.2) (slot_ok hx) h (visB_dbg ho.2).1 (visB_dbg ho.2).2
    · cases ho
  | .g y, X, E, e, S, W, k, G, C, ho, h => by
    unfold okE at ho
    split at ho
    · simp only [Bool.and_eq_true, decide_eq_true_eq] at ho
      obtain ⟨rfl, hg⟩ := ho
      simp only [evE] at h
      obtain ⟨d, hd, h⟩ := Res.holds_opt h
      obtain ⟨v, u, hm, rv, rq⟩ := G.gv _ _ hd
      exact be_glob (C.gl _ hg) hm rv rq h (glB_dbg hg)
    · cases ho
  | .c d, X, E, e, S, W, k, G, C, ho, h => by
    unfold okE at ho
    split at ho
    · rename_i c _ _
      simp only [evE] at h
      cases d <;> cases c <;> simp [constB] at ho
      · exact be_non h
      · subst ho; exact be_bl h
      · subst ho; exact be_int h
      · subst ho; exact be_str h
    · cases ho
  | .op o a b, X, E, e, S, W, k, G, C, ho, h => by
    unfold okE at ho
    split at ho
    · simp only [Bool.and_eq_true, decide_eq_true_eq] at ho
      obtain ⟨⟨rfl, h1⟩, h2⟩ := ho
      simp only [evE] at h
      refine be_op (evE_ok a G C h1 (Res.holds.mono (Res.holds_bind h) (fun x W1 z => ?_) fun _ _ z => z))
      exact evE_ok b G C h2 (Res.holds.mono (Res.holds_bind z) (fun y W2 z => evOp_ok z) fun _ _ z => z)
    · cases ho
  | .cmp o a b, X, E, e, S, W, k, G, C, ho, h => by
    unfold okE at ho
    split at ho
    · simp only [Bool.and_eq_true, decide_eq_true_eq] at ho
      obtain ⟨⟨rfl, h1⟩, h2⟩ := ho
      simp only [evE] at h
      refine be_cmp (plain_marks (okE_plain h2) _) (evE_ok a G C h1 (Res.holds.mono (Res.holds_bind h) (fun x W1 z => ?_) fun _ _ z => z))
      refine evE_ok b G C h2 (Res.holds.mono (Res.holds_bind z) (fun y W2 z => ?_) fun _ _ z => z)
      obtain ⟨t, ht, z⟩ := Res.holds_opt z
      exact evCmp_ok C.un ht z
    · cases ho
  | .chain o o' a b c, X, E, e, S, W, k, G, C, ho, h => by
    unfold okE at ho
    split at ho
    · simp only [Bool.and_eq_true, decide_eq_true_eq] at ho
      obtain ⟨⟨⟨⟨rfl, rfl⟩, h1⟩, h2⟩, h3⟩ := ho
      simp only [evE] at h
      refine be_chain (evE_ok a G C h1 (Res.holds.mono (Res.holds_bind h) (fun x W1 z => ?_) fun _ _ z => z)) (marks2 (okE_plain h3))
      refine evE_ok b G C h2 (Res.holds.mono (Res.holds_bind z) (fun y W2 z => ?_) fun _ _ z => z)
      obtain ⟨t, ht, z⟩ := Res.holds_opt z
      refine evCmp_ok C.un ht ⟨t, rfl, ?_⟩
      cases t with
      | true =>
        rw [if_pos rfl] at z ⊢
        refine evE_ok c G C h3 (Res.holds.mono (Res.holds_bind z) (fun u W4 z => ?_) fun _ _ z => z)
        obtain ⟨t', ht', z⟩ := Res.holds_opt z
        exact evCmp_ok C.un ht' z
      | false => rw [if_neg (by decide)] at z ⊢; exact z
    · cases ho
  | .and es, X, E, e, S, W, k, G, C, ho, h => by
    unfold okE at ho
    split at ho
    · simp only [evE] at h
      exact evAnd_ok es G C ho h
    · cases ho
  | .or es, X, E, e, S, W, k, G, C, ho, h => by
    unfold okE at ho
    split at ho
    · simp only [evE] at h
      exact evOr_ok es G C ho h
    · cases ho
  | .not a, X, E, e, S, W, k, G, C, ho, h => by
    unfold okE at ho
    split at ho
    · simp only [evE] at h
      refine be_not (evE_ok a G C ho (Res.holds.mono (Res.holds_bind h) (fun x W1 z => ?_) fun _ _ z => z))
      obtain ⟨b, rfl, z⟩ := asB_ok (Res.holds_bind z)
      exact ⟨b, rfl, z⟩
    · cases ho
  | .ife c a b, X, E, e, S, W, k, G, C, ho, h => by
    unfold okE at ho
    split at ho
    · simp only [Bool.and_eq_true] at ho
      obtain ⟨⟨h1, h2⟩, h3⟩ := ho
      simp only [evE] at h
      refine be_if (evT_ok c G C h1 (Res.holds.mono (Res.holds_bind h) (fun t W1 z => ?_) fun _ _ z => z))
      cases t with
      | true => rw [if_pos rfl] at z ⊢; exact evE_ok a G C h2 z
      | false => rw [if_neg (by decide)] at z ⊢; exact evE_ok b G C h3 z
    · cases ho
  | .tup es, X, E, e, S, W, k, G, C, ho, h => by
    unfold okE at ho
    split at ho
    · simp only [evE] at h
      refine be_tup (evAs_ok es G C ho (Res.holds.mono (Res.holds_bind h) (fun xs W1 z => ?_) fun _ _ z => z))
      obtain ⟨ds, hd, z⟩ := Res.holds_opt z
      obtain ⟨hl, z⟩ := Res.holds_when z
      exact ⟨ds, datas_of hd, hl, z⟩
    · cases ho
  | .key es, X, E, e, S, W, k, G, C, ho, h => by
    unfold okE at ho
    split at ho
    · simp only [evE] at h
      refine be_tupP (evAs_ok es G C ho (Res.holds.mono (Res.holds_bind h) (fun xs W1 z => ?_) fun _ _ z => z))
      obtain ⟨ds, hd, z⟩ := Res.holds_opt z
      obtain ⟨ks, hk, z⟩ := Res.holds_opt z
      obtain ⟨hl, z⟩ := Res.holds_when z
      exact ⟨ks.map .inr, by rw [datas_of hd, strs_of hk, strs_keys], by rw [List.length_map]; exact hl, z⟩
    · cases ho
  | .lst own es, X, E, e, S, W, k, G, C, ho, h => by
    unfold okE at ho
    split at ho
    · simp only [evE] at h
      cases own with
      | true =>
        refine be_lstO (evAs_ok es G C ho (Res.holds.mono (Res.holds_bind h) (fun xs W1 z => ?_) fun _ _ z => z))
        obtain ⟨hl, z⟩ := Res.holds_when z
        exact ⟨hl, z⟩
      | false =>
        refine be_lst (evAs_ok es G C ho (Res.holds.mono (Res.holds_bind h) (fun xs W1 z => ?_) fun _ _ z => z))
        obtain ⟨hl, z⟩ := Res.holds_when z
        simp only [Bool.false_eq_true, if_false] at z
        obtain ⟨ds, hd, z⟩ := Res.holds_opt z
        have e1 := datas_of hd
        refine ⟨ds, e1, ?_, z⟩
        rw [e1] at hl
        simpa [datas] using hl
    · cases ho
  | .dic i, X, E, e, S, W, k, G, C, ho, h => by
    unfold okE at ho
    split at ho
    · simp only [evE] at h
      by_cases h0 : i = 0
      · rw [if_pos h0] at h; exact be_dict0 h
      · rw [if_neg h0] at h
        by_cases h1 : i = 1
        · rw [if_pos h1] at h; exact be_dictO h
        · rw [if_neg h1] at h; exact be_dnewT h
    · cases ho
  | .call f es, X, E, e, S, W, k, G, C, ho, h => by
    unfold okE at ho
    split at ho
    · simp only [Bool.and_eq_true, decide_eq_true_eq] at ho
      obtain ⟨⟨⟨rfl, h1⟩, h2⟩, h3⟩ := ho
      simp only [evE] at h
      exact be_glo G C h1 h2 (okEs_plain h3) (evAs_ok es G C h3 (Res.holds_bind h))
    · cases ho
  | .bi f es, X, E, e, S, W, k, G, C, ho, h => by
    unfold okE at ho
    split at ho
    · simp only [Bool.and_eq_true, decide_eq_true_eq] at ho
      obtain ⟨⟨⟨rfl, h1⟩, h2⟩, h3⟩ := ho
      simp only [evE] at h
      exact be_blt G C h1 h2 (okEs_plain h3) (evAs_ok es G C h3 (Res.holds_bind h))
    · cases ho
  | .isi a T, X, E, e, S, W, k, G, C, ho, h => by
    unfold okE at ho
    split at ho
    · simp only [Bool.and_eq_true, decide_eq_true_eq] at ho
      obtain ⟨⟨⟨⟨⟨⟨rfl, h1⟩, h2⟩, rfl⟩, h3⟩, h4⟩, h5⟩ := ho
      simp only [evE] at h
      refine be_isinst (C.gl _ h1) (G.bi _ h2) b_isinst (C.gl _ h3) (G.bi _ h4) T.boot T.or (evE_ok a G C h5 (Res.holds.mono (Res.holds_bind h) (fun x W1 z => ?_) fun _ _ z => z)) T.nn (glB_dbg h3) (star_plain (okE_plain h5) _ _) rfl rfl
      obtain ⟨t, ht, z⟩ := Res.holds_opt z
      unfold isinst at ht
      cases hd : datOf W1 x with
      | none => rw [hd] at ht; cases ht
      | some d => rw [hd] at ht; cases ht; exact ⟨d, dat_of hd, z⟩
    · cases ho
  | .meth m o es, X, E, e, S, W, k, G, C, ho, h => by
    unfold okE at ho
    split at ho
    · rename_i oe name apos v vs cpos
      simp only [Bool.and_eq_true, decide_eq_true_eq] at ho
      obtain ⟨⟨⟨⟨⟨rfl, h1⟩, h2⟩, h3⟩, h4⟩, h5⟩ := ho
      simp only [evE] at h
      have hpl := okEs_plain h5
      refine be_bm m.pa m.slot m.hty (evE_ok o G C h1 (Res.holds.mono (Res.holds_bind h) (fun x W1 z => ?_) fun _ _ z => z)) (base_of h2 _ _) ?_ h3 (star_plain (hpl v List.mem_cons_self) _ _) (star_any (fun e he => hpl e (List.mem_cons_of_mem _ he)) _ _)
      · obtain ⟨hty, z⟩ := Res.holds_when z
        exact ⟨isTyB_ok hty, evAs_ok es G C h5 (Res.holds.mono (Res.holds_bind z) (fun xs W2 z => evMeth_ok C.un z) fun _ _ z => z)⟩
      · rw [star_all hpl]
        simp [keywordEach, backToKw]
        omega
    · cases ho
  | .ix a b, X, E, e, S, W, k, G, C, ho, h => by
    unfold okE at ho
    split at ho
    · simp only [Bool.and_eq_true] at ho
      obtain ⟨h1, h2⟩ := ho
      simp only [evE] at h
      refine be_ix (plain_ix (okE_plain h2)) (evE_ok a G C h1 (Res.holds.mono (Res.holds_bind h) (fun x W1 z => ?_) fun _ _ z => z))
      exact evE_ok b G C h2 (Res.holds.mono (Res.holds_bind z) (fun y W2 z => evIx_ok C.un z) fun _ _ z => z)
    · cases ho
  | .sl a lo hi, X, E, e, S, W, k, G, C, ho, h => by
    unfold okE at ho
    split at ho
    · simp only [Bool.and_eq_true] at ho
      obtain ⟨⟨h1, h2⟩, h3⟩ := ho
      simp only [evE] at h
      refine be_slice (evE_ok a G C h1 (Res.holds.mono (Res.holds_bind h) (fun x W1 z => ?_) fun _ _ z => z))
      refine evO_ok lo G C h2 (Res.holds.mono (Res.holds_bind z) (fun l W2 z => ?_) fun _ _ z => z)
      exact evO_ok hi G C h3 (Res.holds.mono (Res.holds_bind z) (fun u W3 z => evSl_ok z) fun _ _ z => z)
    · cases ho
  | .comp own O Fv cap tg it cond elt, X, E, e, S, W, k, G, C, ho, h => by
    unfold okE at ho
    split at ho
    · rename_i ee et ei eifs scope pos
      simp only [Bool.and_eq_true] at ho
      obtain ⟨⟨⟨⟨h1, h2⟩, h3⟩, h4⟩, h5⟩ := ho
      obtain ⟨cs, nd⟩ := cmpB_ok C.cf h2
      rw [← C.N] at cs
      simp only [evE] at h
      have main : ∀ (k' : List PyData → Wl → Prop), (∀ ys W', (if own then Res.ok (.o W'.length) (W' ++ [.lst (datas ys)]) else Res.ok (.d (.list ys)) W').holds k (XQ cA X S) → k' ys W') → BI X S W et ei (KC X O Fv cap scope S et ee eifs k') := fun k' hk' => by
        refine evI_ok it G C h1 (Res.holds.mono (Res.holds_bind h) (fun w W1 z => ?_) fun _ _ z => z)
        obtain ⟨hl, z⟩ := Res.holds_when z
        refine kc_of (q := XQ cA X S) hl (fun d W' kk hs => ?_) (Res.holds.mono (Res.holds_bind z) hk' fun _ _ z => z)
        obtain ⟨S2, hS2, hs⟩ := Res.holds_opt hs
        refine okTc_ok C.calm nd h3 hS2 ?_
        have hs := Res.holds_bind hs
        have fin : ∀ t W3, (if t then (evE (evCall Φ Γ n) Γ elt S2 W3).bind fun y W4 => (asD y W4).bind fun z W5 => Res.ok (some z) W5 else Res.ok none W3).holds kk (fun _ _ => False) → if t = true then BEc X (O ++ Fv) scope S2 W3 ee fun y W4 => ∃ dy, y = .d dy ∧ kk (some dy) W4 else kk none W3 := fun t W3 z => by
          cases t with
          | true =>
            rw [if_pos rfl] at z ⊢
            refine BEc.of fun cl c ex s H => evE_ok elt (X := X.cmp (O ++ Fv) scope cl c ex s H) G C.cmp h5 (Res.holds.mono (Res.holds_bind z) (fun y W4 z => ?_) fun _ _ z => z.elim)
            obtain ⟨b, rfl, z⟩ := asD_ok (Res.holds_bind z)
            exact ⟨b, rfl, z⟩
          | false => rw [if_neg (by decide)] at z ⊢; exact z
        cases cond with
        | nil =>
          cases eifs with
          | cons _ _ => simp [okEs] at h4
          | nil =>
            simp only [evCond] at hs
            exact btc_nil (fin true _ hs)
        | cons c es =>
          cases es with
          | cons _ _ => simp only [evCond] at hs; exact hs.elim
          | nil =>
            cases eifs with
            | nil => simp [okEs] at h4
            | cons ce ces =>
              simp only [okEs, Bool.and_eq_true] at h4
              cases ces with
              | cons _ _ => simp at h4
              | nil =>
                simp only [evCond] at hs
                refine BTc.one fun cl c' ex s H => evT_ok c (X := X.cmp (O ++ Fv) scope cl c' ex s H) G C.cmp h4.1 (Res.holds.mono hs (fun t W3 z => fin t W3 z) fun _ _ z => z.elim)
      cases own with
      | true => exact be_compO C.calm cs (main _ fun ys W' z => z) (plain_fold (okI_plain h1) _)
      | false => exact be_comp C.calm cs (main _ fun ys W' z => z) (plain_fold (okI_plain h1) _)
    · cases ho
theorem evT_ok : ∀ (m : ME) {X : Bc} {E : SE} {e : Expr} {S : Sl} {W : Wl} {k : TB}, GloX Φ Γ cA B D Qx n X → Ctx n X E → okE B D m E e = true → (evT (evCall Φ Γ n) Γ m S W).holds k (XQ cA X S) → BT X S W e k
  | .not a, X, E, e, S, W, k, G, C, ho, h => by
    unfold okE at ho
    split at ho
    · simp only [evT] at h
      exact bt_not (evT_ok a G C ho (Res.holds.mono (Res.holds_bind h) (fun t W1 z => z) fun _ _ z => z))
    · cases ho
  | .and es, X, E, e, S, W, k, G, C, ho, h => by
    unfold okE at ho
    split at ho
    · simp only [evT] at h
      exact BW.bt (evAndT_ok es G C ho h)
    · cases ho
  | .or es, X, E, e, S, W, k, G, C, ho, h => by
    unfold okE at ho
    split at ho
    · simp only [evT] at h
      exact BW.bt (evOrT_ok es G C ho h)
    · cases ho
  | .cmp o a b, X, E, e, S, W, k, G, C, ho, h => by
    unfold okE at ho
    split at ho
    · simp only [Bool.and_eq_true, decide_eq_true_eq] at ho
      obtain ⟨⟨rfl, h1⟩, h2⟩ := ho
      simp only [evT] at h
      refine bt_cmp (plain_marks (okE_plain h2) _) (evE_ok a G C h1 (Res.holds.mono (Res.holds_bind h) (fun x W1 z => ?_) fun _ _ z => z))
      refine evE_ok b G C h2 (Res.holds.mono (Res.holds_bind z) (fun y W2 z => ?_) fun _ _ z => z)
      obtain ⟨t, ht, z⟩ := Res.holds_opt z
      exact evCmp_ok C.un ht ⟨t, rfl, z⟩
    · cases ho
  | .chain o o' a b c, X, E, e, S, W, k, G, C, ho, h => by
    unfold okE at ho
    split at ho
    · simp only [Bool.and_eq_true, decide_eq_true_eq] at ho
      obtain ⟨⟨⟨⟨rfl, rfl⟩, h1⟩, h2⟩, h3⟩ := ho
      simp only [evT] at h
      refine bt_chain (evE_ok a G C h1 (Res.holds.mono (Res.holds_bind h) (fun x W1 z => ?_) fun _ _ z => z)) (marks2 (okE_plain h3))
      refine evE_ok b G C h2 (Res.holds.mono (Res.holds_bind z) (fun y W2 z => ?_) fun _ _ z => z)
      obtain ⟨t, ht, z⟩ := Res.holds_opt z
      refine evCmp_ok C.un ht ⟨t, rfl, ?_⟩
      cases t with
      | true =>
        rw [if_pos rfl] at z ⊢
        refine evE_ok c G C h3 (Res.holds.mono (Res.holds_bind z) (fun u W4 z => ?_) fun _ _ z => z)
        obtain ⟨t', ht', z⟩ := Res.holds_opt z
        exact evCmp_ok C.un ht' ⟨t', rfl, z⟩
      | false => rw [if_neg (by decide)] at z ⊢; exact z
    · cases ho
  | .v i, X, E, e, S, W, k, G, C, ho, h => by
    unfold okE at ho
    split at ho
    · simp only [Bool.and_eq_true, decide_eq_true_eq] at ho
      simp only [evT] at h
      obtain ⟨x, hx, h⟩ := Res.holds_opt h
      exact trueOk (be_var (i := i) (by rw [C.N]; exact ho.1) (C.vis _ ho.2) (slot_ok hx) h (visB_dbg ho.2).1 (visB_dbg ho.2).2)
    · cases ho
  | .call f es, X, E, e, S, W, k, G, C, ho, h => by
    unfold okE at ho
    split at ho
    · simp only [Bool.and_eq_true, decide_eq_true_eq] at ho
      obtain ⟨⟨⟨rfl, h1⟩, h2⟩, h3⟩ := ho
      simp only [evT] at h
      exact trueOk (be_glo G C h1 h2 (okEs_plain h3) (evAs_ok es G C h3 (Res.holds.mono (Res.holds_bind h) (fun xs W1 z => Res.holds_bind z) fun _ _ z => z)))
    · cases ho
  | .bi f es, X, E, e, S, W, k, G, C, ho, h => by
    unfold okE at ho
    split at ho
    · simp only [Bool.and_eq_true, decide_eq_true_eq] at ho
      obtain ⟨⟨⟨rfl, h1⟩, h2⟩, h3⟩ := ho
      simp only [evT] at h
      exact trueOk (be_blt G C h1 h2 (okEs_plain h3) (evAs_ok es G C h3 (Res.holds.mono (Res.holds_bind h) (fun xs W1 z => Res.holds_bind z) fun _ _ z => z)))
    · cases ho
  | .isi a T, X, E, e, S, W, k, G, C, ho, h => by
    unfold okE at ho
    split at ho
    · simp only [Bool.and_eq_true, decide_eq_true_eq] at ho
      obtain ⟨⟨⟨⟨⟨⟨rfl, h1⟩, h2⟩, rfl⟩, h3⟩, h4⟩, h5⟩ := ho
      simp only [evT] at h
      refine bt_val (be_isinst (C.gl _ h1) (G.bi _ h2) b_isinst (C.gl _ h3) (G.bi _ h4) T.boot T.or (evE_ok a G C h5 (Res.holds.mono (Res.holds_bind h) (fun x W1 z => ?_) fun _ _ z => z)) T.nn (glB_dbg h3) (star_plain (okE_plain h5) _ _) rfl rfl)
      obtain ⟨t, ht, z⟩ := Res.holds_opt z
      unfold isinst at ht
      cases hd : datOf W1 x with
      | none => rw [hd] at ht; cases ht
      | some d => rw [hd] at ht; cases ht; exact ⟨d, dat_of hd, _, rfl, z⟩
    · cases ho
  | .ix a b, X, E, e, S, W, k, G, C, ho, h => by
    unfold okE at ho
    split at ho
    · simp only [Bool.and_eq_true] at ho
      obtain ⟨h1, h2⟩ := ho
      simp only [evT] at h
      refine trueOk (q := XQ cA X S) (be_ix (plain_ix (okE_plain h2)) (evE_ok a G C h1 (Res.holds.mono (Res.holds_bind h) (fun x W1 z => ?_) fun _ _ z => z)))
      exact evE_ok b G C h2 (Res.holds.mono (Res.holds_bind z) (fun y W2 z => evIx_ok C.un (Res.holds_bind z)) fun _ _ z => z)
    · cases ho
  | .no, X, E, e, S, W, k, G, C, ho, h => by simp [okE] at ho
  | .g _, X, E, e, S, W, k, G, C, ho, h => by simp only [evT] at h; exact h.elim
  | .c _, X, E, e, S, W, k, G, C, ho, h => by simp only [evT] at h; exact h.elim
  | .op _ _ _, X, E, e, S, W, k, G, C, ho, h => by simp only [evT] at h; exact h.elim
  | .ife _ _ _, X, E, e, S, W, k, G, C, ho, h => by simp only [evT] at h; exact h.elim
  | .tup _, X, E, e, S, W, k, G, C, ho, h => by simp only [evT] at h; exact h.elim
  | .key _, X, E, e, S, W, k, G, C, ho, h => by simp only [evT] at h; exact h.elim
  | .lst _ _, X, E, e, S, W, k, G, C, ho, h => by simp only [evT] at h; exact h.elim
  | .dic _, X, E, e, S, W, k, G, C, ho, h => by simp only [evT] at h; exact h.elim
  | .meth _ _ _, X, E, e, S, W, k, G, C, ho, h => by simp only [evT] at h; exact h.elim
  | .sl _ _ _, X, E, e, S, W, k, G, C, ho, h => by simp only [evT] at h; exact h.elim
  | .comp _ _ _ _ _ _ _ _, X, E, e, S, W, k, G, C, ho, h => by simp only [evT] at h; exact h.elim
theorem evAnd_ok : ∀ (es : MEs) {X : Bc} {E : SE} {vs : List Expr} {pos : Pos} {S : Sl} {W : Wl} {k : KB}, GloX Φ Γ cA B D Qx n X → Ctx n X E → okEs B D es E vs = true → (evAnd (evCall Φ Γ n) Γ es S W).holds k (XQ cA X S) → BE X S W (.BoolOp .And vs pos) k
  | .nil, X, E, vs, pos, S, W, k, G, C, ho, h => by simp only [evAnd] at h; exact h.elim
  | .cons e .nil, X, E, vs, pos, S, W, k, G, C, ho, h => by
    cases vs with
    | nil => simp [okEs] at ho
    | cons v vs =>
      simp only [okEs, Bool.and_eq_true] at ho
      cases vs with
      | cons _ _ => simp at ho
      | nil => simp only [evAnd] at h; exact be_one (evE_ok e G C ho.1 h)
  | .cons e (.cons e' es), X, E, vs, pos, S, W, k, G, C, ho, h => by
    cases vs with
    | nil => simp [okEs] at ho
    | cons v vs =>
      rw [okEs, Bool.and_eq_true] at ho
      cases vs with
      | nil => simp [okEs] at ho
      | cons v' vs =>
        simp only [evAnd] at h
        refine be_and (evE_ok e G C ho.1 (Res.holds.mono (Res.holds_bind h) (fun x W1 z => ?_) fun _ _ z => z))
        obtain ⟨b, rfl, z2⟩ := asB_ok (Res.holds_bind z)
        refine ⟨b, rfl, ?_⟩
        cases b with
        | true => rw [if_pos rfl] at z2 ⊢; exact evAnd_ok (.cons e' es) G C ho.2 z2
        | false => rw [if_neg (by decide)] at z2 ⊢; exact z2
theorem evOr_ok : ∀ (es : MEs) {X : Bc} {E : SE} {vs : List Expr} {pos : Pos} {S : Sl} {W : Wl} {k : KB}, GloX Φ Γ cA B D Qx n X → Ctx n X E → okEs B D es E vs = true → (evOr (evCall Φ Γ n) Γ es S W).holds k (XQ cA X S) → BE X S W (.BoolOp .Or vs pos) k
  | .nil, X, E, vs, pos, S, W, k, G, C, ho, h => by simp only [evOr] at h; exact h.elim
  | .cons e .nil, X, E, vs, pos, S, W, k, G, C, ho, h => by
    cases vs with
    | nil => simp [okEs] at ho
    | cons v vs =>
      simp only [okEs, Bool.and_eq_true] at ho
      cases vs with
      | cons _ _ => simp at ho
      | nil => simp only [evOr] at h; exact be_one (evE_ok e G C ho.1 h)
  | .cons e (.cons e' es), X, E, vs, pos, S, W, k, G, C, ho, h => by
    cases vs with
    | nil => simp [okEs] at ho
    | cons v vs =>
      rw [okEs, Bool.and_eq_true] at ho
      cases vs with
      | nil => simp [okEs] at ho
      | cons v' vs =>
        simp only [evOr] at h
        refine be_or (evE_ok e G C ho.1 (Res.holds.mono (Res.holds_bind h) (fun x W1 z => ?_) fun _ _ z => z))
        obtain ⟨b, rfl, z2⟩ := asB_ok (Res.holds_bind z)
        refine ⟨b, rfl, ?_⟩
        cases b with
        | true => rw [if_pos rfl] at z2 ⊢; exact z2
        | false => rw [if_neg (by decide)] at z2 ⊢; exact evOr_ok (.cons e' es) G C ho.2 z2
theorem evAndT_ok : ∀ (es : MEs) {X : Bc} {E : SE} {vs : List Expr} {pos : Pos} {S : Sl} {W : Wl} {k : TB}, GloX Φ Γ cA B D Qx n X → Ctx n X E → okEs B D es E vs = true → (evAndT (evCall Φ Γ n) Γ es S W).holds k (XQ cA X S) → BW X S W (.BoolOp .And vs pos) k
  | .nil, X, E, vs, pos, S, W, k, G, C, ho, h => by simp only [evAndT] at h; exact h.elim
  | .cons e .nil, X, E, vs, pos, S, W, k, G, C, ho, h => by
    cases vs with
    | nil => simp [okEs] at ho
    | cons v vs =>
      simp only [okEs, Bool.and_eq_true] at ho
      cases vs with
      | cons _ _ => simp at ho
      | nil => simp only [evAndT] at h; exact bw_and1 (evT_ok e G C ho.1 h)
  | .cons e (.cons e' es), X, E, vs, pos, S, W, k, G, C, ho, h => by
    cases vs with
    | nil => simp [okEs] at ho
    | cons v vs =>
      rw [okEs, Bool.and_eq_true] at ho
      cases vs with
      | nil => simp [okEs] at ho
      | cons v' vs =>
        simp only [evAndT] at h
        refine bw_and (evT_ok e G C ho.1 (Res.holds.mono (Res.holds_bind h) (fun b W1 z => ?_) fun _ _ z => z))
        cases b with
        | true => rw [if_pos rfl] at z ⊢; exact evAndT_ok (.cons e' es) G C ho.2 z
        | false => rw [if_neg (by decide)] at z ⊢; exact z
theorem evOrT_ok : ∀ (es : MEs) {X : Bc} {E : SE} {vs : List Expr} {pos : Pos} {S : Sl} {W : Wl} {k : TB}, GloX Φ Γ cA B D Qx n X → Ctx n X E → okEs B D es E vs = true → (evOrT (evCall Φ Γ n) Γ es S W).holds k (XQ cA X S) → BW X S W (.BoolOp .Or vs pos) k
  | .nil, X, E, vs, pos, S, W, k, G, C, ho, h => by simp only [evOrT] at h; exact h.elim
  | .cons e .nil, X, E, vs, pos, S, W, k, G, C, ho, h => by
    cases vs with
    | nil => simp [okEs] at ho
    | cons v vs =>
      simp only [okEs, Bool.and_eq_true] at ho
      cases vs with
      | cons _ _ => simp at ho
      | nil => simp only [evOrT] at h; exact bw_or1 (evT_ok e G C ho.1 h)
  | .cons e (.cons e' es), X, E, vs, pos, S, W, k, G, C, ho, h => by
    cases vs with
    | nil => simp [okEs] at ho
    | cons v vs =>
      rw [okEs, Bool.and_eq_true] at ho
      cases vs with
      | nil => simp [okEs] at ho
      | cons v' vs =>
        simp only [evOrT] at h
        refine bw_or (evT_ok e G C ho.1 (Res.holds.mono (Res.holds_bind h) (fun b W1 z => ?_) fun _ _ z => z))
        cases b with
        | true => rw [if_pos rfl] at z ⊢; exact z
        | false => rw [if_neg (by decide)] at z ⊢; exact evOrT_ok (.cons e' es) G C ho.2 z
theorem evAs_ok : ∀ (es : MEs) {X : Bc} {E : SE} {vs : List Expr} {S : Sl} {W : Wl} {k : KA}, GloX Φ Γ cA B D Qx n X → Ctx n X E → okEs B D es E vs = true → (evAs (evCall Φ Γ n) Γ es S W).holds k (XQ cA X S) → BA X S W vs k
  | .nil, X, E, vs, S, W, k, G, C, ho, h => by
    cases vs with
    | nil => simp only [evAs] at h; exact ba_nil h
    | cons _ _ => simp [okEs] at ho
  | .cons e es, X, E, vs, S, W, k, G, C, ho, h => by
    cases vs with
    | nil => simp [okEs] at ho
    | cons v vs =>
      simp only [okEs, Bool.and_eq_true] at ho
      simp only [evAs] at h
      refine ba_cons (evE_ok e G C ho.1 (Res.holds.mono (Res.holds_bind h) (fun x W1 z => ?_) fun _ _ z => z)) (star_plain (okE_plain ho.1) _ _)
      exact evAs_ok es G C ho.2 (Res.holds.mono (Res.holds_bind z) (fun xs W2 z => z) fun _ _ z => z)
theorem evO_ok : ∀ (m : MO) {X : Bc} {E : SE} {o : Option Expr} {S : Sl} {W : Wl} {k : KO}, GloX Φ Γ cA B D Qx n X → Ctx n X E → okO B D m E o = true → (evO (evCall Φ Γ n) Γ m S W).holds k (XQ cA X S) → BO X S W o k
  | .no, X, E, o, S, W, k, G, C, ho, h => by
    unfold okO at ho
    simp only [evO] at h
    cases o with
    | none => exact bo_none h
    | some _ => cases ho
  | .some m, X, E, o, S, W, k, G, C, ho, h => by
    unfold okO at ho
    split at ho
    · simp only [evO] at h
      refine bo_some (evE_ok m G C ho (Res.holds.mono (Res.holds_bind h) (fun x W1 z => ?_) fun _ _ z => z))
      obtain ⟨j, rfl, z2⟩ := asI_ok (Res.holds_bind z)
      exact ⟨j, rfl, z2⟩
    · cases ho
theorem evI_ok : ∀ (i : MI) {X : Bc} {E : SE} {e tg : Expr} {S : Sl} {W : Wl} {ki : Nat → (Wl → Prop) → List PyData → Wl → Prop}, GloX Φ Γ cA B D Qx n X → Ctx n X E → okI B D i E e = true → (evI (evCall Φ Γ n) Γ i S W).holds (fun w W1 => ki w.m w.still w.ds W1) (XQ cA X S) → BI X S W tg e ki
  | .seq m, X, E, e, tg, S, W, ki, G, C, ho, h => by
    simp only [okI] at ho
    simp only [evI] at h
    refine evSeq_ok (evE_ok m G C ho (Res.holds.mono (Res.holds_bind h) (fun x W1 z => ?_) fun _ _ z => z))
    obtain ⟨w, hw, z⟩ := Res.holds_opt z
    exact ⟨w, hw, z⟩
  | .range m, X, E, e, tg, S, W, ki, G, C, ho, h => by
    unfold okI at ho
    split at ho
    · simp only [Bool.and_eq_true, decide_eq_true_eq] at ho
      obtain ⟨⟨⟨rfl, h1⟩, h2⟩, h3⟩ := ho
      simp only [evI] at h
      refine bi_range1 (C.gl _ h1) (G.bi _ h2) (evE_ok m G C h3 (Res.holds.mono (Res.holds_bind h) (fun x W1 z => ?_) fun _ _ z => z)) (by rw [star_plain (okE_plain h3)]; rfl)
      obtain ⟨j, rfl, z⟩ := asI_ok (Res.holds_bind z)
      obtain ⟨hj, z⟩ := Res.holds_when (show (Res.when _ _).holds _ _ from z)
      exact ⟨j, rfl, hj.1, hj.2, z⟩
    · cases ho
end
/-- a comprehension as told -/
theorem comp_main {it : MI} {cond : MEs} {elt : ME} {tg : MT} {O Fv : List Str} {cap : List Nat} {scope : Scope} {X : Bc} {E : SE} {S : Sl} {W : Wl} {et ei ee : Expr} {eifs : List Expr} {k' : List PyData → Wl → Prop} (G : GloX Φ Γ cA B D Qx n X) (C : Ctx n X E) (nd : (O ++ Fv).Nodup)
    (h1 : okI B D it E ei = true) (h3 : okTc (O ++ Fv) O.length scope tg et = true) (h4 : okEs B D cond ⟨O ++ Fv, scope⟩ eifs = true) (h5 : okE B D elt ⟨O ++ Fv, scope⟩ ee = true)
    (h : (evI (evCall Φ Γ n) Γ it S W).holds (fun w W1 => w.ds.length ≤ sizeLine ∧ (compL w.still (fun d W2 => .opt (evTc tg d (cmpS O cap S)) fun S2 => (evCond (evCall Φ Γ n) Γ cond S2 W2).bind fun t W3 => if t then (evE (evCall Φ Γ n) Γ elt S2 W3).bind fun y W4 => (asD y W4).bind fun z W5 => .ok (some z) W5 else .ok none W3) w.ds [] W1).holds k' (XQ cA X S)) (XQ cA X S)) :
    BI X S W et ei (KC X O Fv cap scope S et ee eifs k') := by
  refine evI_ok it G C h1 (Res.holds.mono h (fun w W1 ⟨hl, z⟩ => ?_) fun _ _ z => z)
  refine kc_of (q := XQ cA X S) hl (fun d W' kk hs => ?_) z
  obtain ⟨S2, hS2, hs⟩ := Res.holds_opt hs
  refine okTc_ok C.calm nd h3 hS2 ?_
  have hs := Res.holds_bind hs
  have fin : ∀ t W3, (if t then (evE (evCall Φ Γ n) Γ elt S2 W3).bind fun y W4 => (asD y W4).bind fun z W5 => Res.ok (some z) W5 else Res.ok none W3).holds kk (fun _ _ => False) → if t = true then BEc X (O ++ Fv) scope S2 W3 ee fun y W4 => ∃ dy, y = .d dy ∧ kk (some dy) W4 else kk none W3 := fun t W3 z => by
    cases t with
    | true =>
      rw [if_pos rfl] at z ⊢
      refine BEc.of fun cl c ex s H => evE_ok elt (X := X.cmp (O ++ Fv) scope cl c ex s H) G C.cmp h5 (Res.holds.mono (Res.holds_bind z) (fun y W4 z => ?_) fun _ _ z => z.elim)
      obtain ⟨b, rfl, z⟩ := asD_ok (Res.holds_bind z)
      exact ⟨b, rfl, z⟩
    | false => rw [if_neg (by decide)] at z ⊢; exact z
  cases cond with
  | nil =>
    cases eifs with
    | cons _ _ => simp [okEs] at h4
    | nil =>
      simp only [evCond] at hs
      exact btc_nil (fin true _ hs)
  | cons c es =>
    cases es with
    | cons _ _ => simp only [evCond] at hs; exact hs.elim
    | nil =>
      cases eifs with
      | nil => simp [okEs] at h4
      | cons ce ces =>
        simp only [okEs, Bool.and_eq_true] at h4
        cases ces with
        | cons _ _ => simp at h4
        | nil =>
          simp only [evCond] at hs
          exact BTc.one fun cl c' ex s H => evT_ok c (X := X.cmp (O ++ Fv) scope cl c' ex s H) G C.cmp h4.1 (Res.holds.mono hs (fun t W3 z => fin t W3 z) fun _ _ z => z.elim)
end
end L2
namespace L2
open PySem PySem.Spec PyProof.Rows
noncomputable def SRes.holds (r : SRes) (D : DB) (q : Str → Sl → Wl → Prop) : Prop := match r with
  | .nx S W => D.nx S W
  | .rt e W => D.rt e W
  | .exc C S W => q C S W
  | .stuck => False
theorem SRes.holds_st {α : Type} {r : Res α} {S : Sl} {f : α → Wl → SRes} {D : DB} {q : Str → Sl → Wl → Prop} (h : (r.st S f).holds D q) : r.holds (fun a W => (f a W).holds D q) fun C W => q C S W := by
  cases r <;> exact h
theorem SRes.holds_bind {r : SRes} {f : Sl → Wl → SRes} {D : DB} {q : Str → Sl → Wl → Prop} (h : (r.bind f).holds D q) : r.holds { D with nx := fun S W => (f S W).holds D q } q := by
  cases r <;> exact h
theorem SRes.holds_whenC {b : Prop} {r : SRes} {D : DB} {q : Str → Sl → Wl → Prop} (h : (SRes.whenC b r).holds D q) : b ∧ r.holds D q := by
  unfold SRes.whenC at h
  by_cases hb : b
  · rw [if_pos hb] at h; exact ⟨hb, h⟩
  · rw [if_neg hb] at h; exact h.elim
theorem SRes.holds.mono {r : SRes} {D D' : DB} {q q' : Str → Sl → Wl → Prop} (h : r.holds D q) (h1 : ∀ S W, D.nx S W → D'.nx S W) (h2 : ∀ e W, D.rt e W → D'.rt e W) (h3 : ∀ C S W, q C S W → q' C S W) : r.holds D' q' := by
  cases r with
  | nx S W => exact h1 _ _ h
  | rt e W => exact h2 _ _ h
  | exc C S W => exact h3 _ _ _ h
  | stuck => exact h
noncomputable def XQs (cA : Str → Option Addr) (X : Bc) : Str → Sl → Wl → Prop := fun C S W' => ∃ a, cA C = some a ∧ X.xk a S W'
/-- a def's body -/
structure CtxS (n : Nat) (X : Bc) (E : SE) : Prop extends Ctx n X E where
  nd : E.N.Nodup
  loc : ∀ x, locB E.sc x = true → Loc X.env.scope x
  fn : ∀ x, X.fn x = true
  po : PassesOwn (model X.prog X.w) X.A X.env X.xe
section
variable {X : Bc} {n : Nat} {S : Sl} {W : Wl} {D : DB}
theorem bs_forV {tg iter : Expr} {body : List Stmt} {pos : Pos} (hp : PassesOwn (model X.prog X.w) X.A X.env X.xe) (hc : X.calm = true)
    (h : BI X S W tg iter fun m G ds W1 => ∃ P : Nat → Sl → Wl → Prop, P 0 S W1 ∧ (∀ i S' W', i ≤ ds.length → P i S' W' → G W') ∧
      (∀ mb i d S' W', ds[i]? = some d → P i S' W' → BG X S' W' tg (.d d) fun S2 W2 => BSs X mb S2 W2 body { D with nx := P (i + 1), ct := P (i + 1), bk := D.nx }) ∧ ∀ S' W', P ds.length S' W' → D.nx S' W')
    (hs : ∀ x, foldedSetIterable iter X.env x = pure x) : BS X n S W (.For tg iter body [] pos) D :=
  .of (ps_for hp hc pi_U pg_U pss_U hs) fun F A σ H E hn x0 r sr q => h F A σ H _ x0.am r sr fun m G F1 A1 W1 H1 ds J e1 r1 hm1 wk ⟨P, p0, hG, hs, hd⟩ => by
    have hnA : n ≤ A1.length := Nat.le_trans hn e1.pre.length_le
    obtain ⟨mb, hnm, hmm, hmA⟩ : ∃ mb, n ≤ mb ∧ m ≤ mb ∧ mb ≤ A1.length := ⟨max n m, Nat.le_max_left _ _, Nat.le_max_right _ _, Nat.max_le.mpr ⟨hnA, hm1⟩⟩
    refine ⟨fun i μ σ' H' => μ = ds.length - i ∧ i ≤ ds.length ∧ ∃ F' A' S' W', Ex1 mb F1 A1 F' A' ∧ RW X.K F' A' W' H' ∧ SR X.K F' A' S' σ' ∧ P i S' W', ⟨ds.length, by simp, Nat.zero_le _, F1, A1, S, W1, .refl hmA, r1, sr.ext e1, p0⟩, ?_⟩
    rintro i μ σ' H' ⟨rfl, hi, F', A', S', W', x, r', sr', p⟩
    have g := hG i S' W' hi p
    by_cases hlt : i < ds.length
    · refine .inr ⟨wk.go i F' A' W' H' hlt (x.le hmm) r' g, fun σ2 H2 => ∃ F2 A2 S2 W2, Ex1 mb F1 A1 F2 A2 ∧ RW X.K F2 A2 W2 H2 ∧ SR X.K F2 A2 S2 σ2 ∧ P (i + 1) S2 W2, fun σ2 H2 p2 => ⟨ds.length - (i + 1), by omega, rfl, hlt, p2⟩, fun v H'' hy => ?_⟩
      obtain ⟨rfl, d, hd', zd⟩ := wk.yld i F' A' W' H' v H'' hlt (x.le hmm) r' g hy
      refine hs mb i d S' W' hd' p F' A' σ' H'' v _ ((x0.ext e1).up hnm |>.ex1 hmA x).am r' sr' zd fun F2 A2 W2 H2 S2 σ2 x2 r2 sr2 h2 => ?_
      have x12 : Ex1 mb F1 A1 F2 A2 := x.trans hmA (x2.ex1 x.len)
      have q2 := q.ext hn ((e1.ex1 hn).trans hn (x12.le hnm))
      exact h2.use x12.len (((x0.ext e1).up hnm).ex1 hmA x12) r2 sr2 ⟨fun F3 A3 W3 H3 S3 σ3 x3 r3 sr3 h3 => ⟨F3, A3, S3, W3, x12.trans hmA x3, r3, sr3, h3⟩, fun F3 A3 W3 H3 S3 σ3 x3 => q2.nx F3 A3 W3 H3 S3 σ3 (x3.le hnm), fun F3 A3 W3 H3 S3 σ3 x3 r3 sr3 h3 => ⟨F3, A3, S3, W3, x12.trans hmA x3, r3, sr3, h3⟩, fun F3 A3 W3 H3 e v x3 => q2.rt F3 A3 W3 H3 e v (x3.le hnm)⟩
    · have hie : i = ds.length := by omega
      subst hie
      exact .inl ⟨wk.stop F' A' W' H' (x.le hmm) r' g, (q.ext hn (e1.ex1 hn)).nx F' A' W' H' S' σ' (x.le hnm) r' sr' (hd S' W' p)⟩
theorem bs_forEV {elts : List Expr} {c : Nat} {tp : Pos} {a : Expr} {p ipos : Pos} {body : List Stmt} {pos : Pos} (hp : PassesOwn (model X.prog X.w) X.A X.env X.xe) (hc : X.calm = true) (hg : Gl X "enumerate") (hm : X.mg "enumerate" = none)
    (h : BA X S W [a] fun as W1 => ∃ (ds : List PyData) (P : Nat → Sl → Wl → Prop), as = [.d (.tuple ds)] ∧ P 0 S W1 ∧
      (∀ mb i d S' W', ds[i]? = some d → P i S' W' → BG X S' W' (.Tuple elts c tp) (.d (.tuple [.int i, d])) fun S2 W2 => BSs X mb S2 W2 body { D with nx := P (i + 1), ct := P (i + 1), bk := D.nx }) ∧ ∀ S' W', P ds.length S' W' → D.nx S' W')
    (hst : starEach [a] X.env = [(false, eval a X.env)]) : BS X n S W (.For (.Tuple elts c tp) (.Call (.Name "enumerate" p) [a] [] ipos) body [] pos) D :=
  .of (ps_for hp hc (pi_enumT hg hm pa_U hst) pg_U pss_U (by intro _; rfl)) fun F A σ H E hn x0 r sr q => h.use x0.am r sr fun F1 A1 W1 H1 as vs e1 r1 z1 ⟨ds, P, hd, p0, hstep, hdone⟩ => by
    subst hd
    obtain ⟨v, rfl, zv⟩ := pd_one z1
    obtain ⟨b, ws, rfl, hv, z⟩ := Rq.of_tup zv
    have hnA : n ≤ A1.length := Nat.le_trans hn e1.pre.length_le
    have hl : ∀ {F' A' W' H'}, Ex1 n F1 A1 F' A' → RW X.K F' A' W' H' → SqT X.K H' b ws := fun x r' => r'.sub.seqT (x.same.seqT hv)
    refine ⟨b, ws, rfl, r1.sub.seqT hv, fun i μ σ' H' => μ = ds.length - i ∧ i ≤ ds.length ∧ ∃ F' A' S' W', Ex1 n F1 A1 F' A' ∧ RW X.K F' A' W' H' ∧ SR X.K F' A' S' σ' ∧ P i S' W', ⟨ds.length, by simp, Nat.zero_le _, F1, A1, S, W1, .refl hnA, r1, sr.ext e1, p0⟩, ?_⟩
    rintro i μ σ' H' ⟨rfl, hi, F', A', S', W', x, r', sr', pp⟩
    have hwl : ds.length = ws.length := pd_len z
    by_cases hlt : i < ds.length
    · refine .inr ⟨⟨ws, ws[i], hl x r', by simp⟩, fun σ2 H2 => ∃ F2 A2 S2 W2, Ex1 n F1 A1 F2 A2 ∧ RW X.K F2 A2 W2 H2 ∧ SR X.K F2 A2 S2 σ2 ∧ P (i + 1) S2 W2, fun σ2 H2 p2 => ⟨ds.length - (i + 1), by omega, rfl, hlt, p2⟩, fun v H'' hy => ?_⟩
      obtain ⟨t, y, rfl, hn', rfl, hget⟩ := hy
      obtain ⟨d, hd', zd⟩ := pd_getR z (hget ws (hl x r'))
      obtain ⟨r2, e2⟩ := r'.newF hn' (.tup [.int i, y])
      have zt : ElR X.K (upd F' t (.tup [.int i, y])) A' (.d (.tuple [.int i, d])) (.ref t) := .dd (Rq.tup (SqT.of upd_same) (.cons (Rq.int i) (.cons (Rq.same e2.same _ (Rq.same x.same _ zd)) .nil)))
      have x2 : Ex1 n F1 A1 (upd F' t (.tup [.int i, y])) A' := x.trans hnA (e2.ex1 x.len)
      refine hstep n i d S' W' hd' pp _ A' σ' _ _ _ ((x0.ext e1).ex1 hnA x2).am r2 (sr'.ext e2) zt fun F3 A3 W3 H3 S3 σ3 x3 r3 sr3 h3 => ?_
      have x13 : Ex1 n F1 A1 F3 A3 := x2.trans hnA (x3.ex1 x2.len)
      have q2 := q.ext hn ((e1.ex1 hn).trans hn x13)
      exact h3.use x13.len ((x0.ext e1).ex1 hnA x13) r3 sr3 ⟨fun F4 A4 W4 H4 S4 σ4 x4 r4 sr4 h4 => ⟨F4, A4, S4, W4, x13.trans hnA x4, r4, sr4, h4⟩, fun F4 A4 W4 H4 S4 σ4 x4 => q2.nx F4 A4 W4 H4 S4 σ4 x4, fun F4 A4 W4 H4 S4 σ4 x4 r4 sr4 h4 => ⟨F4, A4, S4, W4, x13.trans hnA x4, r4, sr4, h4⟩, fun F4 A4 W4 H4 e v x4 => q2.rt F4 A4 W4 H4 e v x4⟩
    · have hie : i = ds.length := by omega
      subst hie
      exact .inl ⟨⟨ws, hl x r', by omega⟩, (q.ext hn (e1.ex1 hn)).nx F' A' W' H' S' σ' x r' sr' (hdone S' W' pp)⟩
/-- x = [elt for ..], changed later -/
theorem bs_setcO {tg elt iter : Expr} {ifs : List Expr} {O Fv : List Str} {cap : List Nat} {scope : Scope} {pos : Pos} {i : Nat} {x : Str} {pos' spos : Pos} (hN : X.N.Nodup) (hix : X.N[i]? = some x) (hx : Loc X.env.scope x) (hc : X.calm = true) (cs : CmpScope X.N X.env.scope O Fv cap scope)
    (h : BI X S W tg iter (KC X O Fv cap scope S tg elt ifs fun ys W' => D.nx (S.set i (some (.o W'.length))) (W' ++ [.lst (datas ys)])))
    (hsw : swapsWith (.ListComp elt [⟨tg, iter, ifs, 0⟩] scope pos) (some (.Name x pos')) spos.line X.env = pure true) (hs : ∀ x, foldedSetIterable iter X.env x = pure x)
    (hf : X.fn x = true ∨ X.env.scope.names.lookup x = some .local) : BS X n S W (.Assign [.Name x pos'] (.ListComp elt [⟨tg, iter, ifs, 0⟩] scope pos) spos) D :=
  .of (ps_setc (g := tUGc X (O ++ Fv) scope O.length tg) (tt := tUTc X (O ++ Fv) scope ifs) (te := tUEc X (O ++ Fv) scope elt) hN hix hx hc cs pi_U (fun cl C ex s H => fun pins s' σ' H' v u Q I r ⟨t, h, _, q⟩ => h cl C ex s H pins s' σ' H' v u Q I r q) (fun cl C ex s H => fun pins s' σ' H' Q I ⟨t, h, q⟩ => h cl C ex s H pins s' σ' H' Q I q)
    (fun cl C ex s H => fun pins s' σ' H' Q I ⟨t, h, q⟩ => h cl C ex s H pins s' σ' H' Q I q) own_U hsw hs hf) fun F A σ H E hn x0 r sr q => comp_read h x0.am r sr fun F' A' W' H' ys vs p x r' z hp hk => by
      obtain ⟨r2, y⟩ := r'.newO hp (o := .lst (datas ys)) (u := .lst vs) ⟨vs, rfl, pd_datas' z⟩
      exact q.nx _ _ _ _ _ _ ((x.trans y).ex1 hn) r2 ((sr.ext (x.trans y)).set (ElR.oo (k := W'.length) (by rw [← r'.len]; simp)) i) hk
end
end L2
namespace L2
open PySem PySem.Spec PyProof.Rows
noncomputable def noComp : Expr → Bool
  | .ListComp _ _ _ _ => false
  | .SetComp _ _ _ _ => false
  | .DictComp _ _ _ _ _ => false
  | _ => true
noncomputable def noTup : Expr → Bool
  | .Tuple _ _ _ => false
  | _ => true
noncomputable def isNameE : Expr → Bool
  | .Name _ _ => true
  | _ => false
section
variable (B D : Str → Bool)
mutual
noncomputable def okG : MT → SE → Expr → Bool
  | .name i, E, e => match e with
    | .Name x _ => decide (E.N[i]? = some x) && locB E.sc x
    | _ => false
  | .tup ts, E, e => match e with
    | .Tuple es _ _ => okGs ts E es
    | _ => false
  | .sub o i, E, e => match e with
    | .Subscript oe ie _ => okE B D o E oe && okE B D i E ie
    | _ => false
noncomputable def okGs : MTs → SE → List Expr → Bool
  | .nil, _, es => es.isEmpty
  | .cons t ts, E, es => match es with
    | e :: es => okG t E e && okGs ts E es
    | [] => false
end
end
section
variable (B D Qx : Str → Bool)
mutual
noncomputable def okS : MS → SE → Stmt → Bool
  | .no, _, _ => true
  | .pass, _, s => match s with
    | .Pass _ => true
    | _ => false
  | .expr m, E, s => match s with
    | .Expr e _ => okE B D m E e && noComp e
    | _ => false
  | .set t m, E, s => match s with
    | .Assign [te] e _ => okG B D t E te && okE B D m E e && (isNameE te || noTup e)
    | _ => false
  | .aug i o m, E, s => match s with
    | .AugAssign (.Name x _) eo e _ => decide (E.N[i]? = some x) && locB E.sc x && decide (o = eo) && okE B D m E e
    | _ => false
  | .ret m, E, s => match s with
    | .Return (some e) _ => okE B D m E e
    | _ => false
  | .ifs c a b, E, s => match s with
    | .If ce ea eb _ => okE B D c E ce && okSs a E ea && okSs b E eb
    | _ => false
  | .for_ t it b, E, s => match s with
    | .For te ie eb [] _ => okG B D t E te && okI B D it E ie && okSs b E eb
    | _ => false
  | .enum t m b, E, s => match s with
    | .For (.Tuple ts c p) (.Call (.Name x _) [a] [] _) eb [] _ => decide (x = "enumerate") && glB E.sc x && B x && okG B D t E (.Tuple ts c p) && okE B D m E a && okSs b E eb
    | _ => false
  | .raise_ C es, E, s => match s with
    | .Raise (some (.Call (.Name x _) (v :: vs) [] _)) none _ => decide (x = C) && glB E.sc x && Qx x && okEs B D es E (v :: vs)
    | _ => false
noncomputable def okSs : MSs → SE → List Stmt → Bool
  | .nil, _, l => l.isEmpty
  | .cons s ss, E, l => match l with
    | st :: l => okS s E st && okSs ss E l
    | [] => false
end
end
section
variable {Φ : Str → Option Fn} {Γ : Str → Option PyData} {cA : Str → Option Addr} {B D Qx : Str → Bool} {n : Nat}
theorem okG_star {t : MT} {E : SE} {e : Expr} (h : okG B D t E e = true) (es : List Expr) (env : Env) : assignEach (e :: es) env = (false, assign e env) :: assignEach es env := by
  cases e <;> first | rfl | (exfalso; cases t <;> simp [okG] at h)
theorem okGs_len : ∀ {ts : MTs} {E : SE} {es : List Expr}, okGs B D ts E es = true → es.length = lenT ts
  | .nil, E, es, h => by
    cases es with
    | nil => rfl
    | cons _ _ => simp [okGs] at h
  | .cons t ts, E, es, h => by
    cases es with
    | nil => simp [okGs] at h
    | cons e es =>
      simp only [okGs, Bool.and_eq_true] at h
      simp [okGs_len h.2, lenT]
theorem sub_plain {o ie : Expr} {pos : Pos} (h : Plain ie) (env : Env) (v : Value) : assign (.Subscript o ie pos) env v = (do
      let ov ← holding [v] (eval o env)
      let iv ← holding [v, ov] (eval ie env)
      standAt pos
      holding [v, ov, iv] (setItem ov iv v)
      release [v, ov, iv] []) := by
  cases ie <;> first | rfl | exact h.elim
theorem okGs_each : ∀ {ts : MTs} {E : SE} {es : List Expr} (env : Env), okGs B D ts E es = true → (assignEach es env).length = es.length ∧ (assignEach es env).findIdx? (·.1) = none
  | .nil, E, es, env, h => by
    cases es with
    | nil => exact ⟨rfl, rfl⟩
    | cons _ _ => simp [okGs] at h
  | .cons t ts, E, es, env, h => by
    cases es with
    | nil => exact ⟨rfl, rfl⟩
    | cons e es =>
      simp only [okGs, Bool.and_eq_true] at h
      obtain ⟨a, b⟩ := okGs_each env h.2
      rw [okG_star h.1]
      exact ⟨by simp [a], by rw [List.findIdx?_cons]; simp [b]⟩
theorem evSet_ok {X : Bc} {o i v : El} {W W' : Wl} {k : Wl → Prop} (h : evSet o i v W = some W') (hk : k W') : SB X o i v W k := by
  unfold evSet at h
  split at h
  · split at h
    · rename_i es hj
      cases e : ixN es.length _ with
      | none => rw [e] at h; cases h
      | some m => rw [e] at h; cases h; exact sb_lst hj e hk
    · cases h
  · cases h
theorem evAug_ok {X : Bc} {o : Operator} {x y : El} {W : Wl} {k : KB} {q : Str → Wl → Prop} (h : (evAug o x y W).holds k q) : UB X o x y W k := by
  unfold evAug at h
  split at h
  · exact ub_add h
  · split at h
    · rename_i hj
      obtain ⟨a, h⟩ := Res.holds_when h
      exact ub_ext hj rfl a h
    · exact h.elim
  · exact h.elim
mutual
theorem evG_ok : ∀ (t : MT) {X : Bc} {E : SE} {e : Expr} {x : El} {S : Sl} {W : Wl} {k : Sl → Wl → Prop}, GloX Φ Γ cA B D Qx n X → CtxS n X E → okG B D t E e = true → (evG (evCall Φ Γ n) Γ t x S W).holds { nx := k, rt := fun _ _ => False } (XQs cA X) → BG X S W e x k
  | .name i, X, E, e, x, S, W, k, G, C, ho, h => by
    unfold okG at ho
    split at ho
    · simp only [Bool.and_eq_true, decide_eq_true_eq] at ho
      simp only [evG] at h
      exact bg_name (i := i) (by rw [C.N]; exact C.nd) (by rw [C.N]; exact ho.1) (C.loc _ ho.2) h (.inl (C.fn _))
    · cases ho
  | .tup ts, X, E, e, x, S, W, k, G, C, ho, h => by
    unfold okG at ho
    split at ho
    · rename_i es c p
      cases x with
      | d d =>
        cases d with
        | tuple ds =>
          simp only [evG] at h
          obtain ⟨a, b⟩ := okGs_each X.env ho
          by_cases hl : lenT ts = ds.length
          · rw [if_pos hl] at h
            exact bg_tupG C.calm (evGs_ok ts G C ho h) (by rw [a, okGs_len ho, hl]) b
          · rw [if_neg hl] at h; exact h.elim
        | _ => simp only [evG] at h; exact h.elim
      | _ => simp only [evG] at h; exact h.elim
    · cases ho
  | .sub o i, X, E, e, x, S, W, k, G, C, ho, h => by
    unfold okG at ho
    split at ho
    · simp only [Bool.and_eq_true] at ho
      simp only [evG] at h
      have hpi := okE_plain ho.2
      refine bg_sub (evE_ok o G C.toCtx ho.1 (Res.holds.mono (SRes.holds_st h) (fun x1 W1 z => ?_) fun _ _ z => z)) ?_
      · refine evE_ok i G C.toCtx ho.2 (Res.holds.mono (SRes.holds_st z) (fun y W2 z => ?_) fun _ _ z => z)
        cases e : evSet x1 y x W2 with
        | none => rw [e] at z; exact z.elim
        | some W3 => rw [e] at z; exact evSet_ok e z
      · exact sub_plain hpi X.env
    · cases ho
theorem evGs_ok : ∀ (ts : MTs) {X : Bc} {E : SE} {es : List Expr} {ds : List PyData} {S : Sl} {W : Wl} {k : Sl → Wl → Prop}, GloX Φ Γ cA B D Qx n X → CtxS n X E → okGs B D ts E es = true → (evGs (evCall Φ Γ n) Γ ts ds S W).holds { nx := k, rt := fun _ _ => False } (XQs cA X) → BGs X S W es (datas ds) k
  | .nil, X, E, es, ds, S, W, k, G, C, ho, h => by
    cases es with
    | cons _ _ => simp [okGs] at ho
    | nil =>
      cases ds with
      | nil => simp only [evGs] at h; exact bgs_nil h
      | cons _ _ => simp only [evGs] at h; exact h.elim
  | .cons t ts, X, E, es, ds, S, W, k, G, C, ho, h => by
    cases es with
    | nil => simp [okGs] at ho
    | cons e es =>
      cases ds with
      | nil => simp only [evGs] at h; exact h.elim
      | cons d ds =>
        simp only [okGs, Bool.and_eq_true] at ho
        simp only [evGs] at h
        exact bgs_cons (evG_ok t G C ho.1 (SRes.holds.mono (SRes.holds_bind h) (fun S' W' z => evGs_ok ts G C ho.2 z) (fun _ _ z => z) fun _ _ _ z => z)) (by rw [okG_star ho.1]; rfl)
end
mutual
theorem evG_rt {call : Str → List El → Wl → Res El} : ∀ (t : MT) {x : El} {S : Sl} {W : Wl} {e : El} {W' : Wl}, evG call Γ t x S W = .rt e W' → False
  | .name i, x, S, W, e, W', h => by simp only [evG] at h; cases h
  | .tup ts, x, S, W, e, W', h => by
    cases x with
    | d d =>
      cases d with
      | tuple ds =>
        simp only [evG] at h
        split at h
        · exact evGs_rt ts h
        · cases h
      | _ => simp only [evG] at h; cases h
    | _ => simp only [evG] at h; cases h
  | .sub o i, x, S, W, e, W', h => by
    simp only [evG] at h
    cases h1 : evE call Γ o S W with
    | ok a W1 =>
      rw [h1] at h
      simp only [Res.st_ok] at h
      cases h2 : evE call Γ i S W1 with
      | ok b W2 =>
        rw [h2] at h
        simp only [Res.st_ok] at h
        split at h <;> cases h
      | exc C W2 => rw [h2] at h; cases h
      | stuck => rw [h2] at h; cases h
    | exc C W1 => rw [h1] at h; cases h
    | stuck => rw [h1] at h; cases h
theorem evGs_rt {call : Str → List El → Wl → Res El} : ∀ (ts : MTs) {ds : List PyData} {S : Sl} {W : Wl} {e : El} {W' : Wl}, evGs call Γ ts ds S W = .rt e W' → False
  | .nil, ds, S, W, e, W', h => by cases ds <;> simp only [evGs] at h <;> cases h
  | .cons t ts, ds, S, W, e, W', h => by
    cases ds with
    | nil => simp only [evGs] at h; cases h
    | cons d ds =>
      simp only [evGs] at h
      cases h1 : evG call Γ t (.d d) S W with
      | nx S' W1 => rw [h1] at h; exact evGs_rt ts h
      | rt e' W1 => exact evG_rt t h1
      | exc C S' W1 => rw [h1] at h; cases h
      | stuck => rw [h1] at h; cases h
end
theorem evG_nx {call : Str → List El → Wl → Res El} {t : MT} {x : El} {S : Sl} {W : Wl} {Db : DB} {q : Str → Sl → Wl → Prop} (h : (evG call Γ t x S W).holds Db q) : (evG call Γ t x S W).holds { nx := Db.nx, rt := fun _ _ => False } q := by
  cases e : evG call Γ t x S W with
  | nx S' W' => rw [e] at h; exact h
  | rt y W' => exact (evG_rt t e).elim
  | exc C S' W' => rw [e] at h; exact h
  | stuck => rw [e] at h; exact h
end
end L2
namespace L2
open PySem PySem.Spec PyProof.Rows
section
variable {Φ : Str → Option Fn} {Γ : Str → Option PyData} {cA : Str → Option Addr} {B D Qx : Str → Bool} {n : Nat}
theorem swaps_no {e : Expr} (h : noComp e = true) (t : Option Expr) (l : Nat) (env : Env) : swapsWith e t l env = pure false := by
  cases e <;> first | rfl | (simp [noComp] at h)
theorem swaps_tg {te e : Expr} (h : isNameE te = false) (l : Nat) (env : Env) : swapsWithSole [te] e l env = pure false := by
  show swapsWith e (some te) l env = pure false
  cases e <;> first | rfl | (cases te <;> first | rfl | (simp [isNameE] at h))
theorem stores_no {te e : Expr} (h : noTup e = true) (env : Env) : swappedStores [te] e env = pure none := by
  cases e <;> first | (cases te <;> rfl) | (simp [noTup] at h)
theorem enum_get : ∀ {ds : List PyData} {i j : Nat} {d : PyData}, ds[i]? = some d → (enumD j ds)[i]? = some (.tuple [.int ((j + i : Nat) : Int), d])
  | [], i, j, d, h => by simp at h
  | x :: ds, 0, j, d, h => by simp at h; subst h; rfl
  | x :: ds, i + 1, j, d, h => by
    have := enum_get (i := i) (j := j + 1) (ds := ds) (by simpa using h)
    show (enumD (j + 1) ds)[i]? = _
    rw [this]
    congr 5
    omega
theorem enum_len : ∀ (ds : List PyData) (j : Nat), (enumD j ds).length = ds.length
  | [], _ => rfl
  | x :: ds, j => by show (enumD (j + 1) ds).length + 1 = _; rw [enum_len ds]; rfl
theorem drop_cons {α : Type} {l : List α} {i : Nat} {d : α} (h : l[i]? = some d) : l.drop i = d :: l.drop (i + 1) := by
  obtain ⟨hi, e⟩ := List.getElem?_eq_some_iff.mp h
  rw [List.drop_eq_getElem_cons hi, e]
/-- x = [.. for ..] or any other name's store -/
theorem evSetN {X : Bc} {E : SE} {i : Nat} {m : ME} {x : Str} {p' p : Pos} {e : Expr} {S : Sl} {W : Wl} {b : Nat} {Db : DB} (G : GloX Φ Γ cA B D Qx n X) (C : CtxS n X E) (h1 : E.N[i]? = some x) (h2 : locB E.sc x = true) (ho : okE B D m E e = true)
    (h : (evE (evCall Φ Γ n) Γ m S W).holds (fun y W1 => Db.nx (S.set i (some y)) W1) (XQ cA X S)) : BS X b S W (.Assign [.Name x p'] e p) Db := by
  have hN : X.N.Nodup := by rw [C.N]; exact C.nd
  have hi : X.N[i]? = some x := by rw [C.N]; exact h1
  by_cases hc : noComp e = true
  · exact bs_set hN hi (C.loc _ h2) (evE_ok m G C.toCtx ho h) (swaps_no hc _ _ _) (.inl (C.fn _))
  · cases m with
    | comp own O Fv cap tg it cond elt =>
      unfold okE at ho
      split at ho
      · rename_i ee et ei eifs scope pos
        have hsw : ∃ t, swapsWith (.ListComp ee [⟨et, ei, eifs, 0⟩] scope pos) (some (.Name x p')) p.line X.env = pure t := ⟨_, rfl⟩
        obtain ⟨t, hsw⟩ := hsw
        cases t with
        | false =>
          refine bs_set hN hi (C.loc _ h2) (evE_ok (.comp own O Fv cap tg it cond elt) G C.toCtx ?_ h) hsw (.inl (C.fn _))
          unfold okE
          exact ho
        | true =>
          simp only [Bool.and_eq_true] at ho
          obtain ⟨⟨⟨⟨g1, g2⟩, g3⟩, g4⟩, g5⟩ := ho
          obtain ⟨cs, nd⟩ := cmpB_ok C.cf g2
          rw [← C.N] at cs
          simp only [evE] at h
          cases own with
          | true =>
            refine bs_setcO hN hi (C.loc _ h2) C.calm cs ?_ hsw (plain_fold (okI_plain g1) _) (.inl (C.fn _))
            refine comp_main G C.toCtx nd g1 g3 g4 g5 (Res.holds.mono (Res.holds_bind h) (fun w W1 z => ?_) fun _ _ z => z)
            obtain ⟨a, z⟩ := Res.holds_when z
            exact ⟨a, Res.holds.mono (Res.holds_bind z) (fun ys W' z => z) fun _ _ z => z⟩
          | false =>
            refine bs_setc hN hi (C.loc _ h2) C.calm cs ?_ hsw (plain_fold (okI_plain g1) _) (.inl (C.fn _))
            refine comp_main G C.toCtx nd g1 g3 g4 g5 (Res.holds.mono (Res.holds_bind h) (fun w W1 z => ?_) fun _ _ z => z)
            obtain ⟨a, z⟩ := Res.holds_when z
            exact ⟨a, Res.holds.mono (Res.holds_bind z) (fun ys W' z => z) fun _ _ z => z⟩
      · cases ho
    | _ => exfalso; apply hc; cases e <;> first | rfl | (simp [okE] at ho)
mutual
theorem evS_ok : ∀ (s : MS) {X : Bc} {E : SE} {st : Stmt} {S : Sl} {W : Wl} {b : Nat} {Db : DB}, GloX Φ Γ cA B D Qx n X → CtxS n X E → okS B D Qx s E st = true → (evS (evCall Φ Γ n) Γ s S W).holds Db (XQs cA X) → BS X b S W st Db
  | .no, X, E, st, S, W, b, Db, G, C, ho, h => by simp only [evS] at h; exact h.elim
  | .pass, X, E, st, S, W, b, Db, G, C, ho, h => by
    unfold okS at ho
    split at ho
    · simp only [evS] at h; exact bs_pass h
    · cases ho
  | .expr m, X, E, st, S, W, b, Db, G, C, ho, h => by
    unfold okS at ho
    split at ho
    · simp only [Bool.and_eq_true] at ho
      simp only [evS] at h
      exact bs_expr (evE_ok m G C.toCtx ho.1 (Res.holds.mono (SRes.holds_st h) (fun x W1 z => z) fun _ _ z => z)) (swaps_no ho.2 _ _ _)
    · cases ho
  | .set t m, X, E, st, S, W, b, Db, G, C, ho, h => by
    unfold okS at ho
    split at ho
    · rename_i te e pos
      simp only [Bool.and_eq_true, Bool.or_eq_true] at ho
      obtain ⟨⟨h1, h2⟩, h3⟩ := ho
      simp only [evS] at h
      have h := SRes.holds_st h
      by_cases hn : isNameE te = true
      · cases te <;> simp [isNameE] at hn
        rename_i x p'
        cases t with
        | name i =>
          unfold okG at h1
          simp only [Bool.and_eq_true, decide_eq_true_eq] at h1
          simp only [evG] at h
          exact evSetN G C h1.1 h1.2 h2 h
        | tup _ => simp [okG] at h1
        | sub _ _ => simp [okG] at h1
      · have h3 := h3.resolve_left hn
        have hg : ∀ x W1, (evG (evCall Φ Γ n) Γ t x S W1).holds Db (XQs cA X) → BG X S W1 te x Db.nx := fun x W1 z => evG_ok t G C h1 (evG_nx z)
        exact bs_asg (evE_ok m G C.toCtx h2 (Res.holds.mono h (fun x W1 z => hg x W1 z) fun _ _ z => z)) (swaps_tg (by simpa using hn) _ _) (stores_no h3 _) (by rw [okG_star h1]; rfl)
    · cases ho
  | .aug i o m, X, E, st, S, W, b, Db, G, C, ho, h => by
    unfold okS at ho
    split at ho
    · simp only [Bool.and_eq_true, decide_eq_true_eq] at ho
      obtain ⟨⟨⟨h1, h2⟩, rfl⟩, h3⟩ := ho
      simp only [evS] at h
      split at h
      · rename_i a ha
        refine bs_aug (i := i) (by rw [C.N]; exact C.nd) (by rw [C.N]; exact h1) (C.loc _ h2) (slot_ok ha) (evE_ok m G C.toCtx h3 (Res.holds.mono (SRes.holds_st h) (fun x W1 z => ?_) fun _ _ z => z)) (.inl (C.fn _))
        exact evAug_ok (SRes.holds_st z)
      · exact h.elim
    · cases ho
  | .ret m, X, E, st, S, W, b, Db, G, C, ho, h => by
    unfold okS at ho
    split at ho
    · simp only [evS] at h
      exact bs_ret (evE_ok m G C.toCtx ho (Res.holds.mono (SRes.holds_st h) (fun x W1 z => z) fun _ _ z => z))
    · cases ho
  | .ifs c a b', X, E, st, S, W, b, Db, G, C, ho, h => by
    unfold okS at ho
    split at ho
    · simp only [Bool.and_eq_true] at ho
      obtain ⟨⟨h1, h2⟩, h3⟩ := ho
      simp only [evS] at h
      refine bs_if (evT_ok c G C.toCtx h1 (Res.holds.mono (SRes.holds_st h) (fun t W1 z => ?_) fun _ _ z => z))
      cases t with
      | true => rw [if_pos rfl] at z ⊢; exact evSs_ok a G C h2 z
      | false => rw [if_neg (by decide)] at z ⊢; exact evSs_ok b' G C h3 z
    · cases ho
  | .for_ t it bd, X, E, st, S, W, b, Db, G, C, ho, h => by
    unfold okS at ho
    split at ho
    · simp only [Bool.and_eq_true] at ho
      obtain ⟨⟨h1, h2⟩, h3⟩ := ho
      simp only [evS] at h
      refine bs_forV C.po C.calm (evI_ok it G C.toCtx h2 (Res.holds.mono (SRes.holds_st h) (fun w W1 z => ?_) fun _ _ z => z)) (plain_fold (okI_plain h2) _)
      refine ⟨fun i S' W' => (forL w.still (fun d S' W' => (evG (evCall Φ Γ n) Γ t (.d d) S' W').bind fun S2 W2 => evSs (evCall Φ Γ n) Γ bd S2 W2) (w.ds.drop i) S' W').holds Db (XQs cA X), z, fun i S' W' hi p => ?_, fun mb i d S' W' hd p => ?_, fun S' W' p => ?_⟩
      · unfold forL at p
        split at p <;> exact (SRes.holds_whenC p).1
      · dsimp only at p
        rw [drop_cons hd] at p
        unfold forL at p
        have p := SRes.holds_bind (SRes.holds_bind (SRes.holds_whenC p).2)
        refine evG_ok t G C h1 (SRes.holds.mono (evG_nx p) (fun S2 W2 z => ?_) (fun _ _ z => z) fun _ _ _ z => z)
        exact evSs_ok bd G C h3 (SRes.holds.mono z (fun _ _ z => z) (fun _ _ z => z) fun _ _ _ z => z)
      · dsimp only at p
        rw [List.drop_length] at p
        unfold forL at p
        exact (SRes.holds_whenC p).2
    · cases ho
  | .enum t m bd, X, E, st, S, W, b, Db, G, C, ho, h => by
    unfold okS at ho
    split at ho
    · simp only [Bool.and_eq_true, decide_eq_true_eq] at ho
      obtain ⟨⟨⟨⟨⟨rfl, h1⟩, h2⟩, h3⟩, h4⟩, h5⟩ := ho
      simp only [evS] at h
      refine bs_forEV C.po C.calm (C.gl _ h1) (G.bi _ h2) (ba_one (evE_ok m G C.toCtx h4 (Res.holds.mono (SRes.holds_st h) (fun x W1 z => ?_) fun _ _ z => z)) (by rw [star_plain (okE_plain h4)]; rfl)) (by rw [star_plain (okE_plain h4)]; rfl)
      split at z
      · rename_i ds
        refine ⟨ds, fun i S' W' => (forL (fun _ => True) (fun d S' W' => (evG (evCall Φ Γ n) Γ t (.d d) S' W').bind fun S2 W2 => evSs (evCall Φ Γ n) Γ bd S2 W2) ((enumD 0 ds).drop i) S' W').holds Db (XQs cA X), rfl, z, fun mb i d S' W' hd p => ?_, fun S' W' p => ?_⟩
        · have hd' := enum_get (j := 0) hd
          rw [Nat.zero_add] at hd'
          dsimp only at p
          rw [drop_cons hd'] at p
          unfold forL at p
          have p := SRes.holds_bind (SRes.holds_bind (SRes.holds_whenC p).2)
          refine evG_ok t G C h3 (SRes.holds.mono (evG_nx p) (fun S2 W2 z => ?_) (fun _ _ z => z) fun _ _ _ z => z)
          exact evSs_ok bd G C h5 (SRes.holds.mono z (fun _ _ z => z) (fun _ _ z => z) fun _ _ _ z => z)
        · dsimp only at p
          rw [show (enumD 0 ds).drop ds.length = [] by rw [← enum_len ds 0, List.drop_length]] at p
          unfold forL at p
          exact (SRes.holds_whenC p).2
      · exact z.elim
    · cases ho
  | .raise_ Cn es, X, E, st, S, W, b, Db, G, C, ho, h => by
    unfold okS at ho
    split at ho
    · simp only [Bool.and_eq_true, decide_eq_true_eq] at ho
      obtain ⟨⟨⟨rfl, h1⟩, h2⟩, h3⟩ := ho
      simp only [evS] at h
      obtain ⟨a, ha⟩ := G.qx _ h2
      obtain ⟨hm, hx⟩ := G.ex _ _ ha
      have hpl := okEs_plain h3
      refine bs_raise C.xo C.calm hx hm (evAs_ok es G C.toCtx h3 (Res.holds.mono (SRes.holds_st h) (fun xs W1 z => ?_) fun _ _ z => z)) (C.gl _ h1) (glB_dbg h1) (star_plain (hpl _ List.mem_cons_self) _ _) (star_any (fun e he => hpl e (List.mem_cons_of_mem _ he)) _ _)
      by_cases hl : xs.length ≤ sizeLine
      · rw [if_pos hl] at z
        obtain ⟨a', ha', z⟩ := z
        rw [ha] at ha'
        cases ha'
        exact ⟨hl, z⟩
      · rw [if_neg hl] at z; exact z.elim
    · cases ho
theorem evSs_ok : ∀ (ss : MSs) {X : Bc} {E : SE} {sts : List Stmt} {S : Sl} {W : Wl} {b : Nat} {Db : DB}, GloX Φ Γ cA B D Qx n X → CtxS n X E → okSs B D Qx ss E sts = true → (evSs (evCall Φ Γ n) Γ ss S W).holds Db (XQs cA X) → BSs X b S W sts Db
  | .nil, X, E, sts, S, W, b, Db, G, C, ho, h => by
    cases sts with
    | nil => simp only [evSs] at h; exact bs_nil h
    | cons _ _ => simp [okSs] at ho
  | .cons s ss, X, E, sts, S, W, b, Db, G, C, ho, h => by
    cases sts with
    | nil => simp [okSs] at ho
    | cons st sts =>
      simp only [okSs, Bool.and_eq_true] at ho
      simp only [evSs] at h
      exact bs_cons (evS_ok s G C ho.1 (SRes.holds.mono (SRes.holds_bind h) (fun S' W' z => evSs_ok ss G C ho.2 z) (fun _ _ z => z) fun _ _ _ z => z))
end
end
end L2
namespace L2
open PySem PySem.Spec PyProof.Rows
theorem El.below.mono {m n : Nat} (h : m ≤ n) : ∀ {e : El}, e.below m → e.below n
  | .d _, _ => trivial
  | .s _, _ => trivial
  | .x _, _ => trivial
  | .p _, _ => trivial
  | .o k, z => Nat.lt_of_lt_of_le z h
theorem OD.below.mono {m n : Nat} (h : m ≤ n) : ∀ {o : OD}, o.below m → o.below n
  | .lst _, z => fun e he => (z e he).mono h
  | .dK _, z => fun e he => (z e he).mono h
  | .dT _, z => fun e he => (z e he).mono h
theorem Stays.below {W W' : Wl} (h : Stays W W') (c : closed W) : ∀ o ∈ W'.take W.length, o.below W.length := fun o ho => by
  obtain ⟨i, hi⟩ := List.mem_iff_getElem?.mp ho
  have hl : i < W.length := by
    have := (List.getElem?_eq_some_iff.mp hi).1
    simp at this
    omega
  rw [List.getElem?_take_of_lt hl] at hi
  rcases h i hl with e | ⟨o', e, b⟩
  · rw [hi] at e
    exact c o (List.mem_of_getElem? e.symm)
  · rw [hi] at e
    cases e
    exact b.mono (Nat.zero_le _)
section
variable {K : PySem.W.Frag} {F F' : Hp} {A A' : List Addr} {W W' : Wl} {H H' : Hp}
theorem RW.addF (r : RW K F A W H) {a : Addr} {o : HO} (ha : a ∉ A) (hF : F a = none) (hH : H a = some o) : RW K (upd F a o) A W H ∧ Same F (upd F a o) := by
  have sF := upd_same' (o := o) hF
  have x : Ext F A (upd F a o) A := ⟨sF, List.prefix_refl _⟩
  refine ⟨⟨fun b u q => ?_, r.len, r.nd, fun b hb => ?_, fun k b u hk hu => ?_⟩, sF⟩
  · by_cases hb : b = a
    · subst hb; rw [upd_same] at q; cases q; exact hH
    · rw [upd_ne hb] at q; exact r.sub _ _ q
  · rw [upd_ne (fun z => ha (by rw [← z]; exact hb))]; exact r.out b hb
  · obtain ⟨h, e, q⟩ := r.obj k b u hk hu
    exact ⟨h, e, q.ext x⟩
/-- behind a def: what it made goes, a list that it tells is frozen -/
theorem Post.fin {k : KB} {Q : VK} {q : Str → Wl → Prop} {dr : Bool} (r : RW K F A W H) (p : Post K F A k Q) : Post K F A (fun e W' => (fin dr W e W').holds k q) Q := by
  intro F' A' W' H' e v x r' z h
  cases dr with
  | false => exact p F' A' W' H' e v x r' z h
  | true =>
    unfold L2.fin at h
    rw [if_pos rfl] at h
    obtain ⟨st, h⟩ := Res.holds_whenC h
    have bl := st.below r.closed
    have rd := r'.drop bl
    have hA : A <+: A'.take W.length := by
      obtain ⟨t, rfl⟩ := x.pre
      rw [List.take_append_of_le_length (by rw [r.len]; exact Nat.le_refl _), List.take_of_length_le (by rw [r.len]; exact Nat.le_refl _)]
      exact List.prefix_refl _
    have x' : Ext F A F' (A'.take W.length) := ⟨x.same, hA⟩
    cases e with
    | d d => exact p _ _ _ _ (.d d) _ x' rd (ElR.drop (e := .d d) trivial z) h
    | s ns => exact p _ _ _ _ (.s ns) _ x' rd (ElR.drop (e := .s ns) trivial z) h
    | x C => exact p _ _ _ _ (.x C) _ x' rd (ElR.drop (e := .x C) trivial z) h
    | p ks =>
      obtain ⟨b, rfl, hb⟩ := z
      exact p _ _ _ _ _ _ x' rd (.dd (Rq.tup (SqT.of hb) (Rqs.of keys_pd))) h
    | o m =>
      simp only at h
      by_cases hm : m < W.length
      · rw [if_pos hm] at h
        exact p _ _ _ _ (.o m) _ x' rd (ElR.drop (e := .o m) hm z) h
      · rw [if_neg hm] at h
        obtain ⟨ds, hd, h⟩ := Res.holds_opt h
        have hj : W'[m]? = some (.lst (datas ds)) := by
          rcases lst_of hd with y | ⟨j', y, hj⟩
          · cases y
          · cases y; exact hj
        obtain ⟨a, ha, rfl⟩ := z
        obtain ⟨u, e, vs, rfl, pd⟩ := r'.obj m a _ ha hj
        have hF : F' a = none := r'.out a (List.mem_of_getElem? ha)
        have hnot : a ∉ A'.take W.length := fun y => by
          obtain ⟨i, hi⟩ := List.mem_iff_getElem?.mp y
          have hl : i < W.length := by
            have := (List.getElem?_eq_some_iff.mp hi).1
            simp at this
            omega
          rw [List.getElem?_take_of_lt hl] at hi
          obtain ⟨l1, e1⟩ := List.getElem?_eq_some_iff.mp hi
          obtain ⟨l2, e2⟩ := List.getElem?_eq_some_iff.mp ha
          have := (List.getElem_inj r'.nd).mp (e1.trans e2.symm)
          omega
        obtain ⟨rf, sF⟩ := rd.addF hnot hF e
        exact p _ _ _ _ _ _ ⟨x.same.trans sF, hA⟩ rf (.dd (Rq.lst (.inl upd_same) (Rqs.of (pd_imp (fun _ _ t => Rq.same sF _ t) (pd_datas pd))))) h
end
section
variable {Φ : Str → Option Fn} {Γ : Str → Option PyData} {cA : Str → Option Addr} {B D Qx : Str → Bool} {P : Program} {w : World} {K : PySem.W.Frag} {mg : Str → Option Value} {base : Heap}
/-- a def of the text and its small term -/
structure Def1 (B D Qx : Str → Bool) (K : PySem.W.Frag) (mg : Str → Option Value) (f : Str) (fn : Fn) : Prop where
  ex : ∃ (a : Addr) (fd : FuncData) (st : Stmt) (N ps : List Str), Fun K f f st a fd ∧ Binds K fd ps [] ∧ mg f = some (.ref a) ∧ FnScope N ps (defScope st) ∧ fn.ar = ps.length ∧ fn.sz = N.length ∧ okSs B D Qx fn.body ⟨N, defScope st⟩ (defBody st) = true
noncomputable def R0 (Φ : Str → Option Fn) (Γ : Str → Option PyData) (cA : Str → Option Addr) (n : Nat) (fn : Fn) : RX := fun as W k y => as.length = fn.ar ∧ (evSs (evCall Φ Γ n) Γ fn.body (as.map some ++ List.replicate (fn.sz - as.length) none) W).holds { nx := fun _ W' => k (.d .none) W', rt := k } fun C _ W' => ∃ a, cA C = some a ∧ y a W'
theorem def_ok {n : Nat} {f : Str} {fn : Fn} {a : Addr} {fd : FuncData} {st : Stmt} {N ps : List Str} (G : Glo Φ Γ cA B D Qx n P w K mg base) (F : Fun K f f st a fd) (S : FnScope N ps (defScope st)) (har : fn.ar = ps.length) (hsz : fn.sz = N.length)
    (ho : okSs B D Qx fn.body ⟨N, defScope st⟩ (defBody st) = true) : FnOk P w K mg base (CXe P w) (n + 1) a fd ps (spX K (R0 Φ Γ cA n fn)) := by
  refine fn_X F S (fun es W k y h => h.1.trans har) fun X cdv A outer s H E xe F0 A0 es W k y hX hr hp xo hcl ⟨hl, h⟩ => ?_
  subst hX
  have C : CtxS n ⟨(cxOf (CXe P w) P w K mg base N f (defScope st) a cdv A outer s H E).wish xe, F0, A0, fun C _ W' => y C W'⟩ ⟨N, defScope st⟩ :=
    ⟨⟨rfl, fun x h => visB_look h, fun x h => glB_look h, fun x h => h, rfl, hr, xo⟩, S.nd, fun x h => by
      unfold locB at h
      show (defScope st).names.lookup x = some .local ∨ (defScope st).names.lookup x = some .cell
      revert h
      cases e : (defScope st).names.lookup x with
      | none => intro h; cases h
      | some k => cases k <;> intro h <;> simp at h ⊢, fun x => rfl, hp⟩
  have := evSs_ok (cA := cA) fn.body (b := W.length) G C ho h
  unfold startS
  rw [← hsz]
  exact this
theorem fnEnd_holds {dr : Bool} {W : Wl} {r : SRes} {k : KB} {y : Addr → Wl → Prop} (h : (fnEnd dr W r).holds k fun C W' => ∃ a, cA C = some a ∧ y a W') :
    r.holds { nx := fun _ W' => (fin dr W (.d .none) W').holds k (fun C W' => ∃ a, cA C = some a ∧ y a W'), rt := fun e W' => (fin dr W e W').holds k (fun C W' => ∃ a, cA C = some a ∧ y a W') } fun C _ W' => ∃ a, cA C = some a ∧ if dr then Stays W W' ∧ y a (W'.take W.length) else y a W' := by
  cases r with
  | nx S W' => exact h
  | rt e W' => exact h
  | exc C S W' =>
    unfold fnEnd at h
    cases dr with
    | false => obtain ⟨a, ha, z⟩ := h; exact ⟨a, ha, by simpa using z⟩
    | true =>
      simp only [if_true] at h
      obtain ⟨st, a, ha, z⟩ := Res.holds_whenC h
      exact ⟨a, ha, by simpa using ⟨st, z⟩⟩
  | stuck => exact h
theorem def_fin {n : Nat} {f : Str} {fn : Fn} {a : Addr} {fd : FuncData} {ps : List Str} (hf : Φ f = some fn) (F : FnOk P w K mg base (CXe P w) (n + 1) a fd ps (spX K (R0 Φ Γ cA n fn))) : FnOk P w K mg base (CXe P w) (n + 1) a fd ps (spX K (Rc Φ Γ cA (n + 1) f)) := by
  refine F.imp fun vs H Q E ⟨F0, A, W, es, k, y, r, p, h, q, qx⟩ => ?_
  unfold Rc at h
  rw [evCall, hf, Res.opt_some] at h
  obtain ⟨hl, h⟩ := Res.holds_when h
  refine ⟨F0, A, W, es, _, _, r, p, ⟨hl, fnEnd_holds h⟩, Post.fin r q, fun F' A' W' H' C x r' hx => ?_⟩
  cases hd : fn.drop with
  | false => rw [hd] at hx; exact qx F' A' W' H' C x r' (by simpa using hx)
  | true =>
    rw [hd] at hx
    simp only [if_true] at hx
    have hA : A <+: A'.take W.length := by
      obtain ⟨t, rfl⟩ := x.pre
      rw [List.take_append_of_le_length (by rw [r.len]; exact Nat.le_refl _), List.take_of_length_le (by rw [r.len]; exact Nat.le_refl _)]
      exact List.prefix_refl _
    exact qx F' _ _ H' C ⟨x.same, hA⟩ (r'.drop (hx.1.below r.closed)) hx.2
/-- THE THEOREM: every def tells what the evaluator tells -/
theorem all_ok (bi : ∀ x, B x = true → mg x = none) (df : ∀ x, D x = true → (Φ x).isSome = true) (gv : ∀ x d, Γ x = some d → ∃ v u, mg x = some u ∧ RelV v u ∧ ∀ F, Rq K F v d) (ex : ∀ x C, cA x = some C → mg x = some (.ref C) ∧ IsExc K C) (qx : ∀ x, Qx x = true → ∃ C, cA x = some C)
    (hd : ∀ f fn, Φ f = some fn → Def1 B D Qx K mg f fn) : ∀ n, Glo Φ Γ cA B D Qx n P w K mg base
  | 0 => ⟨bi, df, gv, fun f fn h => by
    obtain ⟨a, fd, st, N, ps, F, hb, hm, S, _⟩ := (hd f fn h).ex
    exact ⟨a, fd, ps, hm, F.kp, hb, ⟨fun vs H Q E ⟨_, _, _, _, _, _, _, _, z, _⟩ => z.elim, fun _ _ _ _ _ _ _ _ _ _ _ _ _ ⟨_, _, _, _, _, _, _, _, z, _⟩ => z.elim⟩⟩, ex, qx⟩
  | n + 1 => ⟨bi, df, gv, fun f fn h => by
    obtain ⟨a, fd, st, N, ps, F, hb, hm, S, har, hsz, ho⟩ := (hd f fn h).ex
    exact ⟨a, fd, ps, hm, F.kp, hb, def_fin h (def_ok (all_ok bi df gv ex qx hd n) F S har hsz ho)⟩, ex, qx⟩
end
end L2
namespace L2
open PySem
theorem slot_zero (a : Option El) (S : Sl) : slot (a :: S) 0 = a := rfl
theorem slot_succ (a : Option El) (S : Sl) (n : Nat) : slot (a :: S) (n + 1) = slot S n := by simp [slot]
theorem cast2 : ((2 : Nat) : Int) = 2 := rfl
theorem cast3 : ((3 : Nat) : Int) = 3 := rfl
theorem cast4 : ((4 : Nat) : Int) = 4 := rfl
theorem cast5 : ((5 : Nat) : Int) = 5 := rfl
theorem cast6 : ((6 : Nat) : Int) = 6 := rfl
theorem cast7 : ((7 : Nat) : Int) = 7 := rfl
theorem cast8 : ((8 : Nat) : Int) = 8 := rfl
theorem cast9 : ((9 : Nat) : Int) = 9 := rfl
theorem cast10 : ((10 : Nat) : Int) = 10 := rfl
theorem cast11 : ((11 : Nat) : Int) = 11 := rfl
theorem cast12 : ((12 : Nat) : Int) = 12 := rfl
theorem range_ok {j : Int} {W : Wl} (h1 : -(2 ^ 62) ≤ j) (h2 : j < 2 ^ 62) : evRange j W = .ok ⟨rangeD 0 j.toNat, none⟩ W := by
  unfold evRange
  exact Res.when_pos ⟨h1, h2⟩ _
theorem rep0 {α : Type} (a : α) : List.replicate 0 a = [] := rfl
theorem repN {α : Type} (a : α) (n : Nat) : List.replicate (n + 1) a = a :: List.replicate n a := rfl
theorem when_t {α : Type} (r : Res α) : Res.when True r = r := if_pos trivial
theorem compL_map {still : Wl → Prop} {step : PyData → Wl → Res (Option PyData)} {W : Wl} (hs : still W) (f : PyData → PyData) : ∀ (ds ys : List PyData), (∀ d ∈ ds, step d W = .ok (some (f d)) W) → compL still step ds ys W = .ok (ys ++ ds.map f) W
  | [], ys, _ => by unfold compL; rw [Res.whenC_pos hs]; simp
  | d :: ds, ys, h => by
    unfold compL
    rw [Res.whenC_pos hs, h d List.mem_cons_self]
    simp only
    rw [compL_map hs f ds _ fun e he => h e (List.mem_cons_of_mem _ he)]
    simp
theorem compL_filter {still : Wl → Prop} {step : PyData → Wl → Res (Option PyData)} {W : Wl} (hs : still W) (p : PyData → Bool) (f : PyData → PyData) : ∀ (ds ys : List PyData), (∀ d ∈ ds, step d W = .ok (if p d then some (f d) else none) W) → compL still step ds ys W = .ok (ys ++ (ds.filter p).map f) W
  | [], ys, _ => by unfold compL; rw [Res.whenC_pos hs]; simp
  | d :: ds, ys, h => by
    unfold compL
    rw [Res.whenC_pos hs, h d List.mem_cons_self]
    cases hp : p d with
    | true =>
      simp only [if_true]
      rw [compL_filter hs p f ds _ fun e he => h e (List.mem_cons_of_mem _ he)]
      simp [hp]
    | false =>
      simp only [Bool.false_eq_true, if_false]
      rw [compL_filter hs p f ds _ fun e he => h e (List.mem_cons_of_mem _ he)]
      simp [hp]
/-- a loop by its word -/
theorem forL_inv {still : Wl → Prop} {step : PyData → Sl → Wl → SRes} {ds : List PyData} {S : Sl} {W : Wl} (P : Nat → Sl → Wl → Prop) (R : SRes → Prop) (h0 : P 0 S W) (hst : ∀ i S' W', i ≤ ds.length → P i S' W' → still W')
    (hs : ∀ i d S' W', ds[i]? = some d → P i S' W' → (∃ S2 W2, step d S' W' = .nx S2 W2 ∧ P (i + 1) S2 W2) ∨ (∃ e W2, step d S' W' = .rt e W2 ∧ R (.rt e W2)))
    (he : ∀ S' W', P ds.length S' W' → R (.nx S' W')) : R (forL still step ds S W) := by
  have key : ∀ (k i : Nat) S' W', ds.length - i = k → i ≤ ds.length → P i S' W' → R (forL still step (ds.drop i) S' W') := by
    intro k
    induction k with
    | zero =>
      intro i S' W' hk hi hp
      have : i = ds.length := by omega
      subst this
      rw [List.drop_length]
      unfold forL
      rw [SRes.whenC_pos (hst _ _ _ (Nat.le_refl _) hp)]
      exact he _ _ hp
    | succ k ih =>
      intro i S' W' hk hi hp
      have hlt : i < ds.length := by omega
      rw [List.drop_eq_getElem_cons hlt]
      unfold forL
      rw [SRes.whenC_pos (hst _ _ _ hi hp)]
      rcases hs i ds[i] S' W' (by simp [hlt]) hp with ⟨S2, W2, e, hp2⟩ | ⟨e', W2, e, hr⟩
      · rw [e]
        exact ih (i + 1) S2 W2 (by omega) hlt hp2
      · rw [e]
        exact hr
  have := key ds.length 0 S W rfl (Nat.zero_le _) h0
  simpa using this
section
variable {call : Str → List El → Wl → Res El} {Γ : Str → Option PyData} {S : Sl} {W : Wl}
theorem g_name (i : Nat) (e : El) : evG call Γ (.name i) e S W = .nx (S.set i (some e)) W := rfl
theorem g_tup (ts : MTs) (ds : List PyData) : evG call Γ (.tup ts) (.d (.tuple ds)) S W = if lenT ts = ds.length then evGs call Γ ts ds S W else .stuck := rfl
theorem g_sub (o i : ME) (e : El) : evG call Γ (.sub o i) e S W = (evE call Γ o S W).st S fun x W1 => (evE call Γ i S W1).st S fun y W2 => match evSet x y e W2 with
    | some W3 => .nx S W3
    | none => .stuck := rfl
theorem gs_nil : evGs call Γ .nil [] S W = .nx S W := rfl
theorem gs_cons (t : MT) (ts : MTs) (d : PyData) (ds : List PyData) : evGs call Γ (.cons t ts) (d :: ds) S W = (evG call Γ t (.d d) S W).bind fun S' W' => evGs call Γ ts ds S' W' := rfl
theorem tc_name (i : Nat) (d : PyData) : evTc (.name i) d S = some (S.set i (some (.d d))) := rfl
theorem tc_tup (ts : MTs) (ds : List PyData) : evTc (.tup ts) (.tuple ds) S = evTcs ts ds S := rfl
theorem tcs_nil : evTcs .nil [] S = some S := rfl
theorem tcs_cons (i : Nat) (ts : MTs) (d : PyData) (ds : List PyData) : evTcs (.cons (.name i) ts) (d :: ds) S = evTcs ts ds (S.set i (some (.d d))) := rfl
theorem as_b (b : Bool) : asB (.d (.bool b)) W = .ok b W := rfl
theorem as_i (b : Int) : asI (.d (.int b)) W = .ok b W := rfl
theorem as_d (b : PyData) : asD (.d b) W = .ok b W := rfl
theorem l_lst (ds : List PyData) : lstOf W (.d (.list ds)) = some ds := rfl
theorem l_own {j : Nat} {ds : List PyData} (h : W[j]? = some (.lst (datas ds))) : lstOf W (.o j) = some ds := by
  simp only [lstOf, h, datasOf_datas]
theorem d_d (d : PyData) : datOf W (.d d) = some d := rfl
noncomputable def isT : PyData → TF → Bool
  | .int _, .int => true
  | .bool _, .int => true
  | .bool _, .bool => true
  | .str _, .str => true
  | .tuple _, .tuple => true
  | .list _, .list => true
  | .dict _, .dict => true
  | _, _ => false
theorem isD_isT (d : PyData) (T : TF) : isD d T.ty = isT d T := by cases d <;> cases T <;> rfl
theorem i_d (d : PyData) (T : TF) : isinst (.d d) W T = some (isT d T) := by rw [← isD_isT]; rfl
theorem o_add (i j : Int) : evOp .Add (.d (.int i)) (.d (.int j)) W = .ok (.d (.int (i + j))) W := rfl
theorem o_sub (i j : Int) : evOp .Sub (.d (.int i)) (.d (.int j)) W = .ok (.d (.int (i - j))) W := rfl
theorem o_mul (i j : Int) : evOp .Mult (.d (.int i)) (.d (.int j)) W = .when (bitsOf i + bitsOf j ≤ 100000000) (.ok (.d (.int (i * j))) W) := rfl
theorem o_mod (i j : Int) : evOp .Mod (.d (.int i)) (.d (.int j)) W = .when (0 < j) (.ok (.d (.int (i % j))) W) := rfl
theorem o_div (i j : Int) : evOp .FloorDiv (.d (.int i)) (.d (.int j)) W = .when (0 < j ∧ j < 1073741824) (.ok (.d (.int (i / j))) W) := rfl
theorem o_pow (i j : Int) : evOp .Pow (.d (.int i)) (.d (.int j)) W = .when (0 ≤ j ∧ j ≤ 1000000 ∧ i.natAbs < 2 ^ 64) (.ok (.d (.int (i ^ j.toNat))) W) := rfl
theorem o_cats (i j : Str) : evOp .Add (.d (.str i)) (.d (.str j)) W = .when (i.length + j.length ≤ sizeLine) (.ok (.d (.str (i ++ j))) W) := rfl
theorem o_catt (i j : List PyData) : evOp .Add (.d (.tuple i)) (.d (.tuple j)) W = .when (i.length + j.length ≤ sizeLine) (.ok (.d (.tuple (i ++ j))) W) := rfl
theorem o_catl (i j : List PyData) : evOp .Add (.d (.list i)) (.d (.list j)) W = .when (i.length + j.length ≤ sizeLine) (.ok (.d (.list (i ++ j))) W) := rfl
theorem o_reps (z : Str) (j : Int) : evOp .Mult (.d (.str z)) (.d (.int j)) W = .when (1 ≤ j ∧ j ≤ 1000 ∧ z.length ≤ 1000) (.ok (.d (.str (repT z j.toNat))) W) := rfl
theorem c_lt (i j : Int) : evCmp .Lt (.d (.int i)) (.d (.int j)) W = some (decide (i < j)) := rfl
theorem c_le (i j : Int) : evCmp .LtE (.d (.int i)) (.d (.int j)) W = some (decide (i ≤ j)) := rfl
theorem c_gt (i j : Int) : evCmp .Gt (.d (.int i)) (.d (.int j)) W = some (decide (j < i)) := rfl
theorem c_ge (i j : Int) : evCmp .GtE (.d (.int i)) (.d (.int j)) W = some (decide (j ≤ i)) := rfl
theorem c_eqI (i j : Int) : evCmp .Eq (.d (.int i)) (.d (.int j)) W = some (decide (i = j)) := rfl
theorem c_neI (i j : Int) : evCmp .NotEq (.d (.int i)) (.d (.int j)) W = some (!decide (i = j)) := rfl
theorem c_eqS (i j : Str) : evCmp .Eq (.d (.str i)) (.d (.str j)) W = some (decide (i = j)) := rfl
theorem c_neS (i j : Str) : evCmp .NotEq (.d (.str i)) (.d (.str j)) W = some (!decide (i = j)) := rfl
theorem c_eqB (i j : Bool) : evCmp .Eq (.d (.bool i)) (.d (.bool j)) W = some (decide (i = j)) := rfl
theorem c_neB (i j : Bool) : evCmp .NotEq (.d (.bool i)) (.d (.bool j)) W = some (!decide (i = j)) := rfl
theorem c_eqT {i j : List PyData} (h1 : datB (.tuple i) = true) (h2 : datB (.tuple j) = true) : evCmp .Eq (.d (.tuple i)) (.d (.tuple j)) W = some (PyData.eqv (.tuple i) (.tuple j)) := by
  simp only [evCmp, evEq, datOf, Option.bind_some, h1, h2, Bool.and_self, if_true]
theorem c_neT {i j : List PyData} (h1 : datB (.tuple i) = true) (h2 : datB (.tuple j) = true) : evCmp .NotEq (.d (.tuple i)) (.d (.tuple j)) W = some (!PyData.eqv (.tuple i) (.tuple j)) := by
  simp only [evCmp, evEq, datOf, Option.bind_some, h1, h2, Bool.and_self, if_true, Option.map_some]
theorem c_eqL {i j : List PyData} (h1 : datB (.list i) = true) (h2 : datB (.list j) = true) : evCmp .Eq (.d (.list i)) (.d (.list j)) W = some (PyData.eqv (.list i) (.list j)) := by
  simp only [evCmp, evEq, datOf, Option.bind_some, h1, h2, Bool.and_self, if_true]
theorem c_is (d : PyData) : evCmp .Is (.d d) (.d .none) W = some (isNone d) := rfl
theorem c_isn (d : PyData) : evCmp .IsNot (.d d) (.d .none) W = some (!isNone d) := rfl
theorem c_inS (i j : Str) : evCmp .In (.d (.str i)) (.d (.str j)) W = some (!(Builtin.Str.occurrences j i 0 j.length 1).isEmpty) := rfl
theorem c_ninT (i : Str) (ds : List PyData) : evCmp .NotIn (.d (.str i)) (.d (.tuple ds)) W = (strsD ds).map fun xs => !decide (i ∈ xs) := rfl
theorem x_lst (ds : List PyData) (i : Int) : evIx (.d (.list ds)) (.d (.int i)) W = .opt (atI ds i) fun d => .ok (.d d) W := rfl
theorem x_tup (ds : List PyData) (i : Int) : evIx (.d (.tuple ds)) (.d (.int i)) W = .opt (atI ds i) fun d => .ok (.d d) W := rfl
theorem x_str (z : Str) (i : Int) : evIx (.d (.str z)) (.d (.int i)) W = .when (z.length ≤ sizeLine) (.opt (atI z.cps.toList i) fun c => .ok (.d (.str ⟨#[c]⟩)) W) := rfl
theorem x_scr (ns : List Int) (i : Int) : evIx (.s ns) (.d (.int i)) W = .opt (atI ns i) fun n => .ok (.d (.int n)) W := rfl
theorem x_own {j : Nat} {es : List El} (h : W[j]? = some (.lst es)) (i : Int) : evIx (.o j) (.d (.int i)) W = .opt (atI es i) fun e => .ok e W := by simp only [evIx, h]
theorem x_dT {j : Nat} {kvs : List (List Key × El)} (h : W[j]? = some (.dT kvs)) (ts : List PyData) : evIx (.o j) (.d (.tuple ts)) W = .opt (strsD ts) fun xs => .opt (valE kvs (xs.map .inr)) fun e => .ok e W := by simp only [evIx, h]
theorem s_tup (ds : List PyData) (lo hi : Option Int) : evSl (.d (.tuple ds)) lo hi W = .ok (.d (.tuple (cutL ds lo hi))) W := rfl
theorem s_lst (ds : List PyData) (lo hi : Option Int) : evSl (.d (.list ds)) lo hi W = .ok (.d (.list (cutL ds lo hi))) W := rfl
theorem s_str (z : Str) (lo hi : Option Int) : evSl (.d (.str z)) lo hi W = .when (z.length ≤ sizeLine) (.ok (.d (.str (Txt.slice z lo hi))) W) := rfl
theorem s_scr (ns : List Int) (lo hi : Option Int) : evSl (.s ns) lo hi W = .ok (.d (.list ((cutL ns lo hi).map .int))) W := rfl
theorem s_own (j : Nat) (lo hi : Option Int) : evSl (.o j) lo hi W = .opt (lstOf W (.o j)) fun ds => .ok (.d (.list (cutL ds lo hi))) W := rfl
theorem b_lenS (x : Str) : evBi .len [.d (.str x)] W = .when (x.length ≤ sizeLine) (.ok (.d (.int x.length)) W) := rfl
theorem b_lenT (ds : List PyData) : evBi .len [.d (.tuple ds)] W = .ok (.d (.int ds.length)) W := rfl
theorem b_lenL (ds : List PyData) : evBi .len [.d (.list ds)] W = .ok (.d (.int ds.length)) W := rfl
theorem b_lenC (ns : List Int) : evBi .len [.s ns] W = .ok (.d (.int ns.length)) W := rfl
theorem b_lenO (j : Nat) : evBi .len [.o j] W = .opt (lstOf W (.o j)) fun ds => .ok (.d (.int ds.length)) W := rfl
theorem b_all (x : El) : evBi .all [x] W = .opt (lstOf W x) fun ds => .opt (boolsD ds) fun bs => .ok (.d (.bool (bs.all id))) W := rfl
theorem b_any (x : El) : evBi .any [x] W = .opt (lstOf W x) fun ds => .opt (boolsD ds) fun bs => .ok (.d (.bool (bs.any id))) W := rfl
theorem b_dm (i j : Int) : evBi .divmod [.d (.int i), .d (.int j)] W = .when (0 < j ∧ j < 1073741824) (.ok (.d (.tuple [.int (i / j), .int (i % j)])) W) := rfl
theorem b_max (i j : Int) : evBi .max [.d (.int i), .d (.int j)] W = .ok (.d (.int (if j > i then j else i))) W := rfl
theorem b_min (i j : Int) : evBi .min [.d (.int i), .d (.int j)] W = .ok (.d (.int (if j < i then j else i))) W := rfl
theorem b_abs (i : Int) : evBi .abs [.d (.int i)] W = .ok (.d (.int (if i < 0 then -i else i))) W := rfl
theorem b_tup (x : El) : evBi .tuple [x] W = .opt (lstOf W x) fun ds => .ok (.d (.tuple ds)) W := rfl
theorem b_int (b : Bool) : evBi .int [.d (.bool b)] W = .ok (.d (.int (if b then 1 else 0))) W := rfl
theorem t_app {j : Nat} {es : List El} (h : W[j]? = some (.lst es)) : isTyB W (.o j) .append = true := by simp only [isTyB, h]
theorem t_pop {j : Nat} {es : List El} (h : W[j]? = some (.lst es)) : isTyB W (.o j) .pop = true := by simp only [isTyB, h]
theorem t_rem {j : Nat} {es : List El} (h : W[j]? = some (.lst es)) : isTyB W (.o j) .remove = true := by simp only [isTyB, h]
theorem t_get {j : Nat} {es : List (List Key × El)} (h : W[j]? = some (.dT es)) : isTyB W (.o j) .get = true := by simp only [isTyB, h]
theorem t_sd {j : Nat} {es : List (List Key × El)} (h : W[j]? = some (.dT es)) : isTyB W (.o j) .setdefault = true := by simp only [isTyB, h]
theorem m_app {j : Nat} {es : List El} (h : W[j]? = some (.lst es)) (hl : es.length < sizeLine) (y : El) : evMeth .append (.o j) [y] W = .ok (.d .none) (W.set j (.lst (es ++ [y]))) := by simp only [evMeth, h, Res.when, hl, if_true]
theorem m_pop {j : Nat} {es : List El} {y : El} (h : W[j]? = some (.lst (y :: es))) : evMeth .pop (.o j) [.d (.int 0)] W = .ok y (W.set j (.lst es)) := by simp only [evMeth, h, Res.when, if_true]
theorem m_get {j : Nat} {kvs : List (List Key × El)} (h : W[j]? = some (.dT kvs)) (ts : List PyData) (y : El) : evMeth .get (.o j) [.d (.tuple ts), y] W = .opt (strsD ts) fun ks => .ok ((valE kvs (ks.map .inr)).getD y) W := by simp only [evMeth, h]
theorem m_sd1 {j : Nat} {kvs : List (List Key × El)} {ks : List Key} {e : El} (h : W[j]? = some (.dT kvs)) (he : valE kvs ks = some e) (y : El) : evMeth .setdefault (.o j) [.p ks, y] W = .ok e W := by simp only [evMeth, h, he]
theorem m_sd0 {j : Nat} {kvs : List (List Key × El)} {ks : List Key} (h : W[j]? = some (.dT kvs)) (he : valE kvs ks = none) (hl : kvs.length < sizeLine) (y : El) : evMeth .setdefault (.o j) [.p ks, y] W = .ok y (W.set j (.dT (kvs ++ [(ks, y)]))) := by simp only [evMeth, h, he, Res.when, hl, if_true]
theorem m_rem {j m : Nat} {ds : List PyData} {d : PyData} (h : W[j]? = some (.lst (datas ds))) (hc : PyData.canLayAll0 ds = true) (hd : datB d = true) (hl : ds.length ≤ sizeLine) (hm : (ds.findIdx? fun z => PyData.eqv z d) = some m) : evMeth .remove (.o j) [.d d] W = .ok (.d .none) (W.set j (.lst (datas (ds.eraseIdx m)))) := by
  simp only [evMeth, l_own h, Res.opt_some, Res.when, hc, hd, hl, hm, and_self, if_true]
theorem q_lst (ds : List PyData) : evSeq (.d (.list ds)) W = some ⟨ds, none⟩ := rfl
theorem q_tup (ds : List PyData) : evSeq (.d (.tuple ds)) W = some ⟨ds, none⟩ := rfl
theorem q_str (z : Str) : evSeq (.d (.str z)) W = some ⟨signsD z, none⟩ := rfl
theorem q_own {j : Nat} {ds : List PyData} (h : W[j]? = some (.lst (datas ds))) : evSeq (.o j) W = some ⟨ds, some j⟩ := by simp only [evSeq, l_own h, Option.map_some]
theorem st_none (ds : List PyData) : Walk.still ⟨ds, none⟩ = fun _ => True := rfl
theorem st_own (ds : List PyData) (j : Nat) : Walk.still ⟨ds, some j⟩ = fun W => W[j]? = some (.lst (datas ds)) := rfl
theorem tr_b (b : Bool) : truth W (.d (.bool b)) = some b := rfl
theorem tr_l (ds : List PyData) : truth W (.d (.list ds)) = some (!ds.isEmpty) := rfl
theorem tr_t (ds : List PyData) : truth W (.d (.tuple ds)) = some (!ds.isEmpty) := rfl
theorem set_own {j : Nat} {es : List El} (h : W[j]? = some (.lst es)) (i : Int) (v : El) : evSet (.o j) (.d (.int i)) v W = (ixN es.length i).map fun m => W.set j (.lst (es.set m v)) := by simp only [evSet, h]
end
end L2
namespace L2
open PySem
/-- the evaluator's steps, all at once -/
theorem evN : type_of% (And.intro (And.intro (And.intro (And.intro (And.intro (And.intro (And.intro @fnEnd_rt (And.intro @fnEnd_nx @fin_keep)) (And.intro @fin_d (And.intro @fin_d_app @Res.opt_some))) (And.intro (And.intro @Res.opt_none (And.intro @Res.bind_ok @Res.bind_exc)) (And.intro (And.intro @Res.bind_stuck @Res.st_ok) (And.intro @Res.st_exc @Res.st_stuck)))) (And.intro (And.intro (And.intro @SRes.bind_nx (And.intro @SRes.bind_rt @SRes.bind_exc)) (And.intro (And.intro @SRes.bind_stuck @evSs.eq_1) (And.intro @evSs.eq_2 @evS.eq_1))) (And.intro (And.intro @evS.eq_2 (And.intro @evS.eq_3 @evS.eq_4)) (And.intro (And.intro @evS.eq_5 @evS.eq_6) (And.intro @evS.eq_7 @evS.eq_8))))) (And.intro (And.intro (And.intro (And.intro @evS.eq_9 (And.intro @evS.eq_10 @evE.eq_1)) (And.intro @evE.eq_2 (And.intro @evE.eq_3 @evE.eq_4))) (And.intro (And.intro @evE.eq_5 (And.intro @evE.eq_6 @evE.eq_7)) (And.intro (And.intro @evE.eq_8 @evE.eq_9) (And.intro @evE.eq_10 @evE.eq_11)))) (And.intro (And.intro (And.intro @evE.eq_12 (And.intro @evE.eq_13 @evE.eq_14)) (And.intro (And.intro @evE.eq_15 @evE.eq_16) (And.intro @evE.eq_17 @evE.eq_18))) (And.intro (And.intro @evE.eq_19 (And.intro @evE.eq_20 @evE.eq_21)) (And.intro (And.intro @evE.eq_22 @evT.eq_1) (And.intro @evT.eq_2 @evT.eq_3)))))) (And.intro (And.intro (And.intro (And.intro (And.intro @evT.eq_4 (And.intro @evT.eq_5 @evT.eq_6)) (And.intro @evT.eq_7 (And.intro @evT.eq_8 @evT.eq_9))) (And.intro (And.intro @evT.eq_10 (And.intro @evT.eq_11 @evAs.eq_1)) (And.intro (And.intro @evAs.eq_2 @evAnd.eq_1) (And.intro @evAnd.eq_2 @evAnd.eq_3)))) (And.intro (And.intro (And.intro @evOr.eq_1 (And.intro @evOr.eq_2 @evOr.eq_3)) (And.intro (And.intro @evAndT.eq_1 @evAndT.eq_2) (And.intro @evAndT.eq_3 @evOrT.eq_1))) (And.intro (And.intro @evOrT.eq_2 (And.intro @evOrT.eq_3 @evO.eq_1)) (And.intro (And.intro @evO.eq_2 @evI.eq_1) (And.intro @evI.eq_2 @evCond.eq_1))))) (And.intro (And.intro (And.intro (And.intro @evCond.eq_2 (And.intro @evCond.eq_3 @g_name)) (And.intro (And.intro @g_tup @g_sub) (And.intro @gs_nil @gs_cons))) (And.intro (And.intro @tc_name (And.intro @tc_tup @tcs_nil)) (And.intro (And.intro @tcs_cons @as_b) (And.intro @as_i @as_d)))) (And.intro (And.intro (And.intro @l_lst (And.intro @d_d @i_d)) (And.intro (And.intro @o_add @o_sub) (And.intro @o_mul @o_mod))) (And.intro (And.intro @o_div (And.intro @o_pow @o_cats)) (And.intro (And.intro @o_catt @o_catl) (And.intro @o_reps @c_lt))))))) (And.intro (And.intro (And.intro (And.intro (And.intro (And.intro @c_le (And.intro @c_gt @c_ge)) (And.intro @c_eqI (And.intro @c_neI @c_eqS))) (And.intro (And.intro @c_neS (And.intro @c_eqB @c_neB)) (And.intro (And.intro @c_is @c_isn) (And.intro @c_inS @c_ninT)))) (And.intro (And.intro (And.intro @x_lst (And.intro @x_tup @x_str)) (And.intro (And.intro @x_scr @s_tup) (And.intro @s_lst @s_str))) (And.intro (And.intro @s_scr (And.intro @s_own @b_lenS)) (And.intro (And.intro @b_lenT @b_lenL) (And.intro @b_lenC @b_lenO))))) (And.intro (And.intro (And.intro (And.intro @b_all (And.intro @b_any @b_dm)) (And.intro (And.intro @b_max @b_min) (And.intro @b_abs @b_tup))) (And.intro (And.intro @b_int (And.intro @q_lst @q_tup)) (And.intro (And.intro @q_str @tr_b) (And.intro @tr_l @tr_t)))) (And.intro (And.intro (And.intro @lenT.eq_1 (And.intro @lenT.eq_2 @slot_zero)) (And.intro (And.intro @slot_succ @List.map_cons.{0,0}) (And.intro @List.map_nil.{0,0} @List.length_cons.{0}))) (And.intro (And.intro @List.length_nil.{0} (And.intro @List.set_cons_zero.{0} @List.set_cons_succ.{0})) (And.intro (And.intro @List.cons_append.{0} @List.nil_append.{0}) (And.intro @if_true.{1} @Bool.false_eq_true)))))) (And.intro (And.intro (And.intro (And.intro (And.intro @if_false.{1} (And.intro @Bool.not_true @Bool.not_false)) (And.intro @rep0 (And.intro @repN @when_t))) (And.intro (And.intro @Option.map_some.{0,0} (And.intro @Option.bind_some.{0,0} @Res.whenC_true)) (And.intro (And.intro @SRes.whenC_true @datasOf.eq_1) (And.intro @datasOf.eq_2 @datasOf.eq_3)))) (And.intro (And.intro (And.intro @strsD.eq_1 (And.intro @strsD.eq_2 @strsD.eq_3)) (And.intro (And.intro @and_self @and_true) (And.intro @true_and @cast2))) (And.intro (And.intro @cast3 (And.intro @cast4 @cast5)) (And.intro (And.intro @cast6 @cast7) (And.intro @cast8 @cast9))))) (And.intro (And.intro (And.intro (And.intro @cast10 (And.intro @cast11 @cast12)) (And.intro (And.intro @decide_true @decide_false) (And.intro @Nat.succ_ne_zero @Nat.one_ne_zero))) (And.intro (And.intro @isT.eq_1 (And.intro @isT.eq_2 @isT.eq_3)) (And.intro (And.intro @isT.eq_4 @isT.eq_5) (And.intro @isT.eq_6 @isT.eq_7)))) (And.intro (And.intro (And.intro @isT.eq_8 (And.intro @beq_self_eq_true.{0} @Bool.true_or)) (And.intro (And.intro @Bool.or_true @Bool.and_true) (And.intro @Bool.true_and @Bool.and_false))) (And.intro (And.intro @Bool.false_and (And.intro @Bool.or_false @Bool.false_or)) (And.intro (And.intro @isNone.eq_1 @isNone.eq_2) (And.intro @Int.natCast_one @Int.natCast_zero)))))))) :=
  (And.intro (And.intro (And.intro (And.intro (And.intro (And.intro (And.intro @fnEnd_rt (And.intro @fnEnd_nx @fin_keep)) (And.intro @fin_d (And.intro @fin_d_app @Res.opt_some))) (And.intro (And.intro @Res.opt_none (And.intro @Res.bind_ok @Res.bind_exc)) (And.intro (And.intro @Res.bind_stuck @Res.st_ok) (And.intro @Res.st_exc @Res.st_stuck)))) (And.intro (And.intro (And.intro @SRes.bind_nx (And.intro @SRes.bind_rt @SRes.bind_exc)) (And.intro (And.intro @SRes.bind_stuck @evSs.eq_1) (And.intro @evSs.eq_2 @evS.eq_1))) (And.intro (And.intro @evS.eq_2 (And.intro @evS.eq_3 @evS.eq_4)) (And.intro (And.intro @evS.eq_5 @evS.eq_6) (And.intro @evS.eq_7 @evS.eq_8))))) (And.intro (And.intro (And.intro (And.intro @evS.eq_9 (And.intro @evS.eq_10 @evE.eq_1)) (And.intro @evE.eq_2 (And.intro @evE.eq_3 @evE.eq_4))) (And.intro (And.intro @evE.eq_5 (And.intro @evE.eq_6 @evE.eq_7)) (And.intro (And.intro @evE.eq_8 @evE.eq_9) (And.intro @evE.eq_10 @evE.eq_11)))) (And.intro (And.intro (And.intro @evE.eq_12 (And.intro @evE.eq_13 @evE.eq_14)) (And.intro (And.intro @evE.eq_15 @evE.eq_16) (And.intro @evE.eq_17 @evE.eq_18))) (And.intro (And.intro @evE.eq_19 (And.intro @evE.eq_20 @evE.eq_21)) (And.intro (And.intro @evE.eq_22 @evT.eq_1) (And.intro @evT.eq_2 @evT.eq_3)))))) (And.intro (And.intro (And.intro (And.intro (And.intro @evT.eq_4 (And.intro @evT.eq_5 @evT.eq_6)) (And.intro @evT.eq_7 (And.intro @evT.eq_8 @evT.eq_9))) (And.intro (And.intro @evT.eq_10 (And.intro @evT.eq_11 @evAs.eq_1)) (And.intro (And.intro @evAs.eq_2 @evAnd.eq_1) (And.intro @evAnd.eq_2 @evAnd.eq_3)))) (And.intro (And.intro (And.intro @evOr.eq_1 (And.intro @evOr.eq_2 @evOr.eq_3)) (And.intro (And.intro @evAndT.eq_1 @evAndT.eq_2) (And.intro @evAndT.eq_3 @evOrT.eq_1))) (And.intro (And.intro @evOrT.eq_2 (And.intro @evOrT.eq_3 @evO.eq_1)) (And.intro (And.intro @evO.eq_2 @evI.eq_1) (And.intro @evI.eq_2 @evCond.eq_1))))) (And.intro (And.intro (And.intro (And.intro @evCond.eq_2 (And.intro @evCond.eq_3 @g_name)) (And.intro (And.intro @g_tup @g_sub) (And.intro @gs_nil @gs_cons))) (And.intro (And.intro @tc_name (And.intro @tc_tup @tcs_nil)) (And.intro (And.intro @tcs_cons @as_b) (And.intro @as_i @as_d)))) (And.intro (And.intro (And.intro @l_lst (And.intro @d_d @i_d)) (And.intro (And.intro @o_add @o_sub) (And.intro @o_mul @o_mod))) (And.intro (And.intro @o_div (And.intro @o_pow @o_cats)) (And.intro (And.intro @o_catt @o_catl) (And.intro @o_reps @c_lt))))))) (And.intro (And.intro (And.intro (And.intro (And.intro (And.intro @c_le (And.intro @c_gt @c_ge)) (And.intro @c_eqI (And.intro @c_neI @c_eqS))) (And.intro (And.intro @c_neS (And.intro @c_eqB @c_neB)) (And.intro (And.intro @c_is @c_isn) (And.intro @c_inS @c_ninT)))) (And.intro (And.intro (And.intro @x_lst (And.intro @x_tup @x_str)) (And.intro (And.intro @x_scr @s_tup) (And.intro @s_lst @s_str))) (And.intro (And.intro @s_scr (And.intro @s_own @b_lenS)) (And.intro (And.intro @b_lenT @b_lenL) (And.intro @b_lenC @b_lenO))))) (And.intro (And.intro (And.intro (And.intro @b_all (And.intro @b_any @b_dm)) (And.intro (And.intro @b_max @b_min) (And.intro @b_abs @b_tup))) (And.intro (And.intro @b_int (And.intro @q_lst @q_tup)) (And.intro (And.intro @q_str @tr_b) (And.intro @tr_l @tr_t)))) (And.intro (And.intro (And.intro @lenT.eq_1 (And.intro @lenT.eq_2 @slot_zero)) (And.intro (And.intro @slot_succ @List.map_cons.{0,0}) (And.intro @List.map_nil.{0,0} @List.length_cons.{0}))) (And.intro (And.intro @List.length_nil.{0} (And.intro @List.set_cons_zero.{0} @List.set_cons_succ.{0})) (And.intro (And.intro @List.cons_append.{0} @List.nil_append.{0}) (And.intro @if_true.{1} @Bool.false_eq_true)))))) (And.intro (And.intro (And.intro (And.intro (And.intro @if_false.{1} (And.intro @Bool.not_true @Bool.not_false)) (And.intro @rep0 (And.intro @repN @when_t))) (And.intro (And.intro @Option.map_some.{0,0} (And.intro @Option.bind_some.{0,0} @Res.whenC_true)) (And.intro (And.intro @SRes.whenC_true @datasOf.eq_1) (And.intro @datasOf.eq_2 @datasOf.eq_3)))) (And.intro (And.intro (And.intro @strsD.eq_1 (And.intro @strsD.eq_2 @strsD.eq_3)) (And.intro (And.intro @and_self @and_true) (And.intro @true_and @cast2))) (And.intro (And.intro @cast3 (And.intro @cast4 @cast5)) (And.intro (And.intro @cast6 @cast7) (And.intro @cast8 @cast9))))) (And.intro (And.intro (And.intro (And.intro @cast10 (And.intro @cast11 @cast12)) (And.intro (And.intro @decide_true @decide_false) (And.intro @Nat.succ_ne_zero @Nat.one_ne_zero))) (And.intro (And.intro @isT.eq_1 (And.intro @isT.eq_2 @isT.eq_3)) (And.intro (And.intro @isT.eq_4 @isT.eq_5) (And.intro @isT.eq_6 @isT.eq_7)))) (And.intro (And.intro (And.intro @isT.eq_8 (And.intro @beq_self_eq_true.{0} @Bool.true_or)) (And.intro (And.intro @Bool.or_true @Bool.and_true) (And.intro @Bool.true_and @Bool.and_false))) (And.intro (And.intro @Bool.false_and (And.intro @Bool.or_false @Bool.false_or)) (And.intro (And.intro @isNone.eq_1 @isNone.eq_2) (And.intro @Int.natCast_one @Int.natCast_zero))))))))
end L2
namespace K1
open PySem L2
noncomputable def f_is_whole : Fn := ⟨1, 1, (.cons (.ret (.and (.cons (.isi (.v 0) .int) (.cons (.not (.isi (.v 0) .bool)) .nil))))
  .nil), true⟩
noncomputable def f_is_name : Fn := ⟨1, 1, (.cons (.ifs (.or (.cons (.not (.isi (.v 0) .str)) (.cons (.not (.chain .LtE .LtE (.c (.int 1)) (.bi .len (.cons (.v 0) .nil)) (.g "LONGEST_NAME"))) .nil))) (.cons (.ret (.c (.bool false)))
  .nil) .nil)
  (.cons (.ret (.bi .all (.cons (.comp false ["sign"] [] [] (.name 0) (.seq (.v 0)) .nil (.cmp .In (.v 0) (.g "LETTERS"))) .nil)))
  .nil)), true⟩
noncomputable def f_is_deed : Fn := ⟨1, 5, (.cons (.ifs (.or (.cons (.not (.isi (.v 0) .tuple)) (.cons (.cmp .NotEq (.bi .len (.cons (.v 0) .nil)) (.c (.int 4))) .nil))) (.cons (.ret (.c (.bool false)))
  .nil) .nil)
  (.cons (.set (.tup (.cons (.name 1) (.cons (.name 2) (.cons (.name 3) (.cons (.name 4) .nil))))) (.v 0))
  (.cons (.ifs (.or (.cons (.not (.isi (.v 1) .str)) (.cons (.cmp .NotIn (.v 1) (.g "KINDS")) .nil))) (.cons (.ret (.c (.bool false)))
  .nil) .nil)
  (.cons (.ret (.and (.cons (.call "is_name" (.cons (.v 2) .nil)) (.cons (.call "is_name" (.cons (.v 3) .nil)) (.cons (.call "is_name" (.cons (.v 4) .nil)) (.cons (.cmp .NotEq (.v 2) (.v 3)) .nil))))))
  .nil)))), true⟩
noncomputable def f_can_be_done : Fn := ⟨2, 6, (.cons (.set (.tup (.cons (.name 2) (.cons (.name 3) (.cons (.name 4) (.cons (.name 5) .nil))))) (.v 1))
  (.cons (.ret (.or (.cons (.cmp .Eq (.v 2) (.c (.str "send"))) (.cons (.cmp .Eq (.sl (.meth .get (.v 0) (.cons (.tup (.cons (.v 3) (.cons (.v 4) .nil))) (.cons (.lst false .nil) .nil))) .no (.some (.c (.int 1)))) (.lst false (.cons (.v 5) .nil))) .nil))))
  .nil)), true⟩
noncomputable def f_do_deed : Fn := ⟨2, 7, (.cons (.set (.tup (.cons (.name 2) (.cons (.name 3) (.cons (.name 4) (.cons (.name 5) .nil))))) (.v 1))
  (.cons (.set (.name 6) (.meth .setdefault (.v 0) (.cons (.key (.cons (.v 3) (.cons (.v 4) .nil))) (.cons (.lst true .nil) .nil))))
  (.cons (.ifs (.cmp .Eq (.v 2) (.c (.str "send"))) (.cons (.expr (.meth .append (.v 6) (.cons (.v 5) .nil)))
  .nil) (.cons (.expr (.meth .pop (.v 6) (.cons (.c (.int 0)) .nil)))
  .nil))
  .nil))), false⟩
noncomputable def f_lines_behind : Fn := ⟨1, 4, (.cons (.ifs (.not (.isi (.v 0) .tuple)) (.cons .no
  .nil) .nil)
  (.cons (.set (.name 1) (.dic 2))
  (.cons (.enum (.tup (.cons (.name 2) (.cons (.name 3) .nil))) (.v 0) (.cons (.ifs (.or (.cons (.not (.call "is_deed" (.cons (.v 3) .nil))) (.cons (.not (.call "can_be_done" (.cons (.v 1) (.cons (.v 3) .nil)))) .nil))) (.cons .no
  .nil) .nil)
  (.cons (.expr (.call "do_deed" (.cons (.v 1) (.cons (.v 3) .nil))))
  .nil)))
  (.cons (.ret (.v 1))
  .nil)))), false⟩
noncomputable def f_is_rooms : Fn := ⟨1, 1, (.cons (.ret (.or (.cons (.cmp .Is (.v 0) (.c .none)) (.cons (.and (.cons (.call "is_whole" (.cons (.v 0) .nil)) (.cons (.chain .LtE .LtE (.c (.int 1)) (.v 0) (.g "MOST_ROOMS")) .nil))) .nil))))
  .nil), true⟩
noncomputable def f_check_rooms : Fn := ⟨1, 1, (.cons (.ifs (.not (.call "is_rooms" (.cons (.v 0) .nil))) (.cons .no
  .nil) .nil)
  .nil), true⟩
noncomputable def f_keeps : Fn := ⟨2, 4, (.cons (.expr (.call "lines_behind" (.cons (.v 0) .nil)))
  (.cons (.expr (.call "check_rooms" (.cons (.v 1) .nil)))
  (.cons (.set (.name 2) (.dic 2))
  (.cons (.for_ (.name 3) (.seq (.v 0)) (.cons (.expr (.call "do_deed" (.cons (.v 2) (.cons (.v 3) .nil))))
  (.cons (.ifs (.and (.cons (.cmp .IsNot (.v 1) (.c .none)) (.cons (.cmp .Gt (.bi .len (.cons (.ix (.v 2) (.sl (.v 3) (.some (.c (.int 1))) (.some (.c (.int 3))))) .nil)) (.v 1)) .nil))) (.cons (.ret (.c (.bool false)))
  .nil) .nil)
  .nil)))
  (.cons (.ret (.c (.bool true)))
  .nil))))), true⟩
noncomputable def f_law_mixed : Fn := ⟨1, 1, (.cons (.ret (.op .Mod (.op .Mult (.v 0) (.c (.int 577350269189625764509148780501957455647601751270126876018603))) (.op .Pow (.c (.int 10)) (.c (.int 60)))))
  .nil), true⟩
noncomputable def f_law_pack : Fn := ⟨2, 2, (.cons (.ifs (.cmp .Lt (.v 1) (.bi .len (.cons (.v 0) .nil))) (.cons (.ret (.lst true (.cons (.call "_law_mixed" (.cons (.op .Add (.ix (.v 0) (.v 1)) (.op .Mult (.c (.int 17)) (.v 1))) .nil)) .nil)))
  .nil) .nil)
  (.cons (.ret (.lst true (.cons (.call "_law_mixed" (.cons (.op .Add (.op .Mult (.c (.int 6089)) (.v 1)) (.c (.int 5))) .nil)) .nil)))
  .nil)), false⟩
noncomputable def f_law_take : Fn := ⟨2, 3, (.cons (.set (.tup (.cons (.sub (.v 0) (.c (.int 0))) (.cons (.name 2) .nil))) (.bi .divmod (.cons (.ix (.v 0) (.c (.int 0))) (.cons (.v 1) .nil))))
  (.cons (.ret (.v 2))
  .nil)), true⟩
noncomputable def f_law_hands : Fn := ⟨1, 6, (.cons (.set (.name 1) (.c (.str "abcdefghijklmnopqrstuvwxyz")))
  (.cons (.set (.name 2) (.call "_law_take" (.cons (.v 0) (.cons (.c (.int 26)) .nil))))
  (.cons (.set (.name 1) (.op .Add (.sl (.v 1) (.some (.v 2)) .no) (.sl (.v 1) .no (.some (.v 2)))))
  (.cons (.set (.name 3) (.call "_law_take" (.cons (.v 0) (.cons (.c (.int 3)) .nil))))
  (.cons (.set (.name 4) (.call "_law_take" (.cons (.v 0) (.cons (.c (.int 8)) .nil))))
  (.cons (.set (.name 5) (.op .Add (.c (.int 2)) (.call "_law_take" (.cons (.v 0) (.cons (.c (.int 3)) .nil)))))
  (.cons (.ifs (.cmp .Eq (.v 3) (.c (.int 0))) (.cons (.ret (.comp false ["_law_k"] ["_law_letters", "_law_size"] [1, 4] (.name 0) (.range (.v 5)) .nil (.op .Mult (.ix (.v 1) (.c (.int 0))) (.op .Add (.c (.int 1)) (.op .Mod (.op .Add (.v 2) (.v 0)) (.c (.int 8)))))))
  .nil) .nil)
  (.cons (.ifs (.cmp .Eq (.v 3) (.c (.int 1))) (.cons (.ret (.comp false ["_law_k"] ["_law_letters", "_law_size"] [1, 4] (.name 0) (.range (.v 5)) .nil (.op .Add (.ix (.v 1) (.v 0)) (.sl (.v 1) (.some (.c (.int 4))) (.some (.op .Add (.c (.int 4)) (.v 2)))))))
  .nil) .nil)
  (.cons (.ret (.comp false ["_law_k"] ["_law_letters", "_law_size"] [1, 4] (.name 0) (.range (.v 5)) .nil (.op .Add (.sl (.v 1) (.some (.c (.int 4))) (.some (.op .Add (.c (.int 4)) (.v 2)))) (.ix (.v 1) (.v 0)))))
  .nil))))))))), true⟩
noncomputable def f_law_firsts : Fn := ⟨1, 3, (.cons (.set (.name 1) (.lst true .nil))
  (.cons (.for_ (.name 2) (.seq (.v 0)) (.cons (.ifs (.bi .all (.cons (.comp false ["_law_other"] ["_law_letter"] [2] (.name 0) (.seq (.v 1)) .nil (.cmp .NotEq (.sl (.v 1) .no (.some (.c (.int 2)))) (.sl (.v 0) .no (.some (.c (.int 2)))))) .nil)) (.cons (.expr (.meth .append (.v 1) (.cons (.v 2) .nil)))
  .nil) .nil)
  .nil))
  (.cons (.ret (.v 1))
  .nil))), true⟩
noncomputable def f_law_story : Fn := ⟨3, 13, (.cons (.set (.name 3) (.lst false (.cons (.c (.str "x")) (.cons (.c (.str "yes")) (.cons (.c (.str "no")) (.cons (.c (.str "go")) (.cons (.c (.str "xy")) (.cons (.c (.str "abcdefgh")) .nil))))))))
  (.cons (.set (.name 4) (.call "_law_take" (.cons (.v 0) (.cons (.op .Add (.v 2) (.c (.int 1))) .nil))))
  (.cons (.set (.name 5) (.lst true .nil))
  (.cons (.set (.name 6) (.lst true .nil))
  (.cons (.set (.name 7) (.c (.int 0)))
  (.cons (.for_ (.name 8) (.range (.op .Mult (.c (.int 2)) (.v 4))) (.cons (.set (.name 9) (.call "_law_firsts" (.cons (.v 6) .nil)))
  (.cons (.ifs (.and (.cons (.cmp .Lt (.v 7) (.v 4)) (.cons (.or (.cons (.cmp .Eq (.v 9) (.lst false .nil)) (.cons (.cmp .Eq (.call "_law_take" (.cons (.v 0) (.cons (.c (.int 2)) .nil))) (.c (.int 0))) .nil))) .nil))) (.cons (.set (.name 10) (.call "_law_take" (.cons (.v 0) (.cons (.bi .len (.cons (.v 1) .nil)) .nil))))
  (.cons (.set (.name 11) (.op .Mod (.op .Add (.op .Add (.v 10) (.c (.int 1))) (.call "_law_take" (.cons (.v 0) (.cons (.op .Sub (.bi .len (.cons (.v 1) .nil)) (.c (.int 1))) .nil)))) (.bi .len (.cons (.v 1) .nil))))
  (.cons (.set (.name 12) (.tup (.cons (.ix (.v 1) (.v 10)) (.cons (.ix (.v 1) (.v 11)) (.cons (.ix (.v 3) (.call "_law_take" (.cons (.v 0) (.cons (.c (.int 6)) .nil)))) .nil)))))
  (.cons (.expr (.meth .append (.v 5) (.cons (.op .Add (.tup (.cons (.c (.str "send")) .nil)) (.v 12)) .nil)))
  (.cons (.expr (.meth .append (.v 6) (.cons (.v 12) .nil)))
  (.cons (.set (.name 7) (.op .Add (.v 7) (.c (.int 1))))
  .nil)))))) (.cons (.set (.name 12) (.ix (.v 9) (.call "_law_take" (.cons (.v 0) (.cons (.bi .len (.cons (.v 9) .nil)) .nil)))))
  (.cons (.expr (.meth .append (.v 5) (.cons (.op .Add (.tup (.cons (.c (.str "take")) .nil)) (.v 12)) .nil)))
  (.cons (.expr (.meth .remove (.v 6) (.cons (.v 12) .nil)))
  .nil))))
  .nil)))
  (.cons (.ret (.bi .tuple (.cons (.v 5) .nil)))
  .nil))))))), true⟩
noncomputable def f_law_most_under_way : Fn := ⟨1, 6, (.cons (.set (.name 1) (.c (.int 0)))
  (.cons (.for_ (.name 2) (.range (.bi .len (.cons (.v 0) .nil))) (.cons (.set (.name 3) (.sl (.ix (.v 0) (.v 2)) (.some (.c (.int 1))) (.some (.c (.int 3)))))
  (.cons (.set (.name 4) (.bi .len (.cons (.comp false ["_law_deed"] ["_law_pair"] [3] (.name 0) (.seq (.sl (.v 0) .no (.some (.op .Add (.v 2) (.c (.int 1)))))) (.cons (.and (.cons (.cmp .Eq (.ix (.v 0) (.c (.int 0))) (.c (.str "send"))) (.cons (.cmp .Eq (.sl (.v 0) (.some (.c (.int 1))) (.some (.c (.int 3)))) (.v 1)) .nil))) .nil) (.v 0)) .nil)))
  (.cons (.set (.name 5) (.bi .len (.cons (.comp false ["_law_deed"] ["_law_pair"] [3] (.name 0) (.seq (.sl (.v 0) .no (.some (.op .Add (.v 2) (.c (.int 1)))))) (.cons (.and (.cons (.cmp .Eq (.ix (.v 0) (.c (.int 0))) (.c (.str "take"))) (.cons (.cmp .Eq (.sl (.v 0) (.some (.c (.int 1))) (.some (.c (.int 3)))) (.v 1)) .nil))) .nil) (.v 0)) .nil)))
  (.cons (.set (.name 1) (.bi .max (.cons (.v 1) (.cons (.op .Sub (.v 4) (.v 5)) .nil))))
  .nil)))))
  (.cons (.ret (.v 1))
  .nil))), true⟩
noncomputable def f_law_right : Fn := ⟨1, 4, (.cons (.set (.name 1) (.call "_law_most_under_way" (.cons (.v 0) .nil)))
  (.cons (.for_ (.name 2) (.seq (.lst false (.cons (.c (.int 1)) (.cons (.c (.int 2)) (.cons (.c (.int 3)) (.cons (.c (.int 4)) (.cons (.c (.int 5)) (.cons (.c (.int 6)) (.cons (.c (.int 7)) (.cons (.c (.int 40)) (.cons (.c (.int 1)) .nil))))))))))) (.cons (.set (.name 3) (.call "keeps" (.cons (.v 0) (.cons (.v 2) .nil))))
  (.cons (.ifs (.or (.cons (.not (.isi (.v 3) .bool)) (.cons (.cmp .NotEq (.v 3) (.cmp .LtE (.v 1) (.v 2))) .nil))) (.cons (.ret (.c (.bool false)))
  .nil) .nil)
  .nil)))
  (.cons (.ret (.c (.bool true)))
  .nil))), true⟩
noncomputable def f_law : Fn := ⟨1, 5, (.cons (.for_ (.name 1) (.range (.bi .max (.cons (.c (.int 1)) (.cons (.bi .min (.cons (.c (.int 12)) (.cons (.bi .len (.cons (.v 0) .nil)) .nil))) .nil)))) (.cons (.set (.name 2) (.call "_law_pack" (.cons (.v 0) (.cons (.v 1) .nil))))
  (.cons (.set (.name 3) (.call "_law_story" (.cons (.v 2) (.cons (.call "_law_hands" (.cons (.v 2) .nil)) (.cons (.c (.int 6)) .nil)))))
  (.cons (.set (.name 4) (.sl (.v 3) .no (.some (.call "_law_take" (.cons (.v 2) (.cons (.op .Add (.bi .len (.cons (.v 3) .nil)) (.c (.int 1))) .nil))))))
  (.cons (.ifs (.or (.cons (.not (.call "_law_right" (.cons (.v 3) .nil))) (.cons (.not (.call "_law_right" (.cons (.v 4) .nil))) .nil))) (.cons (.ret (.c (.bool false)))
  .nil) .nil)
  .nil)))))
  (.cons (.ret (.c (.bool true)))
  .nil)), true⟩
end K1
namespace K1
open PySem L2
noncomputable def Φn (x : Str) : Option Fn := if x = "is_whole" then some f_is_whole else if x = "is_name" then some f_is_name else if x = "is_deed" then some f_is_deed else if x = "can_be_done" then some f_can_be_done else if x = "do_deed" then some f_do_deed else if x = "lines_behind" then some f_lines_behind else if x = "is_rooms" then some f_is_rooms else if x = "check_rooms" then some f_check_rooms else if x = "keeps" then some f_keeps else if x = "_law_mixed" then some f_law_mixed else if x = "_law_pack" then some f_law_pack else if x = "_law_take" then some f_law_take else if x = "_law_hands" then some f_law_hands else if x = "_law_firsts" then some f_law_firsts else if x = "_law_story" then some f_law_story else if x = "_law_most_under_way" then some f_law_most_under_way else if x = "_law_right" then some f_law_right else if x = "law" then some f_law else none
noncomputable def Γn (x : Str) : Option PyData := if x = "KINDS" then some (.tuple [.str "send", .str "take"]) else if x = "LETTERS" then some (.str "abcdefghijklmnopqrstuvwxyz") else if x = "LONGEST_NAME" then some (.int 8) else if x = "MOST_ROOMS" then some (.int 40) else none
theorem Φ_is_whole : Φn "is_whole" = some f_is_whole := rfl
theorem Φ_is_name : Φn "is_name" = some f_is_name := rfl
theorem Φ_is_deed : Φn "is_deed" = some f_is_deed := rfl
theorem Φ_can_be_done : Φn "can_be_done" = some f_can_be_done := rfl
theorem Φ_do_deed : Φn "do_deed" = some f_do_deed := rfl
theorem Φ_lines_behind : Φn "lines_behind" = some f_lines_behind := rfl
theorem Φ_is_rooms : Φn "is_rooms" = some f_is_rooms := rfl
theorem Φ_check_rooms : Φn "check_rooms" = some f_check_rooms := rfl
theorem Φ_keeps : Φn "keeps" = some f_keeps := rfl
theorem Φ_law_mixed : Φn "_law_mixed" = some f_law_mixed := rfl
theorem Φ_law_pack : Φn "_law_pack" = some f_law_pack := rfl
theorem Φ_law_take : Φn "_law_take" = some f_law_take := rfl
theorem Φ_law_hands : Φn "_law_hands" = some f_law_hands := rfl
theorem Φ_law_firsts : Φn "_law_firsts" = some f_law_firsts := rfl
theorem Φ_law_story : Φn "_law_story" = some f_law_story := rfl
theorem Φ_law_most_under_way : Φn "_law_most_under_way" = some f_law_most_under_way := rfl
theorem Φ_law_right : Φn "_law_right" = some f_law_right := rfl
theorem Φ_law : Φn "law" = some f_law := rfl
theorem Γ_KINDS : Γn "KINDS" = some (.tuple [.str "send", .str "take"]) := rfl
theorem Γ_LETTERS : Γn "LETTERS" = some (.str "abcdefghijklmnopqrstuvwxyz") := rfl
theorem Γ_LONGEST_NAME : Γn "LONGEST_NAME" = some (.int 8) := rfl
theorem Γ_MOST_ROOMS : Γn "MOST_ROOMS" = some (.int 40) := rfl
end K1
namespace K1
open PySem L2
structure Ln where
  x : Str
  y : Str
  j : Nat
  ws : List Str
noncomputable abbrev Ln.key (e : Ln) : List Key := [.inr e.x, .inr e.y]
noncomputable def findL (L : List Ln) (x y : Str) : Option Ln := L.find? fun e => decide (e.key = [.inr x, .inr y])
/-- the words under way from x to y -/
noncomputable def wordsL (L : List Ln) (x y : Str) : List Str := ((findL L x y).map (·.ws)).getD []
structure LinesAt (W : Wl) (q : Nat) (L : List Ln) : Prop where
  at_ : W[q]? = some (.dT (L.map fun e => (e.key, El.o e.j)))
  obj : ∀ e ∈ L, W[e.j]? = some (.lst (datas (e.ws.map .str)))
  nd : (L.map (·.j)).Nodup
  nq : ∀ e ∈ L, e.j ≠ q
theorem val_find (L : List Ln) (x y : Str) : valE (L.map fun e => (e.key, El.o e.j)) [.inr x, .inr y] = (findL L x y).map fun e => El.o e.j := by
  unfold valE findL
  rw [List.find?_map, Option.map_map]
  rfl
theorem find_mem {L : List Ln} {x y : Str} {e : Ln} (h : findL L x y = some e) : e ∈ L ∧ e.x = x ∧ e.y = y := by
  have h1 := List.mem_of_find?_eq_some h
  have h2 := List.find?_some h
  simp at h2
  exact ⟨h1, h2.1, h2.2⟩
/-- at most m lines of at most m words each, all names -/
structure SmallL (m : Nat) (L : List Ln) : Prop where
  len : L.length ≤ m
  ws : ∀ e ∈ L, e.ws.length ≤ m ∧ ∀ z ∈ e.ws, isNm z = true
theorem SmallL.sok {m : Nat} {L : List Ln} (h : SmallL m L) : ∀ e ∈ L, ∀ z ∈ e.ws, PyData.strOk z = true := fun e he z hz => nm_strOk ((h.ws e he).2 z hz)
noncomputable def nextW (d : Deed) (ws : List Str) : List Str := if d.tk then ws.tail else ws ++ [d.w]
/-- the lines behind a deed -/
structure Step (L : List Ln) (d : Deed) (L' : List Ln) : Prop where
  here : (findL L' d.x d.y).map (·.ws) = some (nextW d (wordsL L d.x d.y))
  else_ : ∀ x y, ¬ (x = d.x ∧ y = d.y) → (findL L' x y).map (·.ws) = (findL L x y).map (·.ws)
/-- what is no line stays -/
noncomputable def Frame (W : Wl) (q : Nat) (L : List Ln) (W' : Wl) : Prop := W.length ≤ W'.length ∧ ∀ i, i < W.length → i ≠ q → (∀ e ∈ L, e.j ≠ i) → W'[i]? = W[i]?
noncomputable def putL (L : List Ln) (x y : Str) (ws : List Str) : List Ln := L.map fun e => if e.key = [.inr x, .inr y] then { e with ws := ws } else e
theorem find_put (L : List Ln) (x y : Str) (ws : List Str) (x' y' : Str) : findL (putL L x y ws) x' y' = (findL L x' y').map fun e => if e.key = [.inr x, .inr y] then { e with ws := ws } else e := by
  unfold findL putL
  rw [List.find?_map]
  congr 1
  apply congrArg (fun p => List.find? p L)
  funext e
  simp only [Function.comp]
  split <;> rfl
theorem find_snoc {L : List Ln} {n : Ln} {x y : Str} (h : findL L x y = none) : findL (L ++ [n]) x y = if n.key = [.inr x, .inr y] then some n else none := by
  unfold findL at *
  rw [List.find?_append, h]
  simp [List.find?_cons]
  split <;> simp_all
theorem find_snoc' {L : List Ln} {n : Ln} {x y : Str} (h : ¬ n.key = [.inr x, .inr y]) : findL (L ++ [n]) x y = findL L x y := by
  unfold findL
  rw [List.find?_append, show List.find? (fun e : Ln => decide (e.key = [.inr x, .inr y])) [n] = none by rw [List.find?_cons]; simp only [decide_eq_false h]; rfl]
  simp
theorem put_keys (L : List Ln) (x y : Str) (ws : List Str) : (putL L x y ws).map (fun e => (e.key, El.o e.j)) = L.map fun e => (e.key, El.o e.j) := by
  unfold putL
  rw [List.map_map]
  apply List.map_congr_left
  intro e he
  simp only [Function.comp]
  split <;> rfl
theorem put_js (L : List Ln) (x y : Str) (ws : List Str) : (putL L x y ws).map (·.j) = L.map (·.j) := by
  unfold putL
  rw [List.map_map]
  apply List.map_congr_left
  intro e he
  simp only [Function.comp]
  split <;> rfl
theorem j_inj {L : List Ln} (nd : (L.map (·.j)).Nodup) {a b : Ln} (ha : a ∈ L) (hb : b ∈ L) (h : a.j = b.j) : a = b := by
  induction L with
  | nil => simp at ha
  | cons c L ih =>
    rw [List.map_cons, List.nodup_cons] at nd
    have no : ∀ z ∈ L, c.j ≠ z.j := fun z hz e => nd.1 (List.mem_map.mpr ⟨z, hz, e.symm⟩)
    rcases List.mem_cons.mp ha with ea | ha'
    · rcases List.mem_cons.mp hb with eb | hb'
      · rw [ea, eb]
      · rw [ea] at h
        exact absurd h (no b hb')
    · rcases List.mem_cons.mp hb with eb | hb'
      · rw [eb] at h
        exact absurd h.symm (no a ha')
      · exact ih nd.2 ha' hb'
/-- a line is there: its words change -/
theorem LinesAt.put {W : Wl} {q : Nat} {L : List Ln} (h : LinesAt W q L) {e : Ln} {x y : Str} (he : findL L x y = some e) (ws : List Str) (V : Wl) (uniq : ∀ a ∈ L, a.key = [.inr x, .inr y] → a = e) :
    LinesAt ((W ++ V).set e.j (.lst (datas (ws.map .str)))) q (putL L x y ws) ∧ Frame W q L ((W ++ V).set e.j (.lst (datas (ws.map .str)))) := by
  obtain ⟨hm, hx, hy⟩ := find_mem he
  have hq : q < W.length := (List.getElem?_eq_some_iff.mp h.at_).1
  have hj : e.j < W.length := (List.getElem?_eq_some_iff.mp (h.obj e hm)).1
  have old : ∀ {i : Nat} {o : OD}, W[i]? = some o → i ≠ e.j → ((W ++ V).set e.j (.lst (datas (ws.map .str))))[i]? = some o := fun {i o} ho hi => by
    have hl : i < W.length := (List.getElem?_eq_some_iff.mp ho).1
    rw [List.getElem?_set_ne (Ne.symm hi), List.getElem?_append_left hl]
    exact ho
  refine ⟨⟨?_, fun a ha => ?_, by rw [put_js]; exact h.nd, fun a ha => ?_⟩, by simp, fun i hi iq hL => ?_⟩
  · rw [put_keys]
    exact old h.at_ (Ne.symm (h.nq e hm))
  · obtain ⟨b, hb, rfl⟩ := List.mem_map.mp ha
    by_cases hk : b.key = [.inr x, .inr y]
    · rw [if_pos hk, uniq b hb hk]
      show ((W ++ V).set e.j _)[e.j]? = _
      rw [List.getElem?_set_self (by rw [List.length_append]; omega)]
    · rw [if_neg hk]
      refine old (h.obj b hb) fun z => hk ?_
      rw [j_inj h.nd hb hm z, ← hx, ← hy]
  · obtain ⟨b, hb, rfl⟩ := List.mem_map.mp ha
    have := h.nq b hb
    split <;> exact this
  · rw [List.getElem?_set_ne (hL e hm), List.getElem?_append_left hi]
/-- a new line -/
noncomputable def newW (W : Wl) (q : Nat) (L : List Ln) (x y : Str) (ws : List Str) : Wl := ((W ++ [OD.lst []]).set q (OD.dT (L.map (fun e : Ln => (e.key, El.o e.j)) ++ [([.inr x, .inr y], .o W.length)]))).set W.length (OD.lst (datas (ws.map .str)))
theorem LinesAt.new {W : Wl} {q : Nat} {L : List Ln} (h : LinesAt W q L) (x y : Str) (ws : List Str) : LinesAt (newW W q L x y ws) q (L ++ [⟨x, y, W.length, ws⟩]) ∧ Frame W q L (newW W q L x y ws) := by
  unfold newW
  have hq : q < W.length := (List.getElem?_eq_some_iff.mp h.at_).1
  have hj : ∀ e ∈ L, e.j < W.length := fun e he => (List.getElem?_eq_some_iff.mp (h.obj e he)).1
  refine ⟨⟨?_, fun a ha => ?_, ?_, fun a ha => ?_⟩, by simp, fun i hi iq hL => ?_⟩
  · rw [List.getElem?_set_ne (by omega), List.getElem?_set_self (by simp; omega), List.map_append]
    rfl
  · rcases List.mem_append.mp ha with ha | ha
    · rw [List.getElem?_set_ne (Nat.ne_of_gt (hj a ha)), List.getElem?_set_ne (Ne.symm (h.nq a ha)), List.getElem?_append_left (hj a ha)]
      exact h.obj a ha
    · cases List.mem_singleton.mp ha
      show (List.set _ W.length _)[W.length]? = _
      rw [List.getElem?_set_self (by simp)]
  · rw [List.map_append]
    exact nd_last h.nd fun z => by
      obtain ⟨e, he, z⟩ := List.mem_map.mp z
      have := hj e he
      simp at z
      omega
  · rcases List.mem_append.mp ha with ha | ha
    · exact h.nq a ha
    · cases List.mem_singleton.mp ha
      show W.length ≠ q
      omega
  · rw [List.getElem?_set_ne (by omega), List.getElem?_set_ne (Ne.symm iq), List.getElem?_append_left hi]
/-- the lists of the lines: old ones, new ones -/
noncomputable def NewJ (n : Nat) (L L' : List Ln) : Prop := ∀ e ∈ L', (∃ e0 ∈ L, e0.j = e.j) ∨ n ≤ e.j
theorem NewJ.put (n : Nat) (L : List Ln) (x y : Str) (ws : List Str) : NewJ n L (putL L x y ws) := fun a ha => by
  obtain ⟨b, hb, rfl⟩ := List.mem_map.mp ha
  refine .inl ⟨b, hb, ?_⟩
  split <;> rfl
theorem NewJ.new {n : Nat} {L : List Ln} {e : Ln} (h : n ≤ e.j) : NewJ n L (L ++ [e]) := fun a ha => by
  rcases List.mem_append.mp ha with ha | ha
  · exact .inl ⟨a, ha, rfl⟩
  · cases List.mem_singleton.mp ha
    exact .inr h
noncomputable def KeysND (L : List Ln) : Prop := (L.map Ln.key).Nodup
theorem KeysND.uniq {L : List Ln} (h : KeysND L) {e : Ln} {x y : Str} (he : findL L x y = some e) : ∀ a ∈ L, a.key = [.inr x, .inr y] → a = e := by
  obtain ⟨hm, hx, hy⟩ := find_mem he
  have hk : e.key = [.inr x, .inr y] := by rw [← hx, ← hy]
  unfold KeysND at h
  clear he
  induction L with
  | nil => simp at hm
  | cons c L ih =>
    rw [List.map_cons, List.nodup_cons] at h
    have no : ∀ z ∈ L, c.key ≠ z.key := fun z hz e => h.1 (List.mem_map.mpr ⟨z, hz, e.symm⟩)
    intro a ha hak
    rcases List.mem_cons.mp ha with ea | ha'
    · rcases List.mem_cons.mp hm with eb | hb'
      · rw [ea, eb]
      · exact absurd (by rw [← ea, hak, hk]) (no e hb')
    · rcases List.mem_cons.mp hm with eb | hb'
      · exact absurd (by rw [← eb, hak, hk]) (no a ha')
      · exact ih h.2 hb' a ha' hak
theorem KeysND.put {L : List Ln} (h : KeysND L) (x y : Str) (ws : List Str) : KeysND (putL L x y ws) := by
  unfold KeysND putL at *
  rw [List.map_map, show (Ln.key ∘ fun e : Ln => if e.key = [.inr x, .inr y] then { e with ws := ws } else e) = Ln.key by funext e; simp only [Function.comp]; split <;> rfl]
  exact h
theorem find_none {L : List Ln} {x y : Str} (h : findL L x y = none) : ([.inr x, .inr y] : List Key) ∉ L.map Ln.key := fun z => by
  obtain ⟨e, he, hk⟩ := List.mem_map.mp z
  have := List.find?_eq_none.mp h e he
  exact this (by simpa using hk)
theorem KeysND.new {L : List Ln} (h : KeysND L) {x y : Str} (hn : findL L x y = none) (j : Nat) (ws : List Str) : KeysND (L ++ [⟨x, y, j, ws⟩]) := by
  unfold KeysND at *
  rw [List.map_append]
  exact nd_last h (find_none hn)
theorem SmallL.put {m : Nat} {L : List Ln} (h : SmallL m L) (x y : Str) {ws : List Str} (h1 : ws.length ≤ m + 1) (h2 : ∀ z ∈ ws, isNm z = true) : SmallL (m + 1) (putL L x y ws) := ⟨by unfold putL; rw [List.length_map]; exact Nat.le_succ_of_le h.len, fun a ha => by
  obtain ⟨b, hb, rfl⟩ := List.mem_map.mp ha
  split
  · exact ⟨h1, h2⟩
  · exact ⟨Nat.le_succ_of_le (h.ws b hb).1, (h.ws b hb).2⟩⟩
theorem SmallL.new {m : Nat} {L : List Ln} (h : SmallL m L) (x y : Str) (j : Nat) {ws : List Str} (h1 : ws.length ≤ m + 1) (h2 : ∀ z ∈ ws, isNm z = true) : SmallL (m + 1) (L ++ [⟨x, y, j, ws⟩]) := ⟨by rw [List.length_append]; exact Nat.succ_le_succ h.len, fun a ha => by
  rcases List.mem_append.mp ha with ha | ha
  · exact ⟨Nat.le_succ_of_le (h.ws a ha).1, (h.ws a ha).2⟩
  · cases List.mem_singleton.mp ha
    exact ⟨h1, h2⟩⟩
theorem Step.put {L : List Ln} {d : Deed} {e : Ln} (he : findL L d.x d.y = some e) {ws : List Str} (hw : ws = nextW d e.ws) : Step L d (putL L d.x d.y ws) := by
  have hk : e.key = [.inr d.x, .inr d.y] := by obtain ⟨_, hx, hy⟩ := find_mem he; rw [← hx, ← hy]
  constructor
  · rw [find_put, he]
    simp only [Option.map_some, if_pos hk]
    unfold wordsL
    rw [he, hw]
    rfl
  · intro x y hne
    rw [find_put]
    cases h : findL L x y with
    | none => rfl
    | some a =>
      obtain ⟨_, hx, hy⟩ := find_mem h
      have : ¬ a.key = [.inr d.x, .inr d.y] := fun z => hne (by rw [← hx, ← hy]; simpa using z)
      simp only [Option.map_some, if_neg this]
theorem Step.new {L : List Ln} {d : Deed} (hn : findL L d.x d.y = none) (j : Nat) {ws : List Str} (hw : ws = nextW d []) : Step L d (L ++ [⟨d.x, d.y, j, ws⟩]) := by
  constructor
  · rw [find_snoc hn, if_pos rfl, hw]
    unfold wordsL
    rw [hn]
    rfl
  · intro x y hne
    rw [find_snoc' (fun z => hne (by simpa [eq_comm] using z))]
noncomputable abbrev Wd := Str → Str → List Str
noncomputable def stepF (f : Wd) (d : Deed) : Wd := fun x y => if x = d.x ∧ y = d.y then nextW d (f x y) else f x y
noncomputable def runF (ds : List Deed) : Wd := ds.foldl stepF fun _ _ => []
noncomputable def canF (f : Wd) (d : Deed) : Bool := !d.tk || decide ((f d.x d.y).take 1 = [d.w])
noncomputable def Goes (ds : List Deed) : Prop := ∀ i d, ds[i]? = some d → canF (runF (ds.take i)) d = true
theorem run_snoc {ds : List Deed} {i : Nat} {d : Deed} (h : ds[i]? = some d) : runF (ds.take (i + 1)) = stepF (runF (ds.take i)) d := by
  unfold runF
  rw [List.take_add_one, h]
  simp [List.foldl_append]
theorem Step.words {L L' : List Ln} {d : Deed} (h : Step L d L') {f : Wd} (hf : ∀ x y, wordsL L x y = f x y) : ∀ x y, wordsL L' x y = stepF f d x y := fun x y => by
  unfold stepF
  by_cases e : x = d.x ∧ y = d.y
  · obtain ⟨rfl, rfl⟩ := e
    rw [if_pos ⟨rfl, rfl⟩, ← hf]
    show ((findL L' d.x d.y).map (·.ws)).getD [] = _
    rw [h.here]
    rfl
  · rw [if_neg e, ← hf]
    show ((findL L' x y).map (·.ws)).getD [] = ((findL L x y).map (·.ws)).getD []
    rw [h.else_ x y e]
/-- the lines of W', all behind the first n objects -/
structure LinesOf (W : Wl) (q : Nat) (m : Nat) (f : Wd) (W' : Wl) (L : List Ln) : Prop where
  at_ : LinesAt W' q L
  ks : KeysND L
  sm : SmallL m L
  fs : ∀ x y, wordsL L x y = f x y
  js : ∀ e ∈ L, W.length ≤ e.j
  le : W.length ≤ W'.length
  old : ∀ i, i < W.length → i ≠ q → W'[i]? = W[i]?
theorem LinesOf.step {W W1 W2 : Wl} {q m : Nat} {f : Wd} {L L2 : List Ln} {d : Deed} (h : LinesOf W q m f W1 L) (a : LinesAt W2 q L2) (b : KeysND L2) (c : SmallL (m + 1) L2) (s : Step L d L2) (fr : Frame W1 q L W2) (nj : NewJ W1.length L L2) : LinesOf W q (m + 1) (stepF f d) W2 L2 where
  at_ := a
  ks := b
  sm := c
  fs := s.words h.fs
  js := fun e he => by
    rcases nj e he with ⟨e0, h0, h1⟩ | h1
    · rw [← h1]; exact h.js e0 h0
    · exact Nat.le_trans h.le h1
  le := Nat.le_trans h.le fr.1
  old := fun i hi iq => (fr.2 i (Nat.lt_of_lt_of_le hi h.le) iq fun e he z => by have := h.js e he; omega).trans (h.old i hi iq)
theorem can_ne {f : Wd} {d : Deed} (h : canF f d = true) (ht : d.tk = true) : f d.x d.y ≠ [] := fun z => by
  unfold canF at h
  rw [ht, z] at h
  simp at h
/-- never more than n words under way between two hands -/
noncomputable def Fits (ds : List Deed) (n : Int) : Prop := ∀ i d, ds[i]? = some d → ((runF (ds.take (i + 1)) d.x d.y).length : Int) ≤ n
theorem LinesOf.app {W W' : Wl} {q m : Nat} {f : Wd} {L : List Ln} (h : LinesOf W q m f W' L) (hq : W.length ≤ q) : ∃ V, W' = W ++ V := ⟨W'.drop W.length, by
  refine List.ext_getElem? fun i => ?_
  by_cases hi : i < W.length
  · rw [List.getElem?_append_left hi]
    exact h.old i hi (by omega)
  · rw [List.getElem?_append_right (by omega), List.getElem?_drop]
    congr 1
    omega⟩
noncomputable def isP (x y : Str) (d : Deed) : Bool := decide (d.x = x ∧ d.y = y)
noncomputable def sentN (ds : List Deed) (x y : Str) : Nat := (ds.filter fun d => !d.tk && isP x y d).length
noncomputable def takenN (ds : List Deed) (x y : Str) : Nat := (ds.filter fun d => d.tk && isP x y d).length
theorem run_take {ds : List Deed} {i : Nat} : i ≤ ds.length → Goes ds → ∀ x y, ((runF (ds.take i) x y).length : Int) = (sentN (ds.take i) x y : Int) - takenN (ds.take i) x y := by
  induction i with
  | zero => intro _ _ x y; simp [runF, sentN, takenN]
  | succ i ih =>
    intro hi hg x y
    have hlt : i < ds.length := hi
    obtain ⟨d, hd⟩ : ∃ d, ds[i]? = some d := ⟨ds[i], by simp [hlt]⟩
    have h0 := ih (Nat.le_of_lt hlt) hg x y
    have hc := hg i d hd
    have et : ds.take (i + 1) = ds.take i ++ [d] := by rw [List.take_add_one, hd]; rfl
    rw [run_snoc hd, et]
    unfold sentN takenN at *
    rw [List.filter_append, List.filter_append, List.length_append, List.length_append]
    unfold stepF
    by_cases e : x = d.x ∧ y = d.y
    · obtain ⟨rfl, rfl⟩ := e
      rw [if_pos ⟨rfl, rfl⟩]
      have hp : isP d.x d.y d = true := by simp [isP]
      unfold nextW
      cases ht : d.tk with
      | false =>
        simp only [List.filter_cons, ht, hp]
        simp
        omega
      | true =>
        have hne := can_ne hc ht
        have hl : 0 < (runF (ds.take i) d.x d.y).length := List.length_pos_iff.mpr hne
        simp only [List.filter_cons, ht, hp]
        simp
        omega
    · rw [if_neg e]
      have hp : isP x y d = false := by
        unfold isP
        exact decide_eq_false fun z => e ⟨z.1.symm, z.2.symm⟩
      simp only [List.filter_cons, hp, Bool.and_false]
      simp
      exact h0
/-- the greatest number of letters under way -/
noncomputable def mostN (ds : List Deed) : Nat → Int
  | 0 => 0
  | i + 1 => match ds[i]? with
    | some d => if ((runF (ds.take (i + 1)) d.x d.y).length : Int) > mostN ds i then ((runF (ds.take (i + 1)) d.x d.y).length : Int) else mostN ds i
    | none => mostN ds i
theorem most_le {ds : List Deed} {n : Int} (hn : 0 ≤ n) : ∀ i, i ≤ ds.length → (mostN ds i ≤ n ↔ ∀ j d, j < i → ds[j]? = some d → ((runF (ds.take (j + 1)) d.x d.y).length : Int) ≤ n)
  | 0, _ => ⟨fun _ j d hj => absurd hj (Nat.not_lt_zero _), fun _ => hn⟩
  | i + 1, hi => by
    have ih := most_le (ds := ds) hn i (Nat.le_of_succ_le hi)
    obtain ⟨d, hd⟩ : ∃ d, ds[i]? = some d := ⟨ds[i], by simp [show i < ds.length from hi]⟩
    unfold mostN
    rw [hd]
    simp only
    constructor
    · intro h j e hj he
      rcases Nat.lt_succ_iff_lt_or_eq.mp hj with h' | rfl
      · refine ih.mp ?_ j e h' he
        split at h <;> omega
      · rw [hd] at he
        cases he
        split at h <;> omega
    · intro h
      have h1 := ih.mpr fun j e hj he => h j e (Nat.lt_succ_of_lt hj) he
      have h2 := h i d (Nat.lt_succ_self i) hd
      split <;> omega
theorem most_fits {ds : List Deed} {n : Int} (hn : 0 ≤ n) : mostN ds ds.length ≤ n ↔ Fits ds n :=
  (most_le hn ds.length (Nat.le_refl _)).trans ⟨fun h i d hd => h i d (List.getElem?_eq_some_iff.mp hd).1 hd, fun h i d _ hd => h i d hd⟩
noncomputable abbrev bits (n : Int) : Nat := Builtin.Int.intBits n
theorem bits_lt {n : Int} {B : Nat} (h : bits n ≤ B) : n.natAbs < 2 ^ B := by
  unfold bits Builtin.Int.intBits at h
  by_cases h0 : n = 0
  · subst h0; simp; exact Nat.two_pow_pos B
  · rw [if_neg (by simpa using h0)] at h
    have hn : n.natAbs ≠ 0 := by omega
    exact (Nat.log2_lt hn).mp (by omega)
theorem bits_of {n : Int} {B : Nat} (h : n.natAbs < 2 ^ B) : bits n ≤ B := by
  unfold bits Builtin.Int.intBits
  by_cases h0 : n = 0
  · subst h0; simp
  · rw [if_neg (by simpa using h0)]
    have hn : n.natAbs ≠ 0 := by omega
    have := (Nat.log2_lt hn).mpr h
    omega
theorem bits_add {n m : Int} {B : Nat} (h : bits n ≤ B) (hm : m.natAbs ≤ 1000) : bits (n + m) ≤ B + 10 := by
  have h1 := bits_lt h
  refine bits_of ?_
  have h2 : (n + m).natAbs ≤ n.natAbs + m.natAbs := Int.natAbs_add_le n m
  have h3 : 2 ^ (B + 10) = 2 ^ B * 1024 := by rw [Nat.pow_add]
  rw [h3]
  have h4 : 1 ≤ 2 ^ B := Nat.one_le_two_pow
  generalize 2 ^ B = X at *
  omega
end K1
namespace K1
open PySem L2
theorem at0 {α : Type} (a : α) (l : List α) : atI (a :: l) 0 = some a := by simp [atI, ixN]
theorem fin_set {W : Wl} {p : Nat} {o : OD} (ho : o.below 0) (d : PyData) : fin true W (.d d) (W.set p o) = .ok (.d d) (W.set p o) := by
  unfold fin
  rw [if_pos rfl, Res.whenC_pos ?_]
  · show Res.ok (El.d d) ((W.set p o).take W.length) = _
    rw [List.take_of_length_le (by simp)]
  · intro i hi
    by_cases h : p = i
    · subst h
      exact .inr ⟨o, by rw [List.getElem?_set_self hi], ho⟩
    · exact .inl (by rw [List.getElem?_set_ne h])
theorem ix0 (n : Nat) : ixN (n + 1) 0 = some 0 := by
  simp [ixN]
noncomputable def pkO (m : Int) : OD := .lst [.d (.int m)]
theorem pk_flat (m : Int) : (pkO m).below 0 := by
  intro e he
  simp at he
  subst he
  trivial
section
variable {Φ : Str → Option Fn} {Γ : Str → Option PyData}
theorem take_ev (hf : Φ "_law_take" = some f_law_take) (k : Nat) {W : Wl} {p : Nat} {m n : Int} (hp : W[p]? = some (pkO m)) (hn : 0 < n ∧ n < 1073741824) :
    evCall Φ Γ (k + 1) "_law_take" [.o p, .d (.int n)] W = .ok (.d (.int (m % n))) (W.set p (pkO (m / n))) := by
  have hp' : W[p]? = some (.lst [.d (.int m)]) := hp
  simp only [evN, evCall, Nat.reduceAdd, Nat.reduceSub, reduceIte, Nat.reduceEqDiff, Int.reduceEq, Int.reduceLT, Int.reduceLE, hf, f_law_take, x_own hp', set_own hp', hn, at0, ix0]
  exact fin_set (pk_flat _) _
noncomputable def nmD : PyData → Bool
  | .str x => isNm x
  | _ => false
noncomputable def shortD : PyData → Prop
  | .str x => x.length ≤ sizeLine
  | _ => True
theorem name_ev (hf : Φ "is_name" = some f_is_name) (h1 : Γ "LETTERS" = some (.str LET)) (h2 : Γ "LONGEST_NAME" = some (.int 8)) (k : Nat) {W : Wl} {d : PyData} (hd : shortD d) :
    evCall Φ Γ (k + 1) "is_name" [.d d] W = .ok (.d (.bool (nmD d))) W := by
  simp only [evN, evCall, Nat.reduceAdd, Nat.reduceSub, reduceIte, Nat.reduceEqDiff, Int.reduceEq, Int.reduceLT, Int.reduceLE, hf, f_is_name, h1, h2]
  cases d with
  | str x =>
    have hd : x.length ≤ sizeLine := hd
    simp only [evN, evCall, Nat.reduceAdd, Nat.reduceSub, reduceIte, Nat.reduceEqDiff, Int.reduceEq, Int.reduceLT, Int.reduceLE, Res.when, hd, decide_eq_true_eq, cmpS]
    have e1 : ((1 : Int) ≤ (x.length : Int)) = (1 ≤ x.length) := by simp; omega
    have e2 : decide ((x.length : Int) ≤ 8) = decide (x.length ≤ 8) := by congr 1; simp; omega
    rw [e2]
    simp only [e1]
    have hnm : nmD (.str x) = ((decide (1 ≤ x.length) && decide (x.length ≤ 8)) && x.cps.toList.all fun c => decide (97 ≤ c) && decide (c ≤ 122)) := rfl
    by_cases h1' : 1 ≤ x.length
    · by_cases h2' : x.length ≤ 8
      · simp only [evN, evCall, Nat.reduceAdd, Nat.reduceSub, reduceIte, Nat.reduceEqDiff, Int.reduceEq, Int.reduceLT, Int.reduceLE, h1', h2', decide_true, slot_zero, q_str, st_none]
        have hl : (signsD x).length ≤ sizeLine := by
          unfold signsD
          rw [List.length_map]
          exact Nat.le_trans h2' (by decide)
        rw [if_pos hl, compL_map trivial (fun d => match d with | .str y => .bool (y.cps.toList.all fun c => decide (97 ≤ c) && decide (c ≤ 122)) | _ => .none) _ _ (fun d hd' => ?_)]
        · have eb : boolsD ((signsD x).map (fun d => match d with | .str y => PyData.bool (y.cps.toList.all fun c => decide (97 ≤ c) && decide (c ≤ 122)) | _ => .none)) = some (x.cps.toList.map fun c => (decide (97 ≤ c) && decide (c ≤ 122))) := by
            rw [← boolsD_map]
            congr 1
            unfold signsD
            rw [List.map_map, List.map_map]
            apply List.map_congr_left
            intro c hc
            simp
          simp only [evN, evCall, Nat.reduceAdd, Nat.reduceSub, reduceIte, Nat.reduceEqDiff, Int.reduceEq, Int.reduceLT, Int.reduceLE, eb, hnm, h1', h2', decide_true, Bool.true_and]
          rw [List.all_map]
          rfl
        · unfold signsD at hd'
          obtain ⟨c, hc, rfl⟩ := List.mem_map.mp hd'
          simp only [evN, evCall, Nat.reduceAdd, Nat.reduceSub, reduceIte, Nat.reduceEqDiff, Int.reduceEq, Int.reduceLT, Int.reduceLE, in_let]
          simp
      · simp only [evN, evCall, Nat.reduceAdd, Nat.reduceSub, reduceIte, Nat.reduceEqDiff, Int.reduceEq, Int.reduceLT, Int.reduceLE, h1', h2', decide_true, decide_false, hnm, Bool.true_and, Bool.false_and]
    · simp only [evN, evCall, Nat.reduceAdd, Nat.reduceSub, reduceIte, Nat.reduceEqDiff, Int.reduceEq, Int.reduceLT, Int.reduceLE, h1', decide_false, hnm, Bool.false_and]
  | _ => simp only [evN, evCall, Nat.reduceAdd, Nat.reduceSub, reduceIte, Nat.reduceEqDiff, Int.reduceEq, Int.reduceLT, Int.reduceLE, nmD]
theorem dec_kd {d : Deed} : decide (d.kd = "send") = !d.tk := by
  unfold Deed.kd
  cases d.tk
  · exact decide_eq_true rfl
  · exact decide_eq_false (by decide +kernel)
theorem deed_ev (hf : Φ "is_deed" = some f_is_deed) (hn : Φ "is_name" = some f_is_name) (h1 : Γ "LETTERS" = some (.str LET)) (h2 : Γ "LONGEST_NAME" = some (.int 8)) (h3 : Γ "KINDS" = some (.tuple [.str "send", .str "take"])) (k : Nat) {W : Wl} {d : Deed} (hd : d.Ok) :
    evCall Φ Γ (k + 2) "is_deed" [.d (dP d)] W = .ok (.d (.bool true)) W := by
  have sh : ∀ {x : Str}, isNm x = true → shortD (.str x) := fun h => Nat.le_trans (nm_len h) (by decide)
  have nx := name_ev hn h1 h2 k (W := W) (sh hd.x)
  have ny := name_ev hn h1 h2 k (W := W) (sh hd.y)
  have nw := name_ev hn h1 h2 k (W := W) (sh hd.w)
  have ex : nmD (.str d.x) = true := hd.x
  have ey : nmD (.str d.y) = true := hd.y
  have ew : nmD (.str d.w) = true := hd.w
  rw [evCall]
  have hk : decide (d.kd ∈ (["send", "take"] : List Str)) = true := by
    rcases kd_or d with h | h <;> rw [h] <;> decide +kernel
  have hne : decide (d.x = d.y) = false := decide_eq_false hd.ne
  simp only [dP]
  simp only [evN, Nat.reduceAdd, Nat.reduceSub, reduceIte, Nat.reduceEqDiff, Int.reduceEq, Int.reduceLT, Int.reduceLE, hf, f_is_deed, h3, hk, nx, ny, nw, ex, ey, ew, hne]
end
end K1
namespace K1
open PySem L2
theorem datB_of {d : PyData} (h : Dat d) : datB d = true := by
  unfold datB
  rw [h.lay, decide_eq_true h.dep]
  rfl
section
variable {Φ : Str → Option Fn} {Γ : Str → Option PyData}
theorem can_ev (hf : Φ "can_be_done" = some f_can_be_done) (k : Nat) {W : Wl} {q : Nat} {L : List Ln} {d : Deed} (hd : d.Ok) (hL : LinesAt W q L) (hs : ∀ e ∈ L, ∀ z ∈ e.ws, PyData.strOk z = true) :
    evCall Φ Γ (k + 1) "can_be_done" [.o q, .d (dP d)] W = .ok (.d (.bool (!d.tk || decide ((wordsL L d.x d.y).take 1 = [d.w])))) W := by
  have two : 2 ≤ sizeLine := by decide
  have one : 1 ≤ sizeLine := by decide
  have ty := t_get hL.at_
  have key : ∀ zs : List Str, (∀ z ∈ zs, PyData.strOk z = true) → evCmp .Eq (.d (.list (cutL (zs.map PyData.str) none (some 1)))) (.d (.list [.str d.w])) W = some (decide (zs.take 1 = [d.w])) := fun zs hz => by
    rw [show cutL (zs.map PyData.str) none (some 1) = (zs.take 1).map .str by rw [List.map_take]; exact cut_to _ 1]
    show evCmp .Eq (.d (.list ((zs.take 1).map .str))) (.d (.list ([d.w].map .str))) W = _
    rw [c_eqL (datB_of (dat_strl fun z h => hz z (List.mem_of_mem_take h))) (datB_of (dat_strl (ns := [d.w]) (by simp [nm_strOk hd.w])))]
    rw [show PyData.eqv (.list ((zs.take 1).map .str)) (.list ([d.w].map .str)) = decide (zs.take 1 = [d.w]) by simp only [PyData.eqv]; exact eqv_strs _ _]
  have hk := dec_kd (d := d)
  simp only [dP]
  simp only [evN, evCall, Nat.reduceAdd, Nat.reduceSub, reduceIte, Nat.reduceEqDiff, Int.reduceEq, Int.reduceLT, Int.reduceLE, hf, f_can_be_done, hk]
  cases d.tk with
  | false => simp only [evN, evCall, Nat.reduceAdd, Nat.reduceSub, reduceIte, Nat.reduceEqDiff, Int.reduceEq, Int.reduceLT, Int.reduceLE]
  | true =>
    simp only [evN, evCall, Nat.reduceAdd, Nat.reduceSub, reduceIte, Nat.reduceEqDiff, Int.reduceEq, Int.reduceLT, Int.reduceLE, Res.when, ty, m_get hL.at_, two, one, Nat.zero_le, val_find]
    cases hf : findL L d.x d.y with
    | none =>
      have := key [] (by simp)
      have h0 : (cutL ([] : List PyData) none (some 1)) = cutL (([] : List Str).map PyData.str) none (some 1) := rfl
      simp only [evN, evCall, Nat.reduceAdd, Nat.reduceSub, reduceIte, Nat.reduceEqDiff, Int.reduceEq, Int.reduceLT, Int.reduceLE, Option.map_none, Option.getD_none, s_lst, one, h0, this, wordsL, hf]
    | some e =>
      obtain ⟨he, hx, hy⟩ := find_mem hf
      have := key e.ws (hs e he)
      simp only [evN, evCall, Nat.reduceAdd, Nat.reduceSub, reduceIte, Nat.reduceEqDiff, Int.reduceEq, Int.reduceLT, Int.reduceLE, Option.getD_some, l_own (hL.obj e he), this, one, wordsL, hf]
theorem do_ev (hf : Φ "do_deed" = some f_do_deed) (k : Nat) {W : Wl} {q : Nat} {L : List Ln} {m : Nat} {d : Deed} (hd : d.Ok) (hL : LinesAt W q L) (hK : KeysND L) (hS : SmallL m L) (hm : m ≤ 1000) (ht : d.tk = true → wordsL L d.x d.y ≠ []) :
    ∃ W' L', evCall Φ Γ (k + 1) "do_deed" [.o q, .d (dP d)] W = .ok (.d .none) W' ∧ LinesAt W' q L' ∧ KeysND L' ∧ SmallL (m + 1) L' ∧ Step L d L' ∧ Frame W q L W' ∧ NewJ W.length L L' := by
  have two : 2 ≤ sizeLine := by decide
  have hq : q < W.length := (List.getElem?_eq_some_iff.mp hL.at_).1
  have hL1 : ∀ {a : Nat}, a ≤ 2000 → a < sizeLine := fun h => Nat.lt_of_le_of_lt h (by decide)
  have at1 : (W ++ [OD.lst []])[q]? = some (.dT (L.map fun e => (e.key, El.o e.j))) := by rw [List.getElem?_append_left hq]; exact hL.at_
  have ty := t_sd hL.at_
  have hk := dec_kd (d := d)
  cases hfd : findL L d.x d.y with
  | some e =>
    obtain ⟨he, hx, hy⟩ := find_mem hfd
    have hj : e.j < W.length := (List.getElem?_eq_some_iff.mp (hL.obj e he)).1
    have obj : (W ++ [OD.lst []])[e.j]? = some (.lst (datas (e.ws.map .str))) := by rw [List.getElem?_append_left hj]; exact hL.obj e he
    have hv : valE (L.map fun e => (e.key, El.o e.j)) [.inr d.x, .inr d.y] = some (.o e.j) := by rw [val_find, hfd]; rfl
    have hw : wordsL L d.x d.y = e.ws := by unfold wordsL; rw [hfd]; rfl
    obtain ⟨ha, hb⟩ := hL.put hfd (nextW d e.ws) [OD.lst []] (hK.uniq hfd)
    have hnx : (nextW d e.ws).length ≤ m + 1 ∧ ∀ z ∈ nextW d e.ws, isNm z = true := by
      have h1 := (hS.ws e he).1
      have h2 := (hS.ws e he).2
      unfold nextW
      cases d.tk with
      | true => exact ⟨by simp; omega, fun z hz => h2 z (List.mem_of_mem_tail hz)⟩
      | false =>
        refine ⟨by simp; omega, fun z hz => ?_⟩
        rcases List.mem_append.mp hz with hz | hz
        · exact h2 z hz
        · simp at hz; subst hz; exact hd.w
    refine ⟨_, _, ?_, ha, hK.put _ _ _, hS.put _ _ hnx.1 hnx.2, Step.put hfd rfl, hb, NewJ.put _ _ _ _ _⟩
    simp only [dP]
    simp only [evN, evCall, Nat.reduceAdd, Nat.reduceSub, reduceIte, Nat.reduceEqDiff, Int.reduceEq, Int.reduceLT, Int.reduceLE, hf, f_do_deed, Res.when, ty, m_sd1 at1 hv, two, Nat.zero_le, hk]
    unfold nextW at *
    cases htk : d.tk with
    | false =>
      have hl : (datas (e.ws.map PyData.str)).length < sizeLine := by
        have := (hS.ws e he).1
        simp [datas]
        exact hL1 (by omega)
      simp only [evN, evCall, Nat.reduceAdd, Nat.reduceSub, reduceIte, Nat.reduceEqDiff, Int.reduceEq, Int.reduceLT, Int.reduceLE, Res.when, t_app obj, m_app obj hl, datas, List.map_append]
    | true =>
      have hne := ht htk
      rw [hw] at hne
      cases hws : e.ws with
      | nil => exact absurd hws hne
      | cons z zs =>
        have obj' : (W ++ [OD.lst []])[e.j]? = some (.lst (.d (.str z) :: datas (zs.map .str))) := by rw [obj, hws]; rfl
        simp only [evN, evCall, Nat.reduceAdd, Nat.reduceSub, reduceIte, Nat.reduceEqDiff, Int.reduceEq, Int.reduceLT, Int.reduceLE, Res.when, t_pop obj', m_pop obj', List.tail_cons]
  | none =>
    have hv : valE (L.map fun e => (e.key, El.o e.j)) [.inr d.x, .inr d.y] = none := by rw [val_find, hfd]; rfl
    have hw : wordsL L d.x d.y = [] := by unfold wordsL; rw [hfd]; rfl
    have htk : d.tk = false := by
      cases h : d.tk with
      | false => rfl
      | true => exact absurd hw (ht h)
    obtain ⟨ha, hb⟩ := hL.new d.x d.y [d.w]
    have hnx : nextW d [] = [d.w] := by unfold nextW; rw [htk]; rfl
    refine ⟨_, _, ?_, ha, hK.new hfd _ _, hS.new _ _ _ (by simp) (by simp [hd.w]), Step.new hfd _ hnx.symm, hb, NewJ.new (Nat.le_refl _)⟩
    simp only [dP]
    have hl : (L.map fun e => (e.key, El.o e.j)).length < sizeLine := by
      have := hS.len
      rw [List.length_map]
      exact hL1 (by omega)
    have obj : ((W ++ [OD.lst []]).set q (OD.dT (L.map (fun e : Ln => (e.key, El.o e.j)) ++ [([.inr d.x, .inr d.y], .o W.length)])))[W.length]? = some (.lst []) := by
      rw [List.getElem?_set_ne (by omega)]
      simp
    have z0 : ([] : List El).length < sizeLine := by decide
    simp only [evN, evCall, Nat.reduceAdd, Nat.reduceSub, reduceIte, Nat.reduceEqDiff, Int.reduceEq, Int.reduceLT, Int.reduceLE, hf, f_do_deed, Res.when, ty, m_sd0 at1 hv hl, two, Nat.zero_le, hk, htk, t_app obj, m_app obj z0, newW, datas]
/-- what the program's words and lines want of the table -/
structure PLines (Φ : Str → Option Fn) (Γ : Str → Option PyData) : Prop where
  name : Φ "is_name" = some f_is_name
  deed : Φ "is_deed" = some f_is_deed
  can : Φ "can_be_done" = some f_can_be_done
  do_ : Φ "do_deed" = some f_do_deed
  behind : Φ "lines_behind" = some f_lines_behind
  let_ : Γ "LETTERS" = some (.str LET)
  lon : Γ "LONGEST_NAME" = some (.int 8)
  kin : Γ "KINDS" = some (.tuple [.str "send", .str "take"])
theorem lines0 (W : Wl) : LinesOf W W.length 0 (fun _ _ => []) (W ++ [.dT []]) [] := ⟨⟨by simp, by simp, by simp, by simp⟩, by simp [KeysND], ⟨by simp, by simp⟩, fun _ _ => rfl, by simp, by simp, fun i hi _ => List.getElem?_append_left hi⟩
theorem enum_map {α : Type} (f : α → PyData) : ∀ (j : Nat) (l : List α) (i : Nat) (d : PyData), (enumD j (l.map f))[i]? = some d → ∃ a, l[i]? = some a ∧ d = .tuple [.int ((j + i : Nat) : Int), f a]
  | _, [], i, d, h => by simp [enumD] at h
  | j, a :: l, 0, d, h => by simp [enumD] at h; exact ⟨a, rfl, h.symm⟩
  | j, a :: l, i + 1, d, h => by
    have h' : (enumD (j + 1) (l.map f))[i]? = some d := h
    obtain ⟨b, h1, h2⟩ := enum_map f (j + 1) l i d h'
    exact ⟨b, by simpa using h1, by rw [h2, show j + 1 + i = j + (i + 1) by omega]⟩
theorem behind_ev (P : PLines Φ Γ) (k : Nat) {W : Wl} {ds : List Deed} (hok : ∀ d ∈ ds, d.Ok) (hl : ds.length ≤ 900) (hg : Goes ds) :
    ∃ W' L, evCall Φ Γ (k + 3) "lines_behind" [.d (rP ds)] W = .ok (.o W.length) W' ∧ LinesOf W W.length ds.length (runF ds) W' L := by
  rw [evCall]
  simp only [rP]
  simp only [evN, Nat.reduceAdd, Nat.reduceSub, reduceIte, Nat.reduceEqDiff, Int.reduceEq, Int.reduceLT, Int.reduceLE, P.behind, f_lines_behind, Res.when]
  refine forL_inv (ds := enumD 0 (ds.map dP)) (fun i S' W' => ∃ o2 o3 L, S' = [some (.d (.tuple (ds.map dP))), some (.o W.length), o2, o3] ∧ LinesOf W W.length i (runF (ds.take i)) W' L) (fun r => ∃ W' L, (fnEnd false W (r.bind fun S' W' => ((Res.opt (slot S' 1) fun e => Res.ok e W').st S' fun x W1 => SRes.rt x W1).bind fun S' W' => SRes.nx S' W')) = .ok (.o W.length) W' ∧ LinesOf W W.length ds.length (runF ds) W' L) ⟨none, none, [], rfl, lines0 W⟩ (fun _ _ _ _ _ => trivial) ?_ ?_
  · rintro i dd S' W' hd ⟨o2, o3, L, rfl, hL⟩
    obtain ⟨d, hy, rfl⟩ := enum_map dP 0 ds i dd hd
    have hdk := hok d (List.mem_of_getElem? hy)
    have hi : i < ds.length := (List.getElem?_eq_some_iff.mp hy).1
    have hcan := hg i d hy
    obtain ⟨W2, L2, e, a, b, c, st, fr, nj⟩ := do_ev (Γ := Γ) P.do_ (k + 1) hdk hL.at_ hL.ks hL.sm (by omega) (fun ht => by rw [hL.fs]; exact can_ne hcan ht)
    have h1 := deed_ev (W := W') P.deed P.name P.let_ P.lon P.kin k hdk
    have h2 := can_ev (Γ := Γ) P.can (k + 1) hdk hL.at_ hL.sm.sok
    have h3 : (!d.tk || decide ((wordsL L d.x d.y).take 1 = [d.w])) = true := by rw [hL.fs]; exact hcan
    rw [h3] at h2
    refine .inl ⟨[some (.d (.tuple (ds.map dP))), some (.o W.length), some (.d (.int ((0 + i : Nat) : Int))), some (.d (dP d))], W2, ?_, some (.d (.int ((0 + i : Nat) : Int))), some (.d (dP d)), L2, rfl, ?_⟩
    · simp only [evN, Nat.reduceAdd, Nat.reduceSub, reduceIte, Nat.reduceEqDiff, Int.reduceEq, Int.reduceLT, Int.reduceLE, h1, h2, e]
    · have := hL.step a b c st fr nj
      rwa [← run_snoc hy] at this
  · rintro S' W' ⟨o2, o3, L, rfl, hL⟩
    rw [enum_len, List.length_map, List.take_length] at hL
    exact ⟨W', L, by simp only [evN, Nat.reduceAdd, Nat.reduceSub, reduceIte, Nat.reduceEqDiff, Int.reduceEq, Int.reduceLT, Int.reduceLE], hL⟩
end
end K1
namespace K1
open PySem L2
theorem cut13 (d : Deed) : cutL [PyData.str d.kd, .str d.x, .str d.y, .str d.w] (some 1) (some 3) = [.str d.x, .str d.y] := rfl
structure PRooms (Φ : Str → Option Fn) (Γ : Str → Option PyData) : Prop extends PLines Φ Γ where
  whole : Φ "is_whole" = some f_is_whole
  rooms : Φ "is_rooms" = some f_is_rooms
  check : Φ "check_rooms" = some f_check_rooms
  keeps : Φ "keeps" = some f_keeps
  most : Γ "MOST_ROOMS" = some (.int 40)
section
variable {Φ : Str → Option Fn} {Γ : Str → Option PyData}
theorem whole_ev (hf : Φ "is_whole" = some f_is_whole) (k : Nat) {W : Wl} (n : Int) : evCall Φ Γ (k + 1) "is_whole" [.d (.int n)] W = .ok (.d (.bool true)) W := by
  simp only [evN, evCall, Nat.reduceAdd, Nat.reduceSub, reduceIte, Nat.reduceEqDiff, Int.reduceEq, Int.reduceLT, Int.reduceLE, hf, f_is_whole]
theorem rooms_ev (P : PRooms Φ Γ) (k : Nat) {W : Wl} {n : Int} (h1 : 1 ≤ n) (h2 : n ≤ 40) : evCall Φ Γ (k + 2) "is_rooms" [.d (.int n)] W = .ok (.d (.bool true)) W := by
  rw [evCall]
  simp only [evN, Nat.reduceAdd, Nat.reduceSub, reduceIte, Nat.reduceEqDiff, Int.reduceEq, Int.reduceLT, Int.reduceLE, P.rooms, f_is_rooms, whole_ev P.whole k, P.most, h1, h2, Res.when]
theorem check_ev (P : PRooms Φ Γ) (k : Nat) {W : Wl} {n : Int} (h1 : 1 ≤ n) (h2 : n ≤ 40) : evCall Φ Γ (k + 3) "check_rooms" [.d (.int n)] W = .ok (.d .none) W := by
  rw [evCall]
  simp only [evN, Nat.reduceAdd, Nat.reduceSub, reduceIte, Nat.reduceEqDiff, Int.reduceEq, Int.reduceLT, Int.reduceLE, P.check, f_check_rooms, rooms_ev P k h1 h2, Res.when]
theorem keeps_ev (P : PRooms Φ Γ) (k : Nat) {W : Wl} {ds : List Deed} {n : Int} (hok : ∀ d ∈ ds, d.Ok) (hl : ds.length ≤ 900) (hg : Goes ds) (h1 : 1 ≤ n) (h2 : n ≤ 40) :
    ∃ b : Bool, evCall Φ Γ (k + 4) "keeps" [.d (rP ds), .d (.int n)] W = .ok (.d (.bool b)) W ∧ (b = true ↔ Fits ds n) := by
  obtain ⟨W1, L1, e1, hL1⟩ := behind_ev P.toPLines k (W := W) hok hl hg
  obtain ⟨V1, rfl⟩ := hL1.app (Nat.le_refl _)
  have e2 := check_ev P k (W := W ++ V1) h1 h2
  rw [evCall]
  simp only [evN, Nat.reduceAdd, Nat.reduceSub, reduceIte, Nat.reduceEqDiff, Int.reduceEq, Int.reduceLT, Int.reduceLE, P.keeps, f_keeps, e1, e2, Res.when]
  simp only [rP]
  simp only [evN, Nat.reduceAdd, Nat.reduceSub, reduceIte, Nat.reduceEqDiff, Int.reduceEq, Int.reduceLT, Int.reduceLE, st_none]
  generalize hW1 : W ++ V1 = W1
  have out : ∀ {m : Nat} {g : Wd} {W' : Wl} {L : List Ln}, LinesOf W1 W1.length m g W' L → ∃ V', W' = W ++ V' := fun hL => by
    obtain ⟨V2, e⟩ := hL.app (Nat.le_refl _)
    exact ⟨V1 ++ V2, by rw [e, ← hW1, List.append_assoc]⟩
  refine forL_inv (ds := ds.map dP) (fun i S' W' => ∃ o3 L, S' = [some (.d (.tuple (ds.map dP))), some (.d (.int n)), some (.o W1.length), o3] ∧ LinesOf W1 W1.length i (runF (ds.take i)) W' L ∧ ∀ j d, j < i → ds[j]? = some d → ((runF (ds.take (j + 1)) d.x d.y).length : Int) ≤ n)
    (fun r => ∃ b : Bool, fnEnd true W (r.bind fun S' W' => SRes.rt (.d (.bool true)) W') = .ok (.d (.bool b)) W ∧ (b = true ↔ Fits ds n)) ⟨none, [], rfl, lines0 W1, fun j d hj => absurd hj (Nat.not_lt_zero _)⟩ (fun _ _ _ _ _ => trivial) ?_ ?_
  · rintro i dd S' W' hd ⟨o3, L, rfl, hL, hfit⟩
    rw [List.getElem?_map] at hd
    obtain ⟨d, hy, rfl⟩ := Option.map_eq_some_iff.mp hd
    have hdk := hok d (List.mem_of_getElem? hy)
    have hi : i < ds.length := (List.getElem?_eq_some_iff.mp hy).1
    have hcan := hg i d hy
    obtain ⟨W2, L2, e, a, b, c, st, fr, nj⟩ := do_ev (Γ := Γ) P.do_ (k + 2) hdk hL.at_ hL.ks hL.sm (by omega) (fun ht => by rw [hL.fs]; exact can_ne hcan ht)
    have hL2 := hL.step a b c st fr nj
    rw [← run_snoc hy] at hL2
    obtain ⟨l, hf⟩ : ∃ l, findL L2 d.x d.y = some l := by
      have := st.here
      cases h : findL L2 d.x d.y with
      | none => rw [h] at this; cases this
      | some l => exact ⟨l, rfl⟩
    obtain ⟨hmem, hx, hyy⟩ := find_mem hf
    have hlen : l.ws = runF (ds.take (i + 1)) d.x d.y := by
      rw [← hL2.fs]
      unfold wordsL
      rw [hf]
      rfl
    have hv : valE (L2.map fun e => (e.key, El.o e.j)) [.inr d.x, .inr d.y] = some (.o l.j) := by rw [val_find, hf]; rfl
    by_cases hgt : n < ((runF (ds.take (i + 1)) d.x d.y).length : Int)
    · obtain ⟨V', rfl⟩ := out hL2
      refine .inr ⟨.d (.bool false), W ++ V', ?_, false, by simp only [evN, Nat.reduceAdd, Nat.reduceSub, reduceIte, Nat.reduceEqDiff, Int.reduceEq, Int.reduceLT, Int.reduceLE], ⟨fun z => (by cases z), fun z => ?_⟩⟩
      · simp only [evN, Nat.reduceAdd, Nat.reduceSub, reduceIte, Nat.reduceEqDiff, Int.reduceEq, Int.reduceLT, Int.reduceLE, e]
        simp only [dP]
        simp only [evN, Nat.reduceAdd, Nat.reduceSub, reduceIte, Nat.reduceEqDiff, Int.reduceEq, Int.reduceLT, Int.reduceLE, cut13, x_dT a.at_, hv, l_own (a.obj l hmem), hlen, List.length_map, hgt]
      · have := z i d hy
        omega
    · refine .inl ⟨[some (.d (.tuple (ds.map dP))), some (.d (.int n)), some (.o W1.length), some (.d (dP d))], W2, ?_, _, L2, rfl, hL2, fun j d' hj hd' => ?_⟩
      · simp only [evN, Nat.reduceAdd, Nat.reduceSub, reduceIte, Nat.reduceEqDiff, Int.reduceEq, Int.reduceLT, Int.reduceLE, e]
        simp only [dP]
        simp only [evN, Nat.reduceAdd, Nat.reduceSub, reduceIte, Nat.reduceEqDiff, Int.reduceEq, Int.reduceLT, Int.reduceLE, cut13, x_dT a.at_, hv, l_own (a.obj l hmem), hlen, List.length_map, hgt]
      · rcases Nat.lt_succ_iff_lt_or_eq.mp hj with h | h
        · exact hfit j d' h hd'
        · subst h
          rw [hy] at hd'
          cases hd'
          omega
  · rintro S' W' ⟨o3, L, rfl, hL, hfit⟩
    rw [List.length_map] at hfit
    obtain ⟨V', rfl⟩ := out hL
    exact ⟨true, by simp only [evN, Nat.reduceAdd, Nat.reduceSub, reduceIte, Nat.reduceEqDiff, Int.reduceEq, Int.reduceLT, Int.reduceLE], ⟨fun _ i d hd => hfit i d (List.getElem?_eq_some_iff.mp hd).1 hd, fun _ => rfl⟩⟩
end
end K1
namespace K1
open PySem L2
section
variable {Φ : Str → Option Fn} {Γ : Str → Option PyData}
theorem mixed_ev (hf : Φ "_law_mixed" = some f_law_mixed) (k : Nat) {W : Wl} {n : Int} (hb : bits n ≤ 2000000) : ∃ m : Int, 0 ≤ m ∧ evCall Φ Γ (k + 1) "_law_mixed" [.d (.int n)] W = .ok (.d (.int m)) W := by
  have hc : bits 577350269189625764509148780501957455647601751270126876018603 ≤ 1000 := by decide +kernel
  have h10 : (0 : Int) < 10 ^ (60 : Int).toNat := by decide +kernel
  have h1 : bitsOf n + bitsOf 577350269189625764509148780501957455647601751270126876018603 ≤ 100000000 := by
    have : bitsOf n ≤ 2000000 := hb
    have : bitsOf 577350269189625764509148780501957455647601751270126876018603 ≤ 1000 := hc
    omega
  have h2 : (0 : Int) ≤ 60 ∧ (60 : Int) ≤ 1000000 ∧ (10 : Int).natAbs < 2 ^ 64 := by decide
  refine ⟨n * 577350269189625764509148780501957455647601751270126876018603 % 10 ^ (60 : Int).toNat, Int.emod_nonneg _ (by omega), ?_⟩
  simp only [evN, evCall, Nat.reduceAdd, Nat.reduceSub, reduceIte, Nat.reduceEqDiff, Int.reduceEq, Int.reduceLT, Int.reduceLE, hf, f_law_mixed, Res.when, h1, h2, h10]
theorem pack_ev (hf : Φ "_law_pack" = some f_law_pack) (hm : Φ "_law_mixed" = some f_law_mixed) (k : Nat) {W : Wl} {ns : List Int} {i : Nat} (hb : ∀ m ∈ ns, bits m ≤ 2 ^ 20) (hi : i ≤ 50) :
    ∃ m : Int, 0 ≤ m ∧ evCall Φ Γ (k + 2) "_law_pack" [.s ns, .d (.int i)] W = .ok (.o W.length) (W ++ [pkO m]) := by
  have one : 1 ≤ sizeLine := by decide
  have hbi : ∀ c : Int, c.natAbs < 2 ^ 20 → bitsOf c + bitsOf (i : Int) ≤ 100000000 := fun c hc => by
    have h1 : bitsOf c ≤ 20 := bits_of hc
    have h2 : bitsOf (i : Int) ≤ 20 := bits_of (by simp; omega)
    omega
  by_cases h : i < ns.length
  · have h1 := hb ns[i] (List.getElem_mem h)
    have h2 : bits (ns[i] + 17 * (i : Int)) ≤ 2 ^ 20 + 10 := bits_add h1 (by omega)
    have e20 : (2 : Nat) ^ 20 = 1048576 := by decide
    obtain ⟨m, m0, e⟩ := mixed_ev (Γ := Γ) hm k (W := W) (n := ns[i] + 17 * (i : Int)) (by omega)
    refine ⟨m, m0, ?_⟩
    have hat : atI ns (i : Int) = some ns[i] := atI_nat' (by simp [h])
    have hlt : ((i : Int) < (ns.length : Int)) = True := by simp; omega
    rw [evCall]
    simp only [evN, Nat.reduceAdd, Nat.reduceSub, reduceIte, Nat.reduceEqDiff, Int.reduceEq, Int.reduceLT, Int.reduceLE, hf, f_law_pack, Res.when, hlt, hat, hbi 17 (by decide), e, one, pkO]
  · have e30 : (2 : Nat) ^ 30 = 1073741824 := by decide
    have h2 : bits (6089 * (i : Int) + 5) ≤ 30 := bits_of (by omega)
    obtain ⟨m, m0, e⟩ := mixed_ev (Γ := Γ) hm k (W := W) (n := 6089 * (i : Int) + 5) (by omega)
    refine ⟨m, m0, ?_⟩
    have hlt : ((i : Int) < (ns.length : Int)) = False := by simp; omega
    rw [evCall]
    simp only [evN, Nat.reduceAdd, Nat.reduceSub, reduceIte, Nat.reduceEqDiff, Int.reduceEq, Int.reduceLT, Int.reduceLE, hf, f_law_pack, Res.when, hlt, hbi 6089 (by decide), e, one, pkO]
/-- a digit is drawn -/
theorem draw_ev (hf : Φ "_law_take" = some f_law_take) (k : Nat) {W : Wl} {p : Nat} {m n : Int} (h0 : 0 ≤ m) (hp : W[p]? = some (pkO m)) (hn : 0 < n ∧ n < 1073741824) :
    ∃ (r : Nat) (m' : Int), 0 ≤ m' ∧ (r : Int) < n ∧ evCall Φ Γ (k + 1) "_law_take" [.o p, .d (.int n)] W = .ok (.d (.int r)) (W.set p (pkO m')) := by
  have h1 := Int.emod_nonneg m (show n ≠ 0 by omega)
  have h2 := Int.emod_lt_of_pos m hn.1
  refine ⟨(m % n).toNat, m / n, Int.ediv_nonneg h0 (by omega), by omega, ?_⟩
  rw [take_ev hf k hp hn, show (((m % n).toNat : Nat) : Int) = m % n by omega]
theorem pk_set {W : Wl} {p : Nat} {m m' : Int} (hp : W[p]? = some (pkO m)) : (W.set p (pkO m'))[p]? = some (pkO m') := by
  rw [List.getElem?_set_self (List.getElem?_eq_some_iff.mp hp).1]
end
@[irreducible] noncomputable def rotF (t : Nat) : Str := Txt.slice LET (some (t : Int)) none ++ Txt.slice LET none (some (t : Int))
@[irreducible] noncomputable def chF (z : Str) (i : Nat) : Str := ⟨#[z.cps.toList.getD i 0]⟩
@[irreducible] noncomputable def midF (t s : Nat) : Str := Txt.slice (rotF t) (some 4) (some (4 + (s : Int)))
@[irreducible] noncomputable def handF (t pick s k : Nat) : Str := if pick = 0 then repT (chF (rotF t) 0) (1 + (s + k) % 8) else if pick = 1 then chF (rotF t) k ++ midF t s else midF t s ++ chF (rotF t) k
noncomputable def handsF (t pick s a : Nat) : List Str := (List.range a).map (handF t pick s)
noncomputable def handsB (t pick s a : Nat) : Bool := (handsF t pick s a).all isNm && decide (handsF t pick s a).Nodup
theorem rot_all : ((List.range 26).all fun t => decide ((rotF t).length = 26) && (List.range 8).all fun s => decide ((midF t s).length ≤ 8)) = true := by decide +kernel
theorem hands_all : ((List.range 26).all fun t => (List.range 3).all fun q => (List.range 8).all fun s => handsB t q s 2 && handsB t q s 3 && handsB t q s 4) = true := by decide +kernel
end K1
namespace K1
open PySem L2
theorem range_mem {n : Nat} {d : PyData} (h : d ∈ rangeD 0 n) : ∃ k : Nat, k < n ∧ d = .int k := by
  unfold rangeD at h
  obtain ⟨k, hk, rfl⟩ := List.mem_map.mp h
  exact ⟨k, List.mem_range.mp hk, by simp⟩
theorem range_map {n : Nat} (f : PyData → PyData) (g : Nat → PyData) (h : ∀ k : Nat, k < n → f (.int k) = g k) : (rangeD 0 n).map f = (List.range n).map g := by
  unfold rangeD
  rw [List.map_map]
  apply List.map_congr_left
  intro k hk
  simp only [Function.comp, Int.zero_add]
  exact h k (List.mem_range.mp hk)
theorem range_len (n : Nat) : (rangeD 0 n).length = n := by unfold rangeD; simp
theorem rot_len {t : Nat} (h : t < 26) : (rotF t).length = 26 := by
  have := List.all_eq_true.mp rot_all t (List.mem_range.mpr h)
  simp only [Bool.and_eq_true, decide_eq_true_eq] at this
  exact this.1
theorem mid_len {t s : Nat} (h : t < 26) (hs : s < 8) : (midF t s).length ≤ 8 := by
  have := List.all_eq_true.mp rot_all t (List.mem_range.mpr h)
  simp only [Bool.and_eq_true, decide_eq_true_eq] at this
  have := List.all_eq_true.mp this.2 s (List.mem_range.mpr hs)
  simpa using this
theorem ch_at {t i : Nat} (h : t < 26) (hi : i < 26) : (rotF t).cps.toList[i]? = some ((rotF t).cps.toList.getD i 0) := by
  have := rot_len h
  have hl : (rotF t).cps.toList.length = 26 := by simpa [Str.length] using this
  rw [List.getD_eq_getElem?_getD]
  have : (rotF t).cps.toList[i]? = some ((rotF t).cps.toList[i]) := by simp [hl, hi]
  rw [this]
  rfl
theorem hands_ok {t q s a : Nat} (ht : t < 26) (hq : q < 3) (hs : s < 8) (ha : a < 3) : (∀ x ∈ handsF t q s (2 + a), isNm x = true) ∧ (handsF t q s (2 + a)).Nodup := by
  have h := List.all_eq_true.mp (List.all_eq_true.mp (List.all_eq_true.mp hands_all t (List.mem_range.mpr ht)) q (List.mem_range.mpr hq)) s (List.mem_range.mpr hs)
  simp only [Bool.and_eq_true] at h
  have key : handsB t q s (2 + a) = true := by
    rcases (show a = 0 ∨ a = 1 ∨ a = 2 by omega) with rfl | rfl | rfl
    · exact h.1.1
    · exact h.1.2
    · exact h.2
  unfold handsB at key
  simp only [Bool.and_eq_true, decide_eq_true_eq, List.all_eq_true] at key
  exact key
section
variable {Φ : Str → Option Fn} {Γ : Str → Option PyData}
theorem set_set (W : Wl) (p : Nat) (a b : OD) : (W.set p a).set p b = W.set p b := by simp
set_option maxHeartbeats 1000000 in
theorem hands_ev (hf : Φ "_law_hands" = some f_law_hands) (hT : Φ "_law_take" = some f_law_take) (k : Nat) {W : Wl} {p : Nat} {m : Int} (m0 : 0 ≤ m) (hp : W[p]? = some (pkO m)) :
    ∃ (hs : List Str) (m' : Int), 0 ≤ m' ∧ (∀ x ∈ hs, isNm x = true) ∧ hs.Nodup ∧ 2 ≤ hs.length ∧ hs.length ≤ 4 ∧ evCall Φ Γ (k + 2) "_law_hands" [.o p] W = .ok (.d (.list (hs.map .str))) (W.set p (pkO m')) := by
  obtain ⟨t, m1, p1, ht, e1⟩ := draw_ev (Γ := Γ) hT k m0 hp (n := 26) (by decide)
  have q1 := pk_set (m' := m1) hp
  obtain ⟨q, m2, p2, hq, e2⟩ := draw_ev (Γ := Γ) hT k p1 q1 (n := 3) (by decide)
  rw [set_set] at e2
  have q2 := pk_set (m' := m2) hp
  obtain ⟨s, m3, p3, hs, e3⟩ := draw_ev (Γ := Γ) hT k p2 q2 (n := 8) (by decide)
  rw [set_set] at e3
  have q3 := pk_set (m' := m3) hp
  obtain ⟨a, m4, p4, ha, e4⟩ := draw_ev (Γ := Γ) hT k p3 q3 (n := 3) (by decide)
  rw [set_set] at e4
  have ht : t < 26 := by omega
  have hq : q < 3 := by omega
  have hs : s < 8 := by omega
  have ha : a < 3 := by omega
  obtain ⟨hn, hnd⟩ := hands_ok ht hq hs ha
  have hlen : (handsF t q s (2 + a)).length = 2 + a := by unfold handsF; simp
  refine ⟨handsF t q s (2 + a), m4, p4, hn, hnd, by omega, by omega, ?_⟩
  have L1 : LET.length ≤ sizeLine := by rw [let_len]; decide
  have L2 : (Txt.slice LET (some (t : Int)) none).length + (Txt.slice LET none (some (t : Int))).length ≤ sizeLine := by
    have := rot_len ht
    have e : (rotF t).length = (Txt.slice LET (some (t : Int)) none).length + (Txt.slice LET none (some (t : Int))).length := by
      unfold rotF
      have := cs_len (Txt.slice LET (some (t : Int)) none ++ Txt.slice LET none (some (t : Int)))
      rw [cs_app, List.length_append, cs_len, cs_len] at this
      exact this.symm
    rw [← e, this]
    decide
  have L3 : (rotF t).length ≤ sizeLine := by rw [rot_len ht]; decide
  have er : Txt.slice LET (some (t : Int)) none ++ Txt.slice LET none (some (t : Int)) = rotF t := by unfold rotF; rfl
  have rng : ∀ W', evRange ((2 : Int) + (a : Int)) W' = .ok ⟨rangeD 0 (2 + a), none⟩ W' := fun W' => by rw [range_ok (by omega) (by omega), show ((2 : Int) + (a : Int)).toNat = 2 + a by omega]
  have sz : (rangeD 0 (2 + a)).length ≤ sizeLine := by rw [range_len]; exact Nat.le_trans (show 2 + a ≤ 4 by omega) (by decide)
  have fin4 : ∀ d, fin true W (.d d) (W.set p (pkO m4)) = .ok (.d d) (W.set p (pkO m4)) := fun d => fin_set (pk_flat _) d
  rw [evCall, hf]
  simp only [Res.opt_some, f_law_hands]
  generalize hz : ("abcdefghijklmnopqrstuvwxyz" : Str) = z
  have hz : z = LET := hz.symm
  rw [← hz] at L1 L2 er
  clear hz
  have hch : ∀ i : Nat, i < 26 → atI (rotF t).cps.toList (i : Int) = some ((rotF t).cps.toList.getD i 0) := fun i hi => atI_nat' (ch_at ht hi)
  have map_eq : ∀ (f : PyData → PyData), (∀ j : Nat, j < 2 + a → f (.int j) = .str (handF t q s j)) → (rangeD 0 (2 + a)).map f = (handsF t q s (2 + a)).map .str := fun f h => by
    rw [range_map f (fun j => .str (handF t q s j)) h]
    unfold handsF
    rw [List.map_map]
    rfl
  have h1len : ∀ i, (chF (rotF t) i).length = 1 := fun i => by unfold chF; rfl
  have hm8 := mid_len ht hs
  have emid : Txt.slice (rotF t) (some 4) (some (4 + (s : Int))) = midF t s := by unfold midF; rfl
  have s9 : ∀ j, (chF (rotF t) j).length + (midF t s).length ≤ sizeLine := fun j => by rw [h1len]; exact Nat.le_trans (show 1 + (midF t s).length ≤ 9 by omega) (by decide)
  have s9' : ∀ j, (midF t s).length + (chF (rotF t) j).length ≤ sizeLine := fun j => by rw [h1len]; exact Nat.le_trans (show (midF t s).length + 1 ≤ 9 by omega) (by decide)
  have h0 : atI (rotF t).cps.toList 0 = some ((rotF t).cps.toList.getD 0 0) := hch 0 (by decide)
  have ech : ∀ i, (⟨#[(rotF t).cps.toList.getD i 0]⟩ : Str) = chF (rotF t) i := fun i => by unfold chF; rfl
  have go : ∀ (r : Res El) (f : PyData → PyData), (∀ j : Nat, j < 2 + a → f (.int j) = .str (handF t q s j)) → r = .ok (.d (.list ((rangeD 0 (2 + a)).map f))) (W.set p (pkO m4)) → r = .ok (.d (.list ((handsF t q s (2 + a)).map .str))) (W.set p (pkO m4)) := fun r f h e => by rw [e, map_eq f h]
  rcases (show q = 0 ∨ q = 1 ∨ q = 2 by omega) with rfl | rfl | rfl
  · refine go _ (fun d => match d with | .int j => .str (repT (chF (rotF t) 0) (1 + (s + j.toNat) % 8)) | _ => .none) (fun j hj => by unfold handF; simp) ?_
    simp only [evN, Nat.reduceAdd, Nat.reduceSub, reduceIte, Nat.reduceEqDiff, Int.reduceEq, Int.reduceLT, Int.reduceLE, L1, L2, e1, e2, e3, e4, er, rng, Res.when, st_none, sz, cmpS]
    rw [compL_map trivial (fun d => match d with | .int j => .str (repT (chF (rotF t) 0) (1 + (s + j.toNat) % 8)) | _ => .none) _ _ (fun d hd => ?_)]
    · simp only [evN, Nat.reduceAdd, Nat.reduceSub, reduceIte, Nat.reduceEqDiff, Int.reduceEq, Int.reduceLT, Int.reduceLE, fin4]
    · obtain ⟨j, hj, rfl⟩ := range_mem hd
      have g1 : 1 ≤ (1 : Int) + ((s : Int) + (j : Int)) % 8 ∧ (1 : Int) + ((s : Int) + (j : Int)) % 8 ≤ 1000 ∧ (chF (rotF t) 0).length ≤ 1000 := ⟨by omega, by omega, by rw [h1len]; decide⟩
      have g2 : ((1 : Int) + ((s : Int) + (j : Int)) % 8).toNat = 1 + (s + ((j : Int)).toNat) % 8 := by omega
      simp only [evN, Nat.reduceAdd, Nat.reduceSub, reduceIte, Nat.reduceEqDiff, Int.reduceEq, Int.reduceLT, Int.reduceLE, cmpS, List.getElem?_cons_succ, List.getElem?_cons_zero, Option.getD_some, L3, h0, ech, g1, g2, Res.when]
  · refine go _ (fun d => match d with | .int j => .str (chF (rotF t) j.toNat ++ midF t s) | _ => .none) (fun j hj => by unfold handF; simp) ?_
    simp only [evN, Nat.reduceAdd, Nat.reduceSub, reduceIte, Nat.reduceEqDiff, Int.reduceEq, Int.reduceLT, Int.reduceLE, L1, L2, e1, e2, e3, e4, er, rng, Res.when, st_none, sz, cmpS]
    rw [compL_map trivial (fun d => match d with | .int j => .str (chF (rotF t) j.toNat ++ midF t s) | _ => .none) _ _ (fun d hd => ?_)]
    · simp only [evN, Nat.reduceAdd, Nat.reduceSub, reduceIte, Nat.reduceEqDiff, Int.reduceEq, Int.reduceLT, Int.reduceLE, fin4]
    · obtain ⟨j, hj, rfl⟩ := range_mem hd
      simp only [evN, Nat.reduceAdd, Nat.reduceSub, reduceIte, Nat.reduceEqDiff, Int.reduceEq, Int.reduceLT, Int.reduceLE, cmpS, List.getElem?_cons_succ, List.getElem?_cons_zero, Option.getD_some, L3, hch j (by omega), ech, emid, s9 j, Res.when, Int.toNat_natCast]
  · refine go _ (fun d => match d with | .int j => .str (midF t s ++ chF (rotF t) j.toNat) | _ => .none) (fun j hj => by unfold handF; simp) ?_
    simp only [evN, Nat.reduceAdd, Nat.reduceSub, reduceIte, Nat.reduceEqDiff, Int.reduceEq, Int.reduceLT, Int.reduceLE, L1, L2, e1, e2, e3, e4, er, rng, Res.when, st_none, sz, cmpS]
    rw [compL_map trivial (fun d => match d with | .int j => .str (midF t s ++ chF (rotF t) j.toNat) | _ => .none) _ _ (fun d hd => ?_)]
    · simp only [evN, Nat.reduceAdd, Nat.reduceSub, reduceIte, Nat.reduceEqDiff, Int.reduceEq, Int.reduceLT, Int.reduceLE, fin4]
    · obtain ⟨j, hj, rfl⟩ := range_mem hd
      simp only [evN, Nat.reduceAdd, Nat.reduceSub, reduceIte, Nat.reduceEqDiff, Int.reduceEq, Int.reduceLT, Int.reduceLE, cmpS, List.getElem?_cons_succ, List.getElem?_cons_zero, Option.getD_some, L3, hch j (by omega), ech, emid, s9' j, Res.when, Int.toNat_natCast]
end
end K1
namespace K1
open PySem L2
structure Lt where
  x : Str
  y : Str
  w : Str
  deriving DecidableEq
structure Lt.Ok (l : Lt) : Prop where
  x : isNm l.x = true
  y : isNm l.y = true
  w : isNm l.w = true
  ne : l.x ≠ l.y
noncomputable def lP (l : Lt) : PyData := .tuple [.str l.x, .str l.y, .str l.w]
noncomputable def same (a b : Lt) : Bool := decide (a.x = b.x ∧ a.y = b.y)
noncomputable def addF (found : List Lt) (l : Lt) : List Lt := if found.all (fun o => !same l o) then found ++ [l] else found
noncomputable def firstsF (ls : List Lt) : List Lt := ls.foldl addF []
theorem firsts_snoc (ls : List Lt) (l : Lt) : firstsF (ls ++ [l]) = addF (firstsF ls) l := by simp [firstsF]
theorem firsts_le (ls : List Lt) : (firstsF ls).length ≤ ls.length := by
  have : ∀ (ls acc : List Lt), (ls.foldl addF acc).length ≤ acc.length + ls.length := by
    intro ls
    induction ls with
    | nil => intro acc; simp
    | cons a r ih =>
      intro acc
      have h := ih (addF acc a)
      have h2 : (addF acc a).length ≤ acc.length + 1 := by
        unfold addF
        split <;> simp
      simp only [List.foldl_cons, List.length_cons]
      omega
  have := this ls []
  simpa [firstsF] using this
/-- each of the first ones is the first of its pair; each pair that waits has one -/
theorem firsts_mem : ∀ (n : Nat) (ls : List Lt), ls.length = n → (∀ l ∈ firstsF ls, ∃ pre post, ls = pre ++ l :: post ∧ ∀ o ∈ pre, same o l = false) ∧ ∀ l ∈ ls, ∃ o ∈ firstsF ls, same l o = true := by
  intro n
  induction n with
  | zero =>
    intro ls h
    have : ls = [] := List.length_eq_zero_iff.mp h
    subst this
    exact ⟨by simp [firstsF], by simp⟩
  | succ n ih =>
    intro ls h
    obtain ⟨qs, q, rfl⟩ : ∃ qs q, ls = qs ++ [q] := ⟨ls.dropLast, ls.getLast (by intro z; subst z; simp at h), (List.dropLast_concat_getLast _).symm⟩
    obtain ⟨i1, i2⟩ := ih qs (by simpa using h)
    rw [firsts_snoc]
    unfold addF
    by_cases c : (firstsF qs).all (fun o => !same q o) = true
    · rw [if_pos c]
      constructor
      · intro l hl
        rcases List.mem_append.mp hl with hl | hl
        · obtain ⟨pre, post, e, hp⟩ := i1 l hl
          exact ⟨pre, post ++ [q], by rw [e]; simp, hp⟩
        · have hl : l = q := by simpa using hl
          subst hl
          refine ⟨qs, [], rfl, fun o ho => ?_⟩
          cases hs : same o l with
          | false => rfl
          | true =>
            obtain ⟨f, hf, hof⟩ := i2 o ho
            have := List.all_eq_true.mp c f hf
            have h3 : same l f = true := by
              unfold same at *
              simp only [decide_eq_true_eq] at *
              exact ⟨hs.1.symm.trans hof.1, hs.2.symm.trans hof.2⟩
            rw [h3] at this
            simp at this
      · intro l hl
        rcases List.mem_append.mp hl with hl | hl
        · obtain ⟨f, hf, e⟩ := i2 l hl
          exact ⟨f, List.mem_append_left _ hf, e⟩
        · have hl : l = q := by simpa using hl
          subst hl
          exact ⟨l, by simp, by simp [same]⟩
    · rw [if_neg c]
      constructor
      · intro l hl
        obtain ⟨pre, post, e, hp⟩ := i1 l hl
        exact ⟨pre, post ++ [q], by rw [e]; simp, hp⟩
      · intro l hl
        rcases List.mem_append.mp hl with hl | hl
        · exact i2 l hl
        · have hl : l = q := by simpa using hl
          subst hl
          exact Classical.byContradiction fun z => c (List.all_eq_true.mpr fun o ho => by
            cases e : same l o with
            | false => rfl
            | true => exact (z ⟨o, ho, e⟩).elim)
theorem firsts_sub {ls : List Lt} {l : Lt} (h : l ∈ firstsF ls) : l ∈ ls := by
  obtain ⟨pre, post, e, _⟩ := (firsts_mem _ ls rfl).1 l h
  rw [e]; simp
theorem firsts_ne {ls : List Lt} (h : ls ≠ []) : firstsF ls ≠ [] := by
  cases ls with
  | nil => exact absurd rfl h
  | cons a r =>
    obtain ⟨o, ho, _⟩ := (firsts_mem _ (a :: r) rfl).2 a (by simp)
    intro z
    rw [z] at ho
    simp at ho
/-- the words that wait of a pair -/
noncomputable def waitW (ls : List Lt) (x y : Str) : List Str := (ls.filter fun l => decide (l.x = x ∧ l.y = y)).map (·.w)
theorem wait_send (ls : List Lt) (l : Lt) (x y : Str) : waitW (ls ++ [l]) x y = if x = l.x ∧ y = l.y then waitW ls x y ++ [l.w] else waitW ls x y := by
  unfold waitW
  rw [List.filter_append, List.map_append]
  by_cases e : x = l.x ∧ y = l.y
  · rw [if_pos e]
    simp [List.filter_cons, e.1.symm, e.2.symm]
  · rw [if_neg e]
    have : ¬ (l.x = x ∧ l.y = y) := fun z => e ⟨z.1.symm, z.2.symm⟩
    simp [List.filter_cons, this]
theorem wait_take {pre post : List Lt} {l : Lt} (hp : ∀ o ∈ pre, same o l = false) (x y : Str) : waitW (pre ++ l :: post) l.x l.y = l.w :: waitW (pre ++ post) l.x l.y ∧ (¬ (x = l.x ∧ y = l.y) → waitW (pre ++ l :: post) x y = waitW (pre ++ post) x y) := by
  have h0 : pre.filter (fun o => decide (o.x = l.x ∧ o.y = l.y)) = [] := by
    rw [List.filter_eq_nil_iff]
    intro o ho
    have := hp o ho
    unfold same at this
    simpa using this
  constructor
  · unfold waitW
    rw [List.filter_append, List.filter_append, h0]
    simp [List.filter_cons]
  · intro e
    have : ¬ (l.x = x ∧ l.y = y) := fun z => e ⟨z.1.symm, z.2.symm⟩
    unfold waitW
    rw [List.filter_append, List.filter_append]
    simp [List.filter_cons, this]
theorem run_app (ds : List Deed) (d : Deed) : runF (ds ++ [d]) = stepF (runF ds) d := by simp [runF]
theorem goes_snoc {ds : List Deed} {d : Deed} (h : Goes ds) (hc : canF (runF ds) d = true) : Goes (ds ++ [d]) := by
  intro i e he
  by_cases hi : i < ds.length
  · rw [List.getElem?_append_left hi] at he
    rw [List.take_append_of_le_length (by omega)]
    exact h i e he
  · have : i = ds.length := by
      have := (List.getElem?_eq_some_iff.mp he).1
      simp at this
      omega
    subst this
    rw [List.getElem?_append_right (Nat.le_refl _)] at he
    simp at he
    subst he
    rw [List.take_append_of_le_length (Nat.le_refl _), List.take_length]
    exact hc
theorem goes_take {ds : List Deed} (h : Goes ds) (n : Nat) : Goes (ds.take n) := by
  intro i d hd
  have hl := (List.getElem?_eq_some_iff.mp hd).1
  rw [List.length_take] at hl
  rw [List.getElem?_take_of_lt (by omega)] at hd
  rw [List.take_take, Nat.min_eq_left (by omega)]
  exact h i d hd
/-- the row and what waits behind it -/
structure Tale (ds : List Deed) (ls : List Lt) : Prop where
  ok : ∀ d ∈ ds, d.Ok
  lo : ∀ l ∈ ls, l.Ok
  go : Goes ds
  ws : ∀ x y, runF ds x y = waitW ls x y
theorem tale0 : Tale [] [] := ⟨by simp, by simp, fun i d h => by simp at h, fun x y => rfl⟩
theorem Tale.send {ds : List Deed} {ls : List Lt} (h : Tale ds ls) {l : Lt} (hl : l.Ok) : Tale (ds ++ [⟨false, l.x, l.y, l.w⟩]) (ls ++ [l]) where
  ok := fun d hd => by
    rcases List.mem_append.mp hd with hd | hd
    · exact h.ok d hd
    · simp at hd; subst hd; exact ⟨hl.x, hl.y, hl.w, hl.ne⟩
  lo := fun o ho => by
    rcases List.mem_append.mp ho with ho | ho
    · exact h.lo o ho
    · simp at ho; subst ho; exact hl
  go := goes_snoc h.go rfl
  ws := fun x y => by
    rw [run_app, wait_send]
    unfold stepF nextW
    simp only [h.ws]
    rfl
theorem Tale.take {ds : List Deed} {pre post : List Lt} {l : Lt} (h : Tale ds (pre ++ l :: post)) (hp : ∀ o ∈ pre, same o l = false) : Tale (ds ++ [⟨true, l.x, l.y, l.w⟩]) (pre ++ post) where
  ok := fun d hd => by
    have hl := h.lo l (by simp)
    rcases List.mem_append.mp hd with hd | hd
    · exact h.ok d hd
    · simp at hd; subst hd; exact ⟨hl.x, hl.y, hl.w, hl.ne⟩
  lo := fun o ho => h.lo o (by
    rcases List.mem_append.mp ho with ho | ho
    · simp [ho]
    · simp [ho])
  go := goes_snoc h.go (by
    unfold canF
    simp only [Bool.not_true, Bool.false_or, decide_eq_true_eq]
    rw [h.ws, (wait_take hp l.x l.y).1]
    rfl)
  ws := fun x y => by
    rw [run_app]
    unfold stepF nextW
    simp only [h.ws]
    by_cases e : x = l.x ∧ y = l.y
    · obtain ⟨rfl, rfl⟩ := e
      rw [if_pos ⟨rfl, rfl⟩, (wait_take hp l.x l.y).1]
      rfl
    · rw [if_neg e, (wait_take hp x y).2 e]
end K1
namespace K1
open PySem L2
theorem cut2 (l : Lt) : cutL [PyData.str l.x, .str l.y, .str l.w] none (some 2) = [.str l.x, .str l.y] := rfl
theorem dat_two {x y : Str} (hx : isNm x = true) (hy : isNm y = true) : datB (.tuple [.str x, .str y]) = true := by
  refine datB_of ⟨?_, ?_⟩
  · simp [PyData.canLay0, PyData.canLayAll0, nm_strOk hx, nm_strOk hy]
  · simp [PyData.depth, PyData.depthAll]
theorem eqv_two (x y x' y' : Str) : PyData.eqv (.tuple [.str x, .str y]) (.tuple [.str x', .str y']) = decide (x = x' ∧ y = y') := by
  simp only [PyData.eqv, PyData.eqvAll, Bool.and_true]
  rw [Bool.eq_iff_iff]
  simp
theorem dat_l {l : Lt} (h : l.Ok) : (lP l).canLay0 = true ∧ (lP l).depth ≤ 2 := by
  constructor
  · simp [lP, PyData.canLay0, PyData.canLayAll0, nm_strOk h.x, nm_strOk h.y, nm_strOk h.w]
  · simp [lP, PyData.depth, PyData.depthAll]
theorem datB_l {l : Lt} (h : l.Ok) : datB (lP l) = true := datB_of ⟨(dat_l h).1, by have := (dat_l h).2; omega⟩
theorem lay_ls : ∀ {ls : List Lt}, (∀ l ∈ ls, l.Ok) → PyData.canLayAll0 (ls.map lP) = true
  | [], _ => rfl
  | l :: ls, h => by
    simp [PyData.canLayAll0, (dat_l (h l List.mem_cons_self)).1, lay_ls fun o ho => h o (List.mem_cons_of_mem _ ho)]
theorem eqv_l (a b : Lt) : PyData.eqv (lP a) (lP b) = decide (a = b) := by
  obtain ⟨ax, ay, aw⟩ := a
  obtain ⟨bx, by_, bw⟩ := b
  simp only [lP, PyData.eqv, PyData.eqvAll, Bool.and_true]
  rw [Bool.eq_iff_iff]
  simp
theorem datas_snoc (l : List PyData) (d : PyData) : datas (l ++ [d]) = datas l ++ [.d d] := by unfold datas; simp
/-- an object behind the others -/
theorem app_get (W : Wl) (o : OD) (V : Wl) : (W ++ o :: V)[W.length]? = some o := by simp
theorem app_set (W : Wl) (o o' : OD) (V : Wl) : (W ++ o :: V).set W.length o' = W ++ o' :: V := by
  rw [List.set_append_right _ _ (Nat.le_refl _)]
  simp
section
variable {Φ : Str → Option Fn} {Γ : Str → Option PyData}
theorem firsts_ev (hf : Φ "_law_firsts" = some f_law_firsts) (k : Nat) {W : Wl} {j : Nat} {ls : List Lt} (hj : W[j]? = some (.lst (datas (ls.map lP)))) (hok : ∀ l ∈ ls, l.Ok) (hl : ls.length ≤ 1000) :
    evCall Φ Γ (k + 1) "_law_firsts" [.o j] W = .ok (.d (.list ((firstsF ls).map lP))) W := by
  have hjl : j < W.length := (List.getElem?_eq_some_iff.mp hj).1
  have z0 : 0 ≤ sizeLine := Nat.zero_le _
  have hj' : ∀ V, (W ++ V)[j]? = some (.lst (datas (ls.map lP))) := fun V => by rw [List.getElem?_append_left hjl]; exact hj
  have hle : ∀ i, (firstsF (ls.take i)).length ≤ i := by
    intro i
    induction i with
    | zero => simp [firstsF]
    | succ i ih =>
      by_cases hi : i < ls.length
      · have : ls.take (i + 1) = ls.take i ++ [ls[i]] := by rw [List.take_add_one]; simp [hi]
        rw [this, firsts_snoc]
        unfold addF
        split
        · simp; omega
        · omega
      · rw [List.take_of_length_le (by omega)] at ih ⊢
        omega
  simp only [evN, evCall, Nat.reduceAdd, Nat.reduceSub, reduceIte, Nat.reduceEqDiff, Int.reduceEq, Int.reduceLT, Int.reduceLE, hf, f_law_firsts, Res.when, z0, q_own (hj' _), st_own]
  refine forL_inv (ds := ls.map lP) (fun i S' W' => ∃ o2, S' = [some (.o j), some (.o W.length), o2] ∧ W' = W ++ [.lst (datas ((firstsF (ls.take i)).map lP))]) (fun r => fnEnd true W (r.bind fun S' W' => evSs (evCall Φ Γ k) Γ (.cons (.ret (.v 1)) .nil) S' W') = .ok (.d (.list ((firstsF ls).map lP))) W) ⟨none, rfl, rfl⟩ ?_ ?_ ?_
  · rintro i S' W' hi ⟨o2, rfl, rfl⟩
    exact hj' _
  · rintro i dd S' W' hd ⟨o2, rfl, rfl⟩
    rw [List.getElem?_map] at hd
    obtain ⟨l, hy, rfl⟩ := Option.map_eq_some_iff.mp hd
    have hlo := hok l (List.mem_of_getElem? hy)
    have hi : i < ls.length := (List.getElem?_eq_some_iff.mp hy).1
    have et : ls.take (i + 1) = ls.take i ++ [l] := by rw [List.take_add_one, hy]; rfl
    rw [et, firsts_snoc]
    have hfl := hle i
    have fok : ∀ o ∈ firstsF (ls.take i), o.Ok := fun o ho => hok o (List.mem_of_mem_take (firsts_sub ho))
    generalize firstsF (ls.take i) = fs at *
    have hg : (W ++ [OD.lst (datas (fs.map lP))])[W.length]? = some (.lst (datas (fs.map lP))) := app_get W _ []
    have sz : (fs.map lP).length ≤ sizeLine := by rw [List.length_map]; exact Nat.le_trans (show fs.length ≤ 1000 by omega) (by decide)
    have sz1 : (datas (fs.map lP)).length < sizeLine := by simp [datas]; exact Nat.lt_of_le_of_lt (show fs.length ≤ 1000 by omega) (by decide)
    have hm : (fs.map lP).map (fun d => match d with | .tuple [.str x, .str y, _] => .bool (!decide (l.x = x ∧ l.y = y)) | _ => .none) = (fs.map fun o => !same l o).map PyData.bool := by
      rw [List.map_map, List.map_map]
      rfl
    have hb : boolsD ((fs.map fun o => !same l o).map .bool) = some (fs.map fun o => !same l o) := boolsD_map _
    have hall : (fs.map fun o => !same l o).all id = fs.all fun o => !same l o := by rw [List.all_map]; rfl
    by_cases c : (fs.all fun o => !same l o) = true
    · refine .inl ⟨[some (.o j), some (.o W.length), some (.d (lP l))], W ++ [.lst (datas ((addF fs l).map lP))], ?_, _, rfl, rfl⟩
      simp only [evN, Nat.reduceAdd, Nat.reduceSub, reduceIte, Nat.reduceEqDiff, Int.reduceEq, Int.reduceLT, Int.reduceLE, q_own hg, st_own, Res.when, sz]
      rw [compL_map hg (fun d => match d with | .tuple [.str x, .str y, _] => .bool (!decide (l.x = x ∧ l.y = y)) | _ => .none) _ _ (fun d hd => ?_), hm]
      · simp only [evN, Nat.reduceAdd, Nat.reduceSub, reduceIte, Nat.reduceEqDiff, Int.reduceEq, Int.reduceLT, Int.reduceLE, hb, hall, c, t_app hg, m_app hg sz1, app_set, addF, List.map_append, datas_snoc, Res.when]
      · obtain ⟨o, ho, rfl⟩ := List.mem_map.mp hd
        have oo := fok o ho
        simp only [lP]
        simp only [evN, Nat.reduceAdd, Nat.reduceSub, reduceIte, Nat.reduceEqDiff, Int.reduceEq, Int.reduceLT, Int.reduceLE, cmpS, List.getElem?_cons_succ, List.getElem?_cons_zero, Option.getD_some, cut2, c_neT (dat_two hlo.x hlo.y) (dat_two oo.x oo.y), eqv_two]
    · have c' : (fs.all fun o => !same l o) = false := by simpa using c
      refine .inl ⟨[some (.o j), some (.o W.length), some (.d (lP l))], W ++ [.lst (datas ((addF fs l).map lP))], ?_, _, rfl, rfl⟩
      simp only [evN, Nat.reduceAdd, Nat.reduceSub, reduceIte, Nat.reduceEqDiff, Int.reduceEq, Int.reduceLT, Int.reduceLE, q_own hg, st_own, Res.when, sz]
      rw [compL_map hg (fun d => match d with | .tuple [.str x, .str y, _] => .bool (!decide (l.x = x ∧ l.y = y)) | _ => .none) _ _ (fun d hd => ?_), hm]
      · simp only [evN, Nat.reduceAdd, Nat.reduceSub, reduceIte, Nat.reduceEqDiff, Int.reduceEq, Int.reduceLT, Int.reduceLE, hb, hall, c', addF]
      · obtain ⟨o, ho, rfl⟩ := List.mem_map.mp hd
        have oo := fok o ho
        simp only [lP]
        simp only [evN, Nat.reduceAdd, Nat.reduceSub, reduceIte, Nat.reduceEqDiff, Int.reduceEq, Int.reduceLT, Int.reduceLE, cmpS, List.getElem?_cons_succ, List.getElem?_cons_zero, Option.getD_some, cut2, c_neT (dat_two hlo.x hlo.y) (dat_two oo.x oo.y), eqv_two]
  · rintro S' W' ⟨o2, rfl, rfl⟩
    rw [List.length_map, List.take_length]
    simp only [evN, Nat.reduceAdd, Nat.reduceSub, reduceIte, Nat.reduceEqDiff, Int.reduceEq, Int.reduceLT, Int.reduceLE]
    exact fin_l (Nat.le_refl _) (app_get W _ [])
end
end K1
namespace K1
open PySem L2
noncomputable def St (W : Wl) (p : Nat) (m : Int) (ds : List Deed) (ls : List Lt) : Wl := W.set p (pkO m) ++ [.lst (datas (ds.map dP)), .lst (datas (ls.map lP))]
section
variable {W : Wl} {p : Nat} {m m' : Int} {ds : List Deed} {ls : List Lt}
theorem St_p (hp : p < W.length) : (St W p m ds ls)[p]? = some (pkO m) := by
  unfold St
  rw [List.getElem?_append_left (by simpa using hp), List.getElem?_set_self hp]
theorem St_r : (St W p m ds ls)[W.length]? = some (.lst (datas (ds.map dP))) := by
  unfold St
  rw [List.getElem?_append_right (by simp)]
  simp
theorem St_v : (St W p m ds ls)[W.length + 1]? = some (.lst (datas (ls.map lP))) := by
  unfold St
  rw [List.getElem?_append_right (by simp)]
  simp
theorem St_sp (hp : p < W.length) : (St W p m ds ls).set p (pkO m') = St W p m' ds ls := by
  unfold St
  rw [List.set_append_left _ _ (by simpa using hp)]
  simp
theorem St_sr (d : Deed) : (St W p m ds ls).set W.length (.lst (datas (ds.map dP) ++ [.d (dP d)])) = St W p m (ds ++ [d]) ls := by
  unfold St
  rw [List.set_append_right _ _ (by simp)]
  simp [datas]
theorem St_sv (ls' : List Lt) : (St W p m ds ls).set (W.length + 1) (.lst (datas (ls'.map lP))) = St W p m ds ls' := by
  unfold St
  rw [List.set_append_right _ _ (by simp)]
  simp
theorem St_fin (hp : p < W.length) (d : PyData) : fin true W (.d d) (St W p m ds ls) = .ok (.d d) (W.set p (pkO m)) := by
  unfold fin St
  rw [if_pos rfl, Res.whenC_pos ?_]
  · show Res.ok (El.d d) ((W.set p (pkO m) ++ _).take W.length) = _
    rw [List.take_append_of_le_length (by simp), List.take_of_length_le (by simp)]
  · intro i hi
    rw [List.getElem?_append_left (by simpa using hi)]
    by_cases h : p = i
    · subst h
      exact .inr ⟨pkO m, by rw [List.getElem?_set_self hi], pk_flat m⟩
    · exact .inl (by rw [List.getElem?_set_ne h])
end
noncomputable def wordsS : List Str := ["x", "yes", "no", "go", "xy", "abcdefgh"]
theorem words_nm : ∀ x ∈ wordsS, isNm x = true := by decide +kernel
theorem dat_ll : ∀ {ls : List Lt}, (∀ l ∈ ls, l.Ok) → datB (.list (ls.map lP)) = true := fun {ls} h => by
  refine datB_of ⟨by simp [PyData.canLay0, lay_ls h], ?_⟩
  have : ∀ {ls : List Lt}, (∀ l ∈ ls, l.Ok) → PyData.depthAll (ls.map lP) ≤ 2 := by
    intro ls
    induction ls with
    | nil => intro _; simp [PyData.depthAll]
    | cons a r ih =>
      intro h
      have h1 := (dat_l (h a List.mem_cons_self)).2
      have h2 := ih fun o ho => h o (List.mem_cons_of_mem _ ho)
      simp only [List.map_cons, PyData.depthAll]
      omega
  have := this h
  simp only [PyData.depth]
  omega
theorem eqv_nil (ls : List Lt) : PyData.eqv (.list (ls.map lP)) (.list []) = ls.isEmpty := by
  cases ls <;> simp [PyData.eqv, PyData.eqvAll]
theorem sendP (l : Lt) (W : Wl) : evOp .Add (.d (.tuple [.str "send"])) (.d (lP l)) W = .ok (.d (dP ⟨false, l.x, l.y, l.w⟩)) W := by
  simp only [lP]
  rw [o_catt, Res.when_pos (by show 1 + 3 ≤ sizeLine; decide)]
  rfl
theorem takeP (l : Lt) (W : Wl) : evOp .Add (.d (.tuple [.str "take"])) (.d (lP l)) W = .ok (.d (dP ⟨true, l.x, l.y, l.w⟩)) W := by
  simp only [lP]
  rw [o_catt, Res.when_pos (by show 1 + 3 ≤ sizeLine; decide)]
  rfl
section
variable {Φ : Str → Option Fn} {Γ : Str → Option PyData}
/-- what the law's own stories want of the table -/
structure PStory (Φ : Str → Option Fn) : Prop where
  take : Φ "_law_take" = some f_law_take
  firsts : Φ "_law_firsts" = some f_law_firsts
  story : Φ "_law_story" = some f_law_story
theorem find_first {pre post : List Lt} {l : Lt} (hp : ∀ o ∈ pre, same o l = false) : ((pre ++ l :: post).map lP).findIdx? (fun z => PyData.eqv z (lP l)) = some pre.length := by
  rw [List.findIdx?_map]
  have e : ((fun z => PyData.eqv z (lP l)) ∘ lP) = fun o => decide (o = l) := by funext o; exact eqv_l o l
  rw [e, List.findIdx?_append]
  have h0 : pre.findIdx? (fun o => decide (o = l)) = none := by
    rw [List.findIdx?_eq_none_iff]
    intro o ho
    refine decide_eq_false fun z => ?_
    subst z
    have := hp o ho
    simp [same] at this
  rw [h0]
  simp [List.findIdx?_cons]
theorem erase_first (pre post : List Lt) (l : Lt) : ((pre ++ l :: post).map lP).eraseIdx pre.length = (pre ++ post).map lP := by
  rw [List.map_append, List.eraseIdx_append_of_length_le (by simp)]
  simp
set_option maxHeartbeats 2000000 in
theorem story_ev (P : PStory Φ) (k : Nat) {W : Wl} {p : Nat} {m : Int} {hs : List Str} {most : Nat} (m0 : 0 ≤ m) (hp : W[p]? = some (pkO m)) (hn : ∀ x ∈ hs, isNm x = true) (hnd : hs.Nodup) (h2 : 2 ≤ hs.length) (h4 : hs.length ≤ 100) (hm : most ≤ 100) :
    ∃ (ds : List Deed) (m' : Int), 0 ≤ m' ∧ (∀ d ∈ ds, d.Ok) ∧ Goes ds ∧ ds.length ≤ 2 * most ∧ evCall Φ Γ (k + 2) "_law_story" [.o p, .d (.list (hs.map .str)), .d (.int most)] W = .ok (.d (rP ds)) (W.set p (pkO m')) := by
  have hpl : p < W.length := (List.getElem?_eq_some_iff.mp hp).1
  obtain ⟨many, m1, p1, hmany, e1⟩ := draw_ev (Γ := Γ) P.take k m0 hp (n := (most : Int) + 1) (by omega)
  have z6 : 6 ≤ sizeLine := by decide
  have z0 : 0 ≤ sizeLine := Nat.zero_le _
  have rng : ∀ W', evRange (2 * (many : Int)) W' = .ok ⟨rangeD 0 (2 * many), none⟩ W' := fun W' => by rw [range_ok (by omega) (by omega), show (2 * (many : Int)).toNat = 2 * many by omega]
  have hb2 : bitsOf 2 + bitsOf (many : Int) ≤ 100000000 := by
    have h1 : bitsOf 2 ≤ 20 := bits_of (by decide)
    have h2 : bitsOf (many : Int) ≤ 20 := bits_of (by simp; omega)
    omega
  have es : W.set p (pkO m1) ++ [OD.lst []] ++ [OD.lst []] = St W p m1 [] [] := by unfold St; simp [datas]
  have el : (W.set p (pkO m1) ++ [OD.lst []]).length = W.length + 1 := by simp
  have el0 : (W.set p (pkO m1)).length = W.length := by simp
  rw [evCall]
  simp only [evN, Nat.reduceAdd, Nat.reduceSub, reduceIte, Nat.reduceEqDiff, Int.reduceEq, Int.reduceLT, Int.reduceLE, P.story, f_law_story, Res.when, z6, z0, e1, hb2, rng, es, el, el0, st_none]
  have big : ∀ {n : Nat}, n ≤ 1000 → n < sizeLine := fun h => Nat.lt_of_le_of_lt h (by decide)
  refine forL_inv (ds := rangeD 0 (2 * many)) (fun i S' W' => ∃ (m : Int) (ds : List Deed) (ls : List Lt) (sent : Nat) (o8 o9 o10 o11 o12 : Option El), 0 ≤ m ∧ S' = [some (.o p), some (.d (.list (hs.map .str))), some (.d (.int most)), some (.d (.list (wordsS.map .str))), some (.d (.int many)), some (.o W.length), some (.o (W.length + 1)), some (.d (.int sent)), o8, o9, o10, o11, o12] ∧ W' = St W p m ds ls ∧ Tale ds ls ∧ ds.length = i ∧ sent ≤ many ∧ ls.length + i = 2 * sent)
    (fun r => ∃ (ds : List Deed) (m' : Int), 0 ≤ m' ∧ (∀ d ∈ ds, d.Ok) ∧ Goes ds ∧ ds.length ≤ 2 * most ∧ fnEnd true W (r.bind fun S' W' => evSs (evCall Φ Γ (k + 1)) Γ (.cons (.ret (.bi .tuple (.cons (.v 5) .nil))) .nil) S' W') = .ok (.d (rP ds)) (W.set p (pkO m')))
    ⟨m1, [], [], 0, none, none, none, none, none, p1, rfl, rfl, tale0, rfl, Nat.zero_le _, rfl⟩ (fun _ _ _ _ _ => trivial) ?_ ?_
  · rintro i dd S' W' hd ⟨m, ds, ls, sent, o8, o9, o10, o11, o12, m0, rfl, rfl, hT, hdl, hsm, hsl⟩
    have hi : i < 2 * many := by have := (List.getElem?_eq_some_iff.mp hd).1; rwa [range_len] at this
    have ef := firsts_ev (Γ := Γ) P.firsts k (St_v (W := W) (p := p) (m := m) (ds := ds) (ls := ls)) hT.lo (by omega)
    have fok : ∀ o ∈ firstsF ls, o.Ok := fun o ho => hT.lo o (firsts_sub ho)
    have feq : ∀ W', evCmp .Eq (.d (.list ((firstsF ls).map lP))) (.d (.list [])) W' = some (firstsF ls).isEmpty := fun W' => by rw [c_eqL (dat_ll fok) (by decide +kernel), eqv_nil]
    -- a letter is sent
    have sendS : ∀ (m : Int), 0 ≤ m → sent < many → ∀ (o8 o9 o10 o11 o12 : Option El), ∃ (m' : Int) (l : Lt) (o10' o11' o12' : Option El), 0 ≤ m' ∧ l.Ok ∧ evSs (evCall Φ Γ (k + 1)) Γ (match f_law_story.body with | .cons _ (.cons _ (.cons _ (.cons _ (.cons _ (.cons (.for_ _ _ (.cons _ (.cons (.ifs _ b _) _))) _))))) => b | _ => .nil) [some (.o p), some (.d (.list (hs.map .str))), some (.d (.int most)), some (.d (.list (wordsS.map .str))), some (.d (.int many)), some (.o W.length), some (.o (W.length + 1)), some (.d (.int sent)), o8, o9, o10, o11, o12] (St W p m ds ls)
        = .nx [some (.o p), some (.d (.list (hs.map .str))), some (.d (.int most)), some (.d (.list (wordsS.map .str))), some (.d (.int many)), some (.o W.length), some (.o (W.length + 1)), some (.d (.int ((sent + 1 : Nat) : Int))), o8, o9, o10', o11', o12'] (St W p m' (ds ++ [⟨false, l.x, l.y, l.w⟩]) (ls ++ [l])) := by
      intro m m0 hs1 o8 o9 o10 o11 o12
      obtain ⟨a, ma, pa, ha, ea⟩ := draw_ev (Γ := Γ) P.take k m0 (St_p (W := W) (p := p) (m := m) (ds := ds) (ls := ls) hpl) (n := (hs.length : Int)) (by omega)
      rw [St_sp hpl] at ea
      obtain ⟨b, mb, pb, hb, eb⟩ := draw_ev (Γ := Γ) P.take k pa (St_p (W := W) (p := p) (m := ma) (ds := ds) (ls := ls) hpl) (n := (hs.length : Int) - 1) (by omega)
      rw [St_sp hpl] at eb
      obtain ⟨w, mw, pw, hw, ew⟩ := draw_ev (Γ := Γ) P.take k pb (St_p (W := W) (p := p) (m := mb) (ds := ds) (ls := ls) hpl) (n := 6) (by omega)
      rw [St_sp hpl] at ew
      have ha : a < hs.length := by omega
      have hb : b + 1 < hs.length := by omega
      have hw : w < wordsS.length := by show w < 6; omega
      have ht : (a + 1 + b) % hs.length < hs.length := Nat.mod_lt _ (by omega)
      have hne : (a + 1 + b) % hs.length ≠ a := by
        by_cases c : a + 1 + b < hs.length
        · rw [Nat.mod_eq_of_lt c]; omega
        · rw [Nat.mod_eq_sub_mod (by omega), Nat.mod_eq_of_lt (by omega)]; omega
      have et : ((a : Int) + 1 + (b : Int)) % (hs.length : Int) = (((a + 1 + b) % hs.length : Nat) : Int) := by push_cast; rfl
      have i1 : atI (hs.map PyData.str) (a : Int) = some (.str hs[a]) := atI_nat' (by simp [ha])
      have i2 : atI (hs.map PyData.str) (((a + 1 + b) % hs.length : Nat) : Int) = some (.str (hs[(a + 1 + b) % hs.length]'ht)) := atI_nat' (by simp [ht])
      have i3 : atI (wordsS.map PyData.str) (w : Int) = some (.str wordsS[w]) := atI_nat' (by simp [hw])
      have hl0 : (0 : Int) < (hs.length : Int) := by omega
      have s1 : (datas (ds.map dP)).length < sizeLine := by simp [datas]; exact big (by omega)
      have s2 : (datas (ls.map lP)).length < sizeLine := by simp [datas]; exact big (by omega)
      have z3 : 3 ≤ sizeLine := by decide
      have z1 : 1 ≤ sizeLine := by decide
      have z4 : 1 + 3 ≤ sizeLine := by decide
      generalize hx : hs[a] = x at i1
      generalize hy : hs[(a + 1 + b) % hs.length]'ht = y at i2
      generalize hz : wordsS[w] = z at i3
      have hxy : x ≠ y := fun e => hne (by
        rw [← hx, ← hy] at e
        exact ((List.getElem_inj hnd).mp e).symm)
      have lok : Lt.Ok ⟨x, y, z⟩ := ⟨hn x (hx ▸ List.getElem_mem ha), hn y (hy ▸ List.getElem_mem ht), words_nm z (hz ▸ List.getElem_mem hw), hxy⟩
      have d1 : (PyData.tuple [.str "send", .str x, .str y, .str z]) = dP ⟨false, x, y, z⟩ := rfl
      have l1 : (PyData.tuple [.str x, .str y, .str z]) = lP ⟨x, y, z⟩ := rfl
      have r1 := m_app (St_r (W := W) (p := p) (m := mw) (ds := ds) (ls := ls)) s1 (.d (dP ⟨false, x, y, z⟩))
      rw [St_sr] at r1
      have v1 := m_app (St_v (W := W) (p := p) (m := mw) (ds := ds ++ [⟨false, x, y, z⟩]) (ls := ls)) s2 (.d (lP ⟨x, y, z⟩))
      rw [← datas_snoc, show ls.map lP ++ [lP (⟨x, y, z⟩ : Lt)] = (ls ++ [(⟨x, y, z⟩ : Lt)]).map lP by simp, St_sv] at v1
      refine ⟨mw, ⟨x, y, z⟩, some (.d (.int a)), some (.d (.int (((a + 1 + b) % hs.length : Nat) : Int))), some (.d (lP ⟨x, y, z⟩)), pw, lok, ?_⟩
      simp only [f_law_story]
      simp only [evN, Nat.reduceAdd, Nat.reduceSub, reduceIte, Nat.reduceEqDiff, Int.reduceEq, Int.reduceLT, Int.reduceLE, List.length_map, ea, eb, ew, et, hl0, i1, i2, i3, Res.when, z3, z1, l1, sendP, t_app St_r, t_app St_v, r1, v1]
      rfl
    -- a letter is taken
    have takeS : ∀ (m : Int), 0 ≤ m → firstsF ls ≠ [] → ∀ (o8 o10 o11 o12 : Option El), ∃ (m' : Int) (ls' : List Lt) (l : Lt), 0 ≤ m' ∧ Tale (ds ++ [⟨true, l.x, l.y, l.w⟩]) ls' ∧ ls'.length + 1 = ls.length ∧ evSs (evCall Φ Γ (k + 1)) Γ (match f_law_story.body with | .cons _ (.cons _ (.cons _ (.cons _ (.cons _ (.cons (.for_ _ _ (.cons _ (.cons (.ifs _ _ b) _))) _))))) => b | _ => .nil) [some (.o p), some (.d (.list (hs.map .str))), some (.d (.int most)), some (.d (.list (wordsS.map .str))), some (.d (.int many)), some (.o W.length), some (.o (W.length + 1)), some (.d (.int sent)), o8, some (.d (.list ((firstsF ls).map lP))), o10, o11, o12] (St W p m ds ls)
        = .nx [some (.o p), some (.d (.list (hs.map .str))), some (.d (.int most)), some (.d (.list (wordsS.map .str))), some (.d (.int many)), some (.o W.length), some (.o (W.length + 1)), some (.d (.int sent)), o8, some (.d (.list ((firstsF ls).map lP))), o10, o11, some (.d (lP l))] (St W p m' (ds ++ [⟨true, l.x, l.y, l.w⟩]) ls') := by
      intro m m0 hne o8 o10 o11 o12
      have hfl : 0 < (firstsF ls).length := List.length_pos_iff.mpr hne
      have hfle := firsts_le ls
      have z1 : 1 ≤ sizeLine := by decide
      obtain ⟨a, ma, pa, ha, ea⟩ := draw_ev (Γ := Γ) P.take k m0 (St_p (W := W) (p := p) (m := m) (ds := ds) (ls := ls) hpl) (n := ((firstsF ls).length : Int)) (by omega)
      rw [St_sp hpl] at ea
      have ha : a < (firstsF ls).length := by omega
      have i1 : atI ((firstsF ls).map lP) (a : Int) = some (lP (firstsF ls)[a]) := atI_nat' (by simp [ha])
      have hmem : (firstsF ls)[a] ∈ firstsF ls := List.getElem_mem ha
      generalize (firstsF ls)[a] = l at i1 hmem
      obtain ⟨pre, post, e, hpre⟩ := (firsts_mem _ ls rfl).1 l hmem
      have s1 : (datas (ds.map dP)).length < sizeLine := by simp [datas]; exact big (by omega)
      have r1 := m_app (St_r (W := W) (p := p) (m := ma) (ds := ds) (ls := ls)) s1 (.d (dP ⟨true, l.x, l.y, l.w⟩))
      rw [St_sr] at r1
      have lok := fok l hmem
      have v1 := m_rem (m := pre.length) (St_v (W := W) (p := p) (m := ma) (ds := ds ++ [⟨true, l.x, l.y, l.w⟩]) (ls := ls)) (lay_ls hT.lo) (datB_l lok) (by simp; exact Nat.le_of_lt (big (by omega))) (by rw [e]; exact find_first hpre)
      rw [show (ls.map lP).eraseIdx pre.length = (pre ++ post).map lP by rw [e]; exact erase_first pre post l, St_sv] at v1
      refine ⟨ma, pre ++ post, l, pa, Tale.take (by rw [← e]; exact hT) hpre, by rw [e]; simp; omega, ?_⟩
      simp only [f_law_story]
      simp only [evN, Nat.reduceAdd, Nat.reduceSub, reduceIte, Nat.reduceEqDiff, Int.reduceEq, Int.reduceLT, Int.reduceLE, List.length_map, ea, i1, Res.when, z1, takeP, t_app St_r, t_rem St_v, r1, v1]
    have fin1 : ∀ (m : Int), 0 ≤ m → sent < many → ∀ o9, ∃ S2 W2, evSs (evCall Φ Γ (k + 1)) Γ (match f_law_story.body with | .cons _ (.cons _ (.cons _ (.cons _ (.cons _ (.cons (.for_ _ _ (.cons _ (.cons (.ifs _ b _) _))) _))))) => b | _ => .nil) [some (.o p), some (.d (.list (hs.map .str))), some (.d (.int most)), some (.d (.list (wordsS.map .str))), some (.d (.int many)), some (.o W.length), some (.o (W.length + 1)), some (.d (.int sent)), some (.d dd), o9, o10, o11, o12] (St W p m ds ls) = .nx S2 W2 ∧
        ∃ (m : Int) (ds : List Deed) (ls : List Lt) (sent : Nat) (o8 o9 o10 o11 o12 : Option El), 0 ≤ m ∧ S2 = [some (.o p), some (.d (.list (hs.map .str))), some (.d (.int most)), some (.d (.list (wordsS.map .str))), some (.d (.int many)), some (.o W.length), some (.o (W.length + 1)), some (.d (.int sent)), o8, o9, o10, o11, o12] ∧ W2 = St W p m ds ls ∧ Tale ds ls ∧ ds.length = i + 1 ∧ sent ≤ many ∧ ls.length + (i + 1) = 2 * sent := fun m m0 hlt o9 => by
      obtain ⟨m', l, a10, a11, a12, q0, lok, e⟩ := sendS m m0 hlt (some (.d dd)) o9 o10 o11 o12
      exact ⟨_, _, e, m', _, _, sent + 1, _, _, _, _, _, q0, rfl, rfl, hT.send lok, by simp [hdl], by omega, by simp; omega⟩
    have fin2 : ∀ (m : Int), 0 ≤ m → firstsF ls ≠ [] → ∃ S2 W2, evSs (evCall Φ Γ (k + 1)) Γ (match f_law_story.body with | .cons _ (.cons _ (.cons _ (.cons _ (.cons _ (.cons (.for_ _ _ (.cons _ (.cons (.ifs _ _ b) _))) _))))) => b | _ => .nil) [some (.o p), some (.d (.list (hs.map .str))), some (.d (.int most)), some (.d (.list (wordsS.map .str))), some (.d (.int many)), some (.o W.length), some (.o (W.length + 1)), some (.d (.int sent)), some (.d dd), some (.d (.list ((firstsF ls).map lP))), o10, o11, o12] (St W p m ds ls) = .nx S2 W2 ∧
        ∃ (m : Int) (ds : List Deed) (ls : List Lt) (sent : Nat) (o8 o9 o10 o11 o12 : Option El), 0 ≤ m ∧ S2 = [some (.o p), some (.d (.list (hs.map .str))), some (.d (.int most)), some (.d (.list (wordsS.map .str))), some (.d (.int many)), some (.o W.length), some (.o (W.length + 1)), some (.d (.int sent)), o8, o9, o10, o11, o12] ∧ W2 = St W p m ds ls ∧ Tale ds ls ∧ ds.length = i + 1 ∧ sent ≤ many ∧ ls.length + (i + 1) = 2 * sent := fun m m0 hne => by
      obtain ⟨m', ls', l, q0, hT', hll, e⟩ := takeS m m0 hne (some (.d dd)) o10 o11 o12
      exact ⟨_, _, e, m', _, _, sent, _, _, _, _, _, q0, rfl, rfl, hT', by simp [hdl], by omega, by omega⟩
    refine .inl ?_
    by_cases c1 : sent < many
    · have c1' : ((sent : Int) < (many : Int)) = True := by simp; omega
      by_cases c2 : firstsF ls = []
      · obtain ⟨S2, W2, e, q⟩ := fin1 m m0 c1 (some (.d (.list ((firstsF ls).map lP))))
        refine ⟨S2, W2, ?_, q⟩
        have c2' : (firstsF ls).isEmpty = true := by rw [c2]; rfl
        simp only [f_law_story] at e
        simp only [evN, Nat.reduceAdd, Nat.reduceSub, reduceIte, Nat.reduceEqDiff, Int.reduceEq, Int.reduceLT, Int.reduceLE, Res.when, z6, z0] at e
        simp only [evN, Nat.reduceAdd, Nat.reduceSub, reduceIte, Nat.reduceEqDiff, Int.reduceEq, Int.reduceLT, Int.reduceLE, ef, c1', feq, c2', e]
      · have c2' : (firstsF ls).isEmpty = false := by
          cases h : firstsF ls with
          | nil => exact absurd h c2
          | cons _ _ => rfl
        obtain ⟨b, mb, pb, hb, eb⟩ := draw_ev (Γ := Γ) P.take k m0 (St_p (W := W) (p := p) (m := m) (ds := ds) (ls := ls) hpl) (n := 2) (by decide)
        rw [St_sp hpl] at eb
        by_cases c3 : b = 0
        · subst c3
          obtain ⟨S2, W2, e, q⟩ := fin1 mb pb c1 (some (.d (.list ((firstsF ls).map lP))))
          refine ⟨S2, W2, ?_, q⟩
          simp only [f_law_story] at e
          simp only [evN, Nat.reduceAdd, Nat.reduceSub, reduceIte, Nat.reduceEqDiff, Int.reduceEq, Int.reduceLT, Int.reduceLE, Res.when, z6, z0] at e
          simp only [evN, Nat.reduceAdd, Nat.reduceSub, reduceIte, Nat.reduceEqDiff, Int.reduceEq, Int.reduceLT, Int.reduceLE, ef, c1', feq, c2', eb, e]
        · have c3' : ((b : Int) = 0) = False := by simp; omega
          obtain ⟨S2, W2, e, q⟩ := fin2 mb pb c2
          refine ⟨S2, W2, ?_, q⟩
          simp only [f_law_story] at e
          simp only [evN, Nat.reduceAdd, Nat.reduceSub, reduceIte, Nat.reduceEqDiff, Int.reduceEq, Int.reduceLT, Int.reduceLE, Res.when, z6, z0] at e
          simp only [evN, Nat.reduceAdd, Nat.reduceSub, reduceIte, Nat.reduceEqDiff, Int.reduceEq, Int.reduceLT, Int.reduceLE, ef, c1', feq, c2', eb, c3', e]
    · have c1' : ((sent : Int) < (many : Int)) = False := by simp; omega
      have hlne : ls ≠ [] := fun z => by rw [z] at hsl; simp at hsl; omega
      obtain ⟨S2, W2, e, q⟩ := fin2 m m0 (firsts_ne hlne)
      refine ⟨S2, W2, ?_, q⟩
      simp only [f_law_story] at e
      simp only [evN, Nat.reduceAdd, Nat.reduceSub, reduceIte, Nat.reduceEqDiff, Int.reduceEq, Int.reduceLT, Int.reduceLE, Res.when, z6, z0] at e
      simp only [evN, Nat.reduceAdd, Nat.reduceSub, reduceIte, Nat.reduceEqDiff, Int.reduceEq, Int.reduceLT, Int.reduceLE, ef, c1', e]
  · rintro S' W' ⟨m, ds, ls, sent, o8, o9, o10, o11, o12, m0, rfl, rfl, hT, hdl, hsm, hsl⟩
    rw [range_len] at hdl
    refine ⟨ds, m, m0, hT.ok, hT.go, by omega, ?_⟩
    simp only [evN, Nat.reduceAdd, Nat.reduceSub, reduceIte, Nat.reduceEqDiff, Int.reduceEq, Int.reduceLT, Int.reduceLE, l_own St_r]
    exact St_fin hpl _
end
end K1
namespace K1
open PySem L2
noncomputable def pairB (kd x y : Str) : PyData → Bool
  | .tuple [.str a, .str b, .str c, _] => decide (a = kd) && decide (b = x ∧ c = y)
  | _ => false
theorem sent_len (ds : List Deed) (x y : Str) : (((ds.map dP).filter (pairB "send" x y)).map id).length = sentN ds x y := by
  rw [List.length_map, List.filter_map, List.length_map]
  unfold sentN
  congr 2
  funext d
  show (decide (d.kd = "send") && decide (d.x = x ∧ d.y = y)) = _
  rw [dec_kd]
  rfl
theorem dec_kt {d : Deed} : decide (d.kd = "take") = d.tk := by
  unfold Deed.kd
  cases d.tk
  · exact decide_eq_false (by decide +kernel)
  · exact decide_eq_true rfl
theorem taken_len (ds : List Deed) (x y : Str) : (((ds.map dP).filter (pairB "take" x y)).map id).length = takenN ds x y := by
  rw [List.length_map, List.filter_map, List.length_map]
  unfold takenN
  congr 2
  funext d
  show (decide (d.kd = "take") && decide (d.x = x ∧ d.y = y)) = _
  rw [dec_kt]
  rfl
theorem s_dP (d : Deed) (W : Wl) : evSl (.d (dP d)) (some 1) (some 3) W = .ok (.d (.tuple [.str d.x, .str d.y])) W := rfl
theorem x_dP0 (d : Deed) (W : Wl) : evIx (.d (dP d)) (.d (.int 0)) W = .ok (.d (.str d.kd)) W := by
  simp only [dP, x_tup, at0, Res.opt_some]
structure PLaw20 (Φ : Str → Option Fn) (Γ : Str → Option PyData) : Prop extends PRooms Φ Γ, PStory Φ where
  mixed : Φ "_law_mixed" = some f_law_mixed
  pack : Φ "_law_pack" = some f_law_pack
  hands : Φ "_law_hands" = some f_law_hands
  mostw : Φ "_law_most_under_way" = some f_law_most_under_way
  right : Φ "_law_right" = some f_law_right
  law : Φ "law" = some f_law
section
variable {Φ : Str → Option Fn} {Γ : Str → Option PyData}
theorem most_ev (hf : Φ "_law_most_under_way" = some f_law_most_under_way) (k : Nat) {W : Wl} {ds : List Deed} (hok : ∀ d ∈ ds, d.Ok) (hl : ds.length ≤ 900) (hg : Goes ds) :
    evCall Φ Γ (k + 1) "_law_most_under_way" [.d (rP ds)] W = .ok (.d (.int (mostN ds ds.length))) W := by
  have rng : ∀ W', evRange (ds.length : Int) W' = .ok ⟨rangeD 0 ds.length, none⟩ W' := fun W' => by rw [range_ok (by omega) (by omega), Int.toNat_natCast]
  simp only [rP]
  simp only [evN, evCall, Nat.reduceAdd, Nat.reduceSub, reduceIte, Nat.reduceEqDiff, Int.reduceEq, Int.reduceLT, Int.reduceLE, hf, f_law_most_under_way, Res.when, List.length_map, rng, st_none]
  refine forL_inv (ds := rangeD 0 ds.length) (fun i S' W' => ∃ o2 o3 o4 o5, S' = [some (.d (.tuple (ds.map dP))), some (.d (.int (mostN ds i))), o2, o3, o4, o5] ∧ W' = W) (fun r => fnEnd true W (r.bind fun S' W' => evSs (evCall Φ Γ k) Γ (.cons (.ret (.v 1)) .nil) S' W') = .ok (.d (.int (mostN ds ds.length))) W) ⟨none, none, none, none, rfl, rfl⟩ (fun _ _ _ _ _ => trivial) ?_ ?_
  · rintro i dd S' W' hd ⟨o2, o3, o4, o5, rfl, rfl⟩
    have hi : i < ds.length := by have := (List.getElem?_eq_some_iff.mp hd).1; rwa [range_len] at this
    rw [rangeD_get hi] at hd
    cases hd
    obtain ⟨d, hy⟩ : ∃ d, ds[i]? = some d := ⟨ds[i], by simp [hi]⟩
    have hdk := hok d (List.mem_of_getElem? hy)
    have i1 : atI (ds.map dP) (i : Int) = some (dP d) := atI_nat' (by simp [hy])
    have e1 : cutL (ds.map dP) none (some ((i : Int) + 1)) = (ds.take (i + 1)).map dP := by
      have : ((i : Int) + 1) = ((i + 1 : Nat) : Int) := rfl
      rw [this, List.map_take]
      exact cut_to _ (i + 1)
    have sz : ((ds.take (i + 1)).map dP).length ≤ sizeLine := by
      rw [List.length_map, List.length_take]
      exact Nat.le_trans (show min (i + 1) ds.length ≤ 900 by omega) (by decide)
    have hmx : mostN ds (i + 1) = if (sentN (ds.take (i + 1)) d.x d.y : Int) - takenN (ds.take (i + 1)) d.x d.y > mostN ds i then (sentN (ds.take (i + 1)) d.x d.y : Int) - takenN (ds.take (i + 1)) d.x d.y else mostN ds i := by
      rw [← run_take (by omega) hg]
      show (match ds[i]? with | some d => _ | none => _) = _
      rw [hy]
    refine .inl ⟨[some (.d (.tuple (ds.map dP))), some (.d (.int (mostN ds (i + 1)))), some (.d (.int i)), some (.d (.tuple [.str d.x, .str d.y])), some (.d (.int (sentN (ds.take (i + 1)) d.x d.y))), some (.d (.int (takenN (ds.take (i + 1)) d.x d.y)))], W', ?_, _, _, _, _, rfl, rfl⟩
    have dstep : ∀ (kd : Str) (e : Deed), e ∈ ds.take (i + 1) → pairB kd d.x d.y (dP e) = (decide (e.kd = kd) && decide (e.x = d.x ∧ e.y = d.y)) := fun kd e _ => rfl
    simp only [evN, Nat.reduceAdd, Nat.reduceSub, reduceIte, Nat.reduceEqDiff, Int.reduceEq, Int.reduceLT, Int.reduceLE, Int.zero_add, i1, s_dP, e1, Res.when, st_none, sz]
    rw [compL_filter trivial (pairB "send" d.x d.y) id _ _ (fun dd hdd => ?_)]
    · simp only [evN, Nat.reduceAdd, Nat.reduceSub, reduceIte, Nat.reduceEqDiff, Int.reduceEq, Int.reduceLT, Int.reduceLE, sent_len, e1, Res.when, st_none, sz]
      rw [compL_filter trivial (pairB "take" d.x d.y) id _ _ (fun dd hdd => ?_)]
      · simp only [evN, Nat.reduceAdd, Nat.reduceSub, reduceIte, Nat.reduceEqDiff, Int.reduceEq, Int.reduceLT, Int.reduceLE, taken_len, hmx]
      · obtain ⟨e, he, rfl⟩ := List.mem_map.mp hdd
        have eo := hok e (List.mem_of_mem_take he)
        rw [dstep _ e he]
        simp only [evN, Nat.reduceAdd, Nat.reduceSub, reduceIte, Nat.reduceEqDiff, Int.reduceEq, Int.reduceLT, Int.reduceLE, cmpS, List.getElem?_cons_succ, List.getElem?_cons_zero, Option.getD_some, x_dP0, s_dP, c_eqT (dat_two eo.x eo.y) (dat_two hdk.x hdk.y), eqv_two]
        cases decide (e.kd = "take") <;> cases decide (e.x = d.x ∧ e.y = d.y) <;> rfl
    · obtain ⟨e, he, rfl⟩ := List.mem_map.mp hdd
      have eo := hok e (List.mem_of_mem_take he)
      rw [dstep _ e he]
      simp only [evN, Nat.reduceAdd, Nat.reduceSub, reduceIte, Nat.reduceEqDiff, Int.reduceEq, Int.reduceLT, Int.reduceLE, cmpS, List.getElem?_cons_succ, List.getElem?_cons_zero, Option.getD_some, x_dP0, s_dP, c_eqT (dat_two eo.x eo.y) (dat_two hdk.x hdk.y), eqv_two]
      cases decide (e.kd = "send") <;> cases decide (e.x = d.x ∧ e.y = d.y) <;> rfl
  · rintro S' W' ⟨o2, o3, o4, o5, rfl, rfl⟩
    rw [range_len]
    simp only [evN, Nat.reduceAdd, Nat.reduceSub, reduceIte, Nat.reduceEqDiff, Int.reduceEq, Int.reduceLT, Int.reduceLE]
theorem right_ev (P : PLaw20 Φ Γ) (k : Nat) {W : Wl} {ds : List Deed} (hok : ∀ d ∈ ds, d.Ok) (hl : ds.length ≤ 900) (hg : Goes ds) :
    evCall Φ Γ (k + 5) "_law_right" [.d (rP ds)] W = .ok (.d (.bool true)) W := by
  have hm := most_ev (Γ := Γ) P.mostw (k + 3) (W := W) hok hl hg
  have z9 : 9 ≤ sizeLine := by decide
  rw [evCall]
  simp only [evN, Nat.reduceAdd, Nat.reduceSub, reduceIte, Nat.reduceEqDiff, Int.reduceEq, Int.reduceLT, Int.reduceLE, P.right, f_law_right, hm, Res.when, z9, st_none]
  refine forL_inv (ds := [.int 1, .int 2, .int 3, .int 4, .int 5, .int 6, .int 7, .int 40, .int 1]) (fun i S' W' => ∃ o2 o3, S' = [some (.d (rP ds)), some (.d (.int (mostN ds ds.length))), o2, o3] ∧ W' = W) (fun r => fnEnd true W (r.bind fun S' W' => evSs (evCall Φ Γ (k + 4)) Γ (.cons (.ret (.c (.bool true))) .nil) S' W') = .ok (.d (.bool true)) W) ⟨none, none, rfl, rfl⟩ (fun _ _ _ _ _ => trivial) ?_ ?_
  · rintro i dd S' W' hd ⟨o2, o3, rfl, rfl⟩
    obtain ⟨n, rfl, h1, h2⟩ : ∃ n : Int, dd = .int n ∧ 1 ≤ n ∧ n ≤ 40 := by
      have := List.mem_of_getElem? hd
      simp only [List.mem_cons, List.not_mem_nil, or_false] at this
      rcases this with h | h | h | h | h | h | h | h | h <;> exact ⟨_, h, by decide, by decide⟩
    obtain ⟨b, e, hb⟩ := keeps_ev P.toPRooms k (W := W') hok hl hg h1 h2
    have hbb : b = decide (mostN ds ds.length ≤ n) := by
      rw [Bool.eq_iff_iff, hb, decide_eq_true_eq]
      exact (most_fits (by omega)).symm
    refine .inl ⟨[some (.d (rP ds)), some (.d (.int (mostN ds ds.length))), some (.d (.int n)), some (.d (.bool b))], W', ?_, _, _, rfl, rfl⟩
    simp only [evN, Nat.reduceAdd, Nat.reduceSub, reduceIte, Nat.reduceEqDiff, Int.reduceEq, Int.reduceLT, Int.reduceLE, e, ← hbb]
  · rintro S' W' ⟨o2, o3, rfl, rfl⟩
    simp only [evN, Nat.reduceAdd, Nat.reduceSub, reduceIte, Nat.reduceEqDiff, Int.reduceEq, Int.reduceLT, Int.reduceLE]
theorem goes_sub {ds : List Deed} (h : ∀ d ∈ ds, d.Ok) (n : Nat) : ∀ d ∈ ds.take n, d.Ok := fun d hd => h d (List.mem_of_mem_take hd)
theorem law_ev (P : PLaw20 Φ Γ) (k : Nat) {ns : List Int} (hb : ∀ m ∈ ns, bits m ≤ 2 ^ 20) (hl : ns.length ≤ 63) : evCall Φ Γ (k + 6) "law" [.s ns] [] = .ok (.d (.bool true)) [] := by
  obtain ⟨n, hn, en⟩ : ∃ n : Nat, n ≤ 12 ∧ (if (if (ns.length : Int) < 12 then (ns.length : Int) else 12) > 1 then (if (ns.length : Int) < 12 then (ns.length : Int) else 12) else 1) = (n : Int) := by
    refine ⟨((if (if (ns.length : Int) < 12 then (ns.length : Int) else 12) > 1 then (if (ns.length : Int) < 12 then (ns.length : Int) else 12) else 1) : Int).toNat, ?_, ?_⟩ <;> (repeat' split) <;> omega
  have rng : ∀ W', evRange (n : Int) W' = .ok ⟨rangeD 0 n, none⟩ W' := fun W' => by rw [range_ok (by omega) (by omega), Int.toNat_natCast]
  rw [evCall]
  simp only [evN, Nat.reduceAdd, Nat.reduceSub, reduceIte, Nat.reduceEqDiff, Int.reduceEq, Int.reduceLT, Int.reduceLE, P.law, f_law, Res.when, en, rng, st_none]
  refine forL_inv (ds := rangeD 0 n) (fun i S' W' => ∃ o1 o2 o3 o4, S' = [some (.s ns), o1, o2, o3, o4]) (fun r => fnEnd true [] (r.bind fun S' W' => evSs (evCall Φ Γ (k + 5)) Γ (.cons (.ret (.c (.bool true))) .nil) S' W') = .ok (.d (.bool true)) []) ⟨none, none, none, none, rfl⟩ (fun _ _ _ _ _ => trivial) ?_ ?_
  · rintro i dd S' W hd ⟨o1, o2, o3, o4, rfl⟩
    have hi : i < n := by have := (List.getElem?_eq_some_iff.mp hd).1; rwa [range_len] at this
    rw [rangeD_get hi] at hd
    cases hd
    obtain ⟨m, m0, e1⟩ := pack_ev (Γ := Γ) P.pack P.mixed (k + 3) (W := W) (ns := ns) (i := i) hb (by omega)
    have hp : (W ++ [pkO m])[W.length]? = some (pkO m) := by simp
    obtain ⟨hs, m1, q1, a1, a2, a3, a4, e2⟩ := hands_ev (Γ := Γ) P.hands P.take (k + 3) m0 hp
    have hp1 := pk_set (m' := m1) hp
    obtain ⟨ds, m2, q2, b1, b2, b3, e3⟩ := story_ev (Γ := Γ) P.toPStory (k + 3) (most := 6) q1 hp1 a1 a2 a3 (by omega) (by decide)
    rw [set_set, cast6] at e3
    have hp2 := pk_set (m' := m2) hp
    obtain ⟨r, m3, q3, hr, e4⟩ := draw_ev (Γ := Γ) P.take (k + 4) q2 hp2 (n := (ds.length : Int) + 1) (by omega)
    rw [set_set] at e4
    have e5 := right_ev P k (W := (W ++ [pkO m]).set W.length (pkO m3)) b1 (by omega) b2
    have e6 := right_ev P k (W := (W ++ [pkO m]).set W.length (pkO m3)) (goes_sub b1 r) (by rw [List.length_take]; omega) (goes_take b2 r)
    have ec : evSl (.d (rP ds)) none (some (r : Int)) ((W ++ [pkO m]).set W.length (pkO m3)) = .ok (.d (rP (ds.take r))) ((W ++ [pkO m]).set W.length (pkO m3)) := by
      unfold rP
      rw [s_tup, show cutL (ds.map dP) none (some (r : Int)) = (ds.take r).map dP by rw [List.map_take]; exact cut_to _ r]
    have el : ∀ W', evBi .len [.d (rP ds)] W' = .ok (.d (.int ds.length)) W' := fun W' => by unfold rP; rw [b_lenT, List.length_map]
    refine .inl ⟨[some (.s ns), some (.d (.int i)), some (.o W.length), some (.d (rP ds)), some (.d (rP (ds.take r)))], (W ++ [pkO m]).set W.length (pkO m3), ?_, _, _, _, _, rfl⟩
    simp only [evN, Nat.reduceAdd, Nat.reduceSub, reduceIte, Nat.reduceEqDiff, Int.reduceEq, Int.reduceLT, Int.reduceLE, Int.zero_add, e1, e2, e3, el, e4, ec, e5, e6]
  · rintro S' W' ⟨o1, o2, o3, o4, rfl⟩
    simp only [evN, Nat.reduceAdd, Nat.reduceSub, reduceIte, Nat.reduceEqDiff, Int.reduceEq, Int.reduceLT, Int.reduceLE]
    have := fin_d_app [] W' (.bool true)
    simpa using this
end
end K1
namespace K1
open PySem L2
theorem law_true (ns : List Int) (hl : ns.length ≤ 63) (hb : ∀ m ∈ ns, Builtin.Int.intBits m ≤ 2 ^ 20) : ∃ W', evCall Φn Γn 10 "law" [.s ns] [] = .ok (.d (.bool true)) W' :=
  ⟨_, law_ev ⟨⟨⟨Φ_is_name, Φ_is_deed, Φ_can_be_done, Φ_do_deed, Φ_lines_behind, Γ_LETTERS, Γ_LONGEST_NAME, Γ_KINDS⟩, Φ_is_whole, Φ_is_rooms, Φ_check_rooms, Φ_keeps, Γ_MOST_ROOMS⟩, ⟨Φ_law_take, Φ_law_firsts, Φ_law_story⟩, Φ_law_mixed, Φ_law_pack, Φ_law_hands, Φ_law_most_under_way, Φ_law_right, Φ_law⟩ 4 hb hl⟩
end K1
namespace K1
open PySem L2
noncomputable def top (i : Nat) : Stmt := PySem.Challenge.pw_talehands_k20_rows_that_keep_to_rooms.main.body.getD i (.Pass ⟨0, 0, 0, 0⟩)
noncomputable def Bn (x : Str) : Bool := decide (x ∈ (["all", "bool", "divmod", "enumerate", "int", "isinstance", "len", "max", "min", "range", "str", "tuple"] : List Str))
noncomputable def Dn (x : Str) : Bool := (Φn x).isSome
noncomputable def Qn (x : Str) : Bool := decide (x ∈ ([] : List Str))
theorem sc_f_is_whole : FnScope ["thing"] ["thing"] (defScope (top 3)) := ⟨rfl, rfl, rfl, by decide +kernel, rfl, by decide +kernel, by decide +kernel⟩
theorem ok_f_is_whole : okSs Bn Dn Qn f_is_whole.body ⟨["thing"], defScope (top 3)⟩ (defBody (top 3)) = true := by decide +kernel
theorem sc_f_is_name : FnScope ["thing"] ["thing"] (defScope (top 4)) := ⟨rfl, rfl, rfl, by decide +kernel, rfl, by decide +kernel, by decide +kernel⟩
theorem ok_f_is_name : okSs Bn Dn Qn f_is_name.body ⟨["thing"], defScope (top 4)⟩ (defBody (top 4)) = true := by decide +kernel
theorem sc_f_is_deed : FnScope ["thing", "kind", "giver", "taker", "word"] ["thing"] (defScope (top 7)) := ⟨rfl, rfl, rfl, by decide +kernel, rfl, by decide +kernel, by decide +kernel⟩
theorem ok_f_is_deed : okSs Bn Dn Qn f_is_deed.body ⟨["thing", "kind", "giver", "taker", "word"], defScope (top 7)⟩ (defBody (top 7)) = true := by decide +kernel
theorem sc_f_can_be_done : FnScope ["lines", "deed", "kind", "giver", "taker", "word"] ["lines", "deed"] (defScope (top 13)) := ⟨rfl, rfl, rfl, by decide +kernel, rfl, by decide +kernel, by decide +kernel⟩
theorem ok_f_can_be_done : okSs Bn Dn Qn f_can_be_done.body ⟨["lines", "deed", "kind", "giver", "taker", "word"], defScope (top 13)⟩ (defBody (top 13)) = true := by decide +kernel
theorem sc_f_do_deed : FnScope ["lines", "deed", "kind", "giver", "taker", "word", "words"] ["lines", "deed"] (defScope (top 14)) := ⟨rfl, rfl, rfl, by decide +kernel, rfl, by decide +kernel, by decide +kernel⟩
theorem ok_f_do_deed : okSs Bn Dn Qn f_do_deed.body ⟨["lines", "deed", "kind", "giver", "taker", "word", "words"], defScope (top 14)⟩ (defBody (top 14)) = true := by decide +kernel
theorem sc_f_lines_behind : FnScope ["row", "lines", "number", "deed"] ["row"] (defScope (top 15)) := ⟨rfl, rfl, rfl, by decide +kernel, rfl, by decide +kernel, by decide +kernel⟩
theorem ok_f_lines_behind : okSs Bn Dn Qn f_lines_behind.body ⟨["row", "lines", "number", "deed"], defScope (top 15)⟩ (defBody (top 15)) = true := by decide +kernel
theorem sc_f_is_rooms : FnScope ["thing"] ["thing"] (defScope (top 18)) := ⟨rfl, rfl, rfl, by decide +kernel, rfl, by decide +kernel, by decide +kernel⟩
theorem ok_f_is_rooms : okSs Bn Dn Qn f_is_rooms.body ⟨["thing"], defScope (top 18)⟩ (defBody (top 18)) = true := by decide +kernel
theorem sc_f_check_rooms : FnScope ["rooms"] ["rooms"] (defScope (top 19)) := ⟨rfl, rfl, rfl, by decide +kernel, rfl, by decide +kernel, by decide +kernel⟩
theorem ok_f_check_rooms : okSs Bn Dn Qn f_check_rooms.body ⟨["rooms"], defScope (top 19)⟩ (defBody (top 19)) = true := by decide +kernel
theorem sc_f_keeps : FnScope ["row", "rooms", "lines", "deed"] ["row", "rooms"] (defScope (top 20)) := ⟨rfl, rfl, rfl, by decide +kernel, rfl, by decide +kernel, by decide +kernel⟩
theorem ok_f_keeps : okSs Bn Dn Qn f_keeps.body ⟨["row", "rooms", "lines", "deed"], defScope (top 20)⟩ (defBody (top 20)) = true := by decide +kernel
theorem sc_f_law_mixed : FnScope ["_law_cell"] ["_law_cell"] (defScope (top 22)) := ⟨rfl, rfl, rfl, by decide +kernel, rfl, by decide +kernel, by decide +kernel⟩
theorem ok_f_law_mixed : okSs Bn Dn Qn f_law_mixed.body ⟨["_law_cell"], defScope (top 22)⟩ (defBody (top 22)) = true := by decide +kernel
theorem sc_f_law_pack : FnScope ["_law_script", "_law_k"] ["_law_script", "_law_k"] (defScope (top 23)) := ⟨rfl, rfl, rfl, by decide +kernel, rfl, by decide +kernel, by decide +kernel⟩
theorem ok_f_law_pack : okSs Bn Dn Qn f_law_pack.body ⟨["_law_script", "_law_k"], defScope (top 23)⟩ (defBody (top 23)) = true := by decide +kernel
theorem sc_f_law_take : FnScope ["_law_pack_here", "_law_size", "_law_digit"] ["_law_pack_here", "_law_size"] (defScope (top 24)) := ⟨rfl, rfl, rfl, by decide +kernel, rfl, by decide +kernel, by decide +kernel⟩
theorem ok_f_law_take : okSs Bn Dn Qn f_law_take.body ⟨["_law_pack_here", "_law_size", "_law_digit"], defScope (top 24)⟩ (defBody (top 24)) = true := by decide +kernel
theorem sc_f_law_hands : FnScope ["_law_pack_here", "_law_letters", "_law_turn", "_law_pick", "_law_size", "_law_amount"] ["_law_pack_here"] (defScope (top 25)) := ⟨rfl, rfl, rfl, by decide +kernel, rfl, by decide +kernel, by decide +kernel⟩
theorem ok_f_law_hands : okSs Bn Dn Qn f_law_hands.body ⟨["_law_pack_here", "_law_letters", "_law_turn", "_law_pick", "_law_size", "_law_amount"], defScope (top 25)⟩ (defBody (top 25)) = true := by decide +kernel
theorem sc_f_law_firsts : FnScope ["_law_waiting", "_law_found", "_law_letter"] ["_law_waiting"] (defScope (top 26)) := ⟨rfl, rfl, rfl, by decide +kernel, rfl, by decide +kernel, by decide +kernel⟩
theorem ok_f_law_firsts : okSs Bn Dn Qn f_law_firsts.body ⟨["_law_waiting", "_law_found", "_law_letter"], defScope (top 26)⟩ (defBody (top 26)) = true := by decide +kernel
theorem sc_f_law_story : FnScope ["_law_pack_here", "_law_hands_here", "_law_most", "_law_words", "_law_many", "_law_row", "_law_waiting", "_law_sent", "_law_turn", "_law_firsts_here", "_law_at", "_law_to", "_law_letter"] ["_law_pack_here", "_law_hands_here", "_law_most"] (defScope (top 27)) := ⟨rfl, rfl, rfl, by decide +kernel, rfl, by decide +kernel, by decide +kernel⟩
theorem ok_f_law_story : okSs Bn Dn Qn f_law_story.body ⟨["_law_pack_here", "_law_hands_here", "_law_most", "_law_words", "_law_many", "_law_row", "_law_waiting", "_law_sent", "_law_turn", "_law_firsts_here", "_law_at", "_law_to", "_law_letter"], defScope (top 27)⟩ (defBody (top 27)) = true := by decide +kernel
theorem sc_f_law_most_under_way : FnScope ["_law_row", "_law_found", "_law_k", "_law_pair", "_law_sent", "_law_taken"] ["_law_row"] (defScope (top 28)) := ⟨rfl, rfl, rfl, by decide +kernel, rfl, by decide +kernel, by decide +kernel⟩
theorem ok_f_law_most_under_way : okSs Bn Dn Qn f_law_most_under_way.body ⟨["_law_row", "_law_found", "_law_k", "_law_pair", "_law_sent", "_law_taken"], defScope (top 28)⟩ (defBody (top 28)) = true := by decide +kernel
theorem sc_f_law_right : FnScope ["_law_row", "_law_most", "_law_rooms", "_law_found"] ["_law_row"] (defScope (top 29)) := ⟨rfl, rfl, rfl, by decide +kernel, rfl, by decide +kernel, by decide +kernel⟩
theorem ok_f_law_right : okSs Bn Dn Qn f_law_right.body ⟨["_law_row", "_law_most", "_law_rooms", "_law_found"], defScope (top 29)⟩ (defBody (top 29)) = true := by decide +kernel
theorem sc_f_law : FnScope ["_law_script", "_law_k", "_law_pack_here", "_law_row", "_law_begin"] ["_law_script"] (defScope (top 30)) := ⟨rfl, rfl, rfl, by decide +kernel, rfl, by decide +kernel, by decide +kernel⟩
theorem ok_f_law : okSs Bn Dn Qn f_law.body ⟨["_law_script", "_law_k", "_law_pack_here", "_law_row", "_law_begin"], defScope (top 30)⟩ (defBody (top 30)) = true := by decide +kernel
noncomputable def rLaw : RX := fun as W k _ => ∃ ns : List Int, as = [.s ns] ∧ ns.length ≤ 63 ∧ (∀ m ∈ ns, Builtin.Int.intBits m ≤ 2 ^ 20) ∧ W = [] ∧ ∀ W', k (.d (.bool true)) W'
theorem law_start {K : PySem.W.Frag} {H : Hp} {a : Addr} {ns : List Int} (hl : ns.length ≤ 63) (hb : ∀ m ∈ ns, Builtin.Int.intBits m ≤ 2 ^ 20) (hS : SqL K H a (ns.map V.int)) : spX K rLaw [.ref a] H (fun v _ => v = .bl true) fun _ _ _ => False :=
  ⟨H, [], [], [.s ns], fun e _ => e = .d (.bool true), fun _ _ => False, ⟨.refl _, rfl, List.nodup_nil, fun a h => by simp at h, fun k a o h => by simp at h⟩, .cons ⟨a, rfl, hS⟩ .nil, ⟨ns, rfl, hl, hb, rfl, fun _ => rfl⟩, fun F' A' W' H' e v _ _ z h => by subst h; exact Rq.of_bl z, fun _ _ _ _ _ _ _ h => h⟩
set_option maxHeartbeats 2000000 in
theorem all_mk {l : PySem.W.OpenLaw} {w : World} {K : PySem.W.Frag} {h : Heap} {mg : Str → Option Value} {fa : Addr} (X : K.In h) (G : h.Ns mainGlobals mg) (hfa : mg "law" = some (.ref fa))
    {f0 f1 f2 f3 f4 f5 f6 f7 f8 f9 f10 f11 f12 f13 f14 f15 f16 f17 : Addr} {od0 an0 od1 an1 od2 an2 od3 an3 od4 an4 od5 an5 od6 an6 od7 an7 od8 an8 od9 an9 od10 an10 od11 an11 od12 an12 od13 an13 od14 an14 od15 an15 od16 an16 od17 an17 : Option Addr} {sl0 sl1 sl2 sl3 sl4 sl5 sl6 sl7 sl8 sl9 sl10 sl11 sl12 sl13 sl14 sl15 sl16 sl17 : Array (Option Value)} {oc0 kV0 dc0 pm0 cd0 ct0 oc1 kV1 dc1 pm1 cd1 ct1 oc2 kV2 dc2 pm2 cd2 ct2 oc3 kV3 dc3 pm3 cd3 ct3 oc4 kV4 dc4 pm4 cd4 ct4 oc5 kV5 dc5 pm5 cd5 ct5 oc6 kV6 dc6 pm6 cd6 ct6 oc7 kV7 dc7 pm7 cd7 ct7 oc8 kV8 dc8 pm8 cd8 ct8 oc9 kV9 dc9 pm9 cd9 ct9 oc10 kV10 dc10 pm10 cd10 ct10 oc11 kV11 dc11 pm11 cd11 ct11 oc12 kV12 dc12 pm12 cd12 ct12 oc13 kV13 dc13 pm13 cd13 ct13 oc14 kV14 dc14 pm14 cd14 ct14 oc15 kV15 dc15 pm15 cd15 ct15 oc16 kV16 dc16 pm16 cd16 ct16 oc17 kV17 dc17 pm17 cd17 ct17 : Value}
    (a0 : PySem.W.nsIn K mainGlobals "is_whole" = some (some (.ref f0))) (l0 : K.lookup f0 = some ⟨oc0, od0, .func (PySem.W.fnOf "is_whole" "is_whole" (defArgs (top 3)) (defBody (top 3)) (defScope (top 3)) .none kV0 dc0 pm0 an0 cd0 ct0), sl0⟩) (c0 : PySem.W.codeIn K cd0 "is_whole" = true) (k0 : PySem.W.keepIn K (.ref f0) = true)
    (a1 : PySem.W.nsIn K mainGlobals "is_name" = some (some (.ref f1))) (l1 : K.lookup f1 = some ⟨oc1, od1, .func (PySem.W.fnOf "is_name" "is_name" (defArgs (top 4)) (defBody (top 4)) (defScope (top 4)) .none kV1 dc1 pm1 an1 cd1 ct1), sl1⟩) (c1 : PySem.W.codeIn K cd1 "is_name" = true) (k1 : PySem.W.keepIn K (.ref f1) = true)
    (a2 : PySem.W.nsIn K mainGlobals "is_deed" = some (some (.ref f2))) (l2 : K.lookup f2 = some ⟨oc2, od2, .func (PySem.W.fnOf "is_deed" "is_deed" (defArgs (top 7)) (defBody (top 7)) (defScope (top 7)) .none kV2 dc2 pm2 an2 cd2 ct2), sl2⟩) (c2 : PySem.W.codeIn K cd2 "is_deed" = true) (k2 : PySem.W.keepIn K (.ref f2) = true)
    (a3 : PySem.W.nsIn K mainGlobals "can_be_done" = some (some (.ref f3))) (l3 : K.lookup f3 = some ⟨oc3, od3, .func (PySem.W.fnOf "can_be_done" "can_be_done" (defArgs (top 13)) (defBody (top 13)) (defScope (top 13)) .none kV3 dc3 pm3 an3 cd3 ct3), sl3⟩) (c3 : PySem.W.codeIn K cd3 "can_be_done" = true) (k3 : PySem.W.keepIn K (.ref f3) = true)
    (a4 : PySem.W.nsIn K mainGlobals "do_deed" = some (some (.ref f4))) (l4 : K.lookup f4 = some ⟨oc4, od4, .func (PySem.W.fnOf "do_deed" "do_deed" (defArgs (top 14)) (defBody (top 14)) (defScope (top 14)) .none kV4 dc4 pm4 an4 cd4 ct4), sl4⟩) (c4 : PySem.W.codeIn K cd4 "do_deed" = true) (k4 : PySem.W.keepIn K (.ref f4) = true)
    (a5 : PySem.W.nsIn K mainGlobals "lines_behind" = some (some (.ref f5))) (l5 : K.lookup f5 = some ⟨oc5, od5, .func (PySem.W.fnOf "lines_behind" "lines_behind" (defArgs (top 15)) (defBody (top 15)) (defScope (top 15)) .none kV5 dc5 pm5 an5 cd5 ct5), sl5⟩) (c5 : PySem.W.codeIn K cd5 "lines_behind" = true) (k5 : PySem.W.keepIn K (.ref f5) = true)
    (a6 : PySem.W.nsIn K mainGlobals "is_rooms" = some (some (.ref f6))) (l6 : K.lookup f6 = some ⟨oc6, od6, .func (PySem.W.fnOf "is_rooms" "is_rooms" (defArgs (top 18)) (defBody (top 18)) (defScope (top 18)) .none kV6 dc6 pm6 an6 cd6 ct6), sl6⟩) (c6 : PySem.W.codeIn K cd6 "is_rooms" = true) (k6 : PySem.W.keepIn K (.ref f6) = true)
    (a7 : PySem.W.nsIn K mainGlobals "check_rooms" = some (some (.ref f7))) (l7 : K.lookup f7 = some ⟨oc7, od7, .func (PySem.W.fnOf "check_rooms" "check_rooms" (defArgs (top 19)) (defBody (top 19)) (defScope (top 19)) .none kV7 dc7 pm7 an7 cd7 ct7), sl7⟩) (c7 : PySem.W.codeIn K cd7 "check_rooms" = true) (k7 : PySem.W.keepIn K (.ref f7) = true)
    (a8 : PySem.W.nsIn K mainGlobals "keeps" = some (some (.ref f8))) (l8 : K.lookup f8 = some ⟨oc8, od8, .func (PySem.W.fnOf "keeps" "keeps" (defArgs (top 20)) (defBody (top 20)) (defScope (top 20)) .none kV8 dc8 pm8 an8 cd8 ct8), sl8⟩) (c8 : PySem.W.codeIn K cd8 "keeps" = true) (k8 : PySem.W.keepIn K (.ref f8) = true)
    (a9 : PySem.W.nsIn K mainGlobals "_law_mixed" = some (some (.ref f9))) (l9 : K.lookup f9 = some ⟨oc9, od9, .func (PySem.W.fnOf "_law_mixed" "_law_mixed" (defArgs (top 22)) (defBody (top 22)) (defScope (top 22)) .none kV9 dc9 pm9 an9 cd9 ct9), sl9⟩) (c9 : PySem.W.codeIn K cd9 "_law_mixed" = true) (k9 : PySem.W.keepIn K (.ref f9) = true)
    (a10 : PySem.W.nsIn K mainGlobals "_law_pack" = some (some (.ref f10))) (l10 : K.lookup f10 = some ⟨oc10, od10, .func (PySem.W.fnOf "_law_pack" "_law_pack" (defArgs (top 23)) (defBody (top 23)) (defScope (top 23)) .none kV10 dc10 pm10 an10 cd10 ct10), sl10⟩) (c10 : PySem.W.codeIn K cd10 "_law_pack" = true) (k10 : PySem.W.keepIn K (.ref f10) = true)
    (a11 : PySem.W.nsIn K mainGlobals "_law_take" = some (some (.ref f11))) (l11 : K.lookup f11 = some ⟨oc11, od11, .func (PySem.W.fnOf "_law_take" "_law_take" (defArgs (top 24)) (defBody (top 24)) (defScope (top 24)) .none kV11 dc11 pm11 an11 cd11 ct11), sl11⟩) (c11 : PySem.W.codeIn K cd11 "_law_take" = true) (k11 : PySem.W.keepIn K (.ref f11) = true)
    (a12 : PySem.W.nsIn K mainGlobals "_law_hands" = some (some (.ref f12))) (l12 : K.lookup f12 = some ⟨oc12, od12, .func (PySem.W.fnOf "_law_hands" "_law_hands" (defArgs (top 25)) (defBody (top 25)) (defScope (top 25)) .none kV12 dc12 pm12 an12 cd12 ct12), sl12⟩) (c12 : PySem.W.codeIn K cd12 "_law_hands" = true) (k12 : PySem.W.keepIn K (.ref f12) = true)
    (a13 : PySem.W.nsIn K mainGlobals "_law_firsts" = some (some (.ref f13))) (l13 : K.lookup f13 = some ⟨oc13, od13, .func (PySem.W.fnOf "_law_firsts" "_law_firsts" (defArgs (top 26)) (defBody (top 26)) (defScope (top 26)) .none kV13 dc13 pm13 an13 cd13 ct13), sl13⟩) (c13 : PySem.W.codeIn K cd13 "_law_firsts" = true) (k13 : PySem.W.keepIn K (.ref f13) = true)
    (a14 : PySem.W.nsIn K mainGlobals "_law_story" = some (some (.ref f14))) (l14 : K.lookup f14 = some ⟨oc14, od14, .func (PySem.W.fnOf "_law_story" "_law_story" (defArgs (top 27)) (defBody (top 27)) (defScope (top 27)) .none kV14 dc14 pm14 an14 cd14 ct14), sl14⟩) (c14 : PySem.W.codeIn K cd14 "_law_story" = true) (k14 : PySem.W.keepIn K (.ref f14) = true)
    (a15 : PySem.W.nsIn K mainGlobals "_law_most_under_way" = some (some (.ref f15))) (l15 : K.lookup f15 = some ⟨oc15, od15, .func (PySem.W.fnOf "_law_most_under_way" "_law_most_under_way" (defArgs (top 28)) (defBody (top 28)) (defScope (top 28)) .none kV15 dc15 pm15 an15 cd15 ct15), sl15⟩) (c15 : PySem.W.codeIn K cd15 "_law_most_under_way" = true) (k15 : PySem.W.keepIn K (.ref f15) = true)
    (a16 : PySem.W.nsIn K mainGlobals "_law_right" = some (some (.ref f16))) (l16 : K.lookup f16 = some ⟨oc16, od16, .func (PySem.W.fnOf "_law_right" "_law_right" (defArgs (top 29)) (defBody (top 29)) (defScope (top 29)) .none kV16 dc16 pm16 an16 cd16 ct16), sl16⟩) (c16 : PySem.W.codeIn K cd16 "_law_right" = true) (k16 : PySem.W.keepIn K (.ref f16) = true)
    (a17 : PySem.W.nsIn K mainGlobals "law" = some (some (.ref f17))) (l17 : K.lookup f17 = some ⟨oc17, od17, .func (PySem.W.fnOf "law" "law" (defArgs (top 30)) (defBody (top 30)) (defScope (top 30)) .none kV17 dc17 pm17 an17 cd17 ct17), sl17⟩) (c17 : PySem.W.codeIn K cd17 "law" = true) (k17 : PySem.W.keepIn K (.ref f17) = true)
    (z0 : PySem.W.nsIn K mainGlobals "all" = some none)
    (z1 : PySem.W.nsIn K mainGlobals "bool" = some none)
    (z2 : PySem.W.nsIn K mainGlobals "divmod" = some none)
    (z3 : PySem.W.nsIn K mainGlobals "enumerate" = some none)
    (z4 : PySem.W.nsIn K mainGlobals "int" = some none)
    (z5 : PySem.W.nsIn K mainGlobals "isinstance" = some none)
    (z6 : PySem.W.nsIn K mainGlobals "len" = some none)
    (z7 : PySem.W.nsIn K mainGlobals "max" = some none)
    (z8 : PySem.W.nsIn K mainGlobals "min" = some none)
    (z9 : PySem.W.nsIn K mainGlobals "range" = some none)
    (z10 : PySem.W.nsIn K mainGlobals "str" = some none)
    (z11 : PySem.W.nsIn K mainGlobals "tuple" = some none)
    {AKINDS : Addr} {oKINDS : Option Addr} {sKINDS : Array (Option Value)} {nKINDS : Nat} {tKINDS0 tKINDS1 : Tok} (gKINDS : PySem.W.nsIn K mainGlobals "KINDS" = some (some (.ref AKINDS))) (hKINDS : K.lookup AKINDS = some ⟨.type "tuple", oKINDS, .seq #[.str "send" tKINDS0, .str "take" tKINDS1] nKINDS, sKINDS⟩)
    {tLETTERS : Tok} (gLETTERS : PySem.W.nsIn K mainGlobals "LETTERS" = some (some (.str "abcdefghijklmnopqrstuvwxyz" tLETTERS)))
    {tLONGEST_NAME : Tok} (gLONGEST_NAME : PySem.W.nsIn K mainGlobals "LONGEST_NAME" = some (some (.int 8 tLONGEST_NAME)))
    {tMOST_ROOMS : Tok} (gMOST_ROOMS : PySem.W.nsIn K mainGlobals "MOST_ROOMS" = some (some (.int 40 tMOST_ROOMS)))
    : ∃ fd : FuncData, (∀ (s : Shared) (v : Value), BindsTo s fd ⟨[v], []⟩ [("_law_script", v)]) ∧ ∀ base : Heap, K.In base → base.Ns mainGlobals mg → FnOk l.prog w K mg base (CXe l.prog w) 10 fa fd ["_law_script"] (spX K rLaw) := by
  have e := hfa.symm.trans (PySem.W.mg_of X G a17)
  cases e
  have F0 := fun_mk (st := top 3) l0 c0 k0
  have b0 := F0.binds (ps := ["thing"]) fun _ _ _ _ _ _ us hl => match us, hl with | [_], _ => rfl
  have F1 := fun_mk (st := top 4) l1 c1 k1
  have b1 := F1.binds (ps := ["thing"]) fun _ _ _ _ _ _ us hl => match us, hl with | [_], _ => rfl
  have F2 := fun_mk (st := top 7) l2 c2 k2
  have b2 := F2.binds (ps := ["thing"]) fun _ _ _ _ _ _ us hl => match us, hl with | [_], _ => rfl
  have F3 := fun_mk (st := top 13) l3 c3 k3
  have b3 := F3.binds (ps := ["lines", "deed"]) fun _ _ _ _ _ _ us hl => match us, hl with | [_, _], _ => rfl
  have F4 := fun_mk (st := top 14) l4 c4 k4
  have b4 := F4.binds (ps := ["lines", "deed"]) fun _ _ _ _ _ _ us hl => match us, hl with | [_, _], _ => rfl
  have F5 := fun_mk (st := top 15) l5 c5 k5
  have b5 := F5.binds (ps := ["row"]) fun _ _ _ _ _ _ us hl => match us, hl with | [_], _ => rfl
  have F6 := fun_mk (st := top 18) l6 c6 k6
  have b6 := F6.binds (ps := ["thing"]) fun _ _ _ _ _ _ us hl => match us, hl with | [_], _ => rfl
  have F7 := fun_mk (st := top 19) l7 c7 k7
  have b7 := F7.binds (ps := ["rooms"]) fun _ _ _ _ _ _ us hl => match us, hl with | [_], _ => rfl
  have F8 := fun_mk (st := top 20) l8 c8 k8
  have b8 := F8.binds (ps := ["row", "rooms"]) fun _ _ _ _ _ _ us hl => match us, hl with | [_, _], _ => rfl
  have F9 := fun_mk (st := top 22) l9 c9 k9
  have b9 := F9.binds (ps := ["_law_cell"]) fun _ _ _ _ _ _ us hl => match us, hl with | [_], _ => rfl
  have F10 := fun_mk (st := top 23) l10 c10 k10
  have b10 := F10.binds (ps := ["_law_script", "_law_k"]) fun _ _ _ _ _ _ us hl => match us, hl with | [_, _], _ => rfl
  have F11 := fun_mk (st := top 24) l11 c11 k11
  have b11 := F11.binds (ps := ["_law_pack_here", "_law_size"]) fun _ _ _ _ _ _ us hl => match us, hl with | [_, _], _ => rfl
  have F12 := fun_mk (st := top 25) l12 c12 k12
  have b12 := F12.binds (ps := ["_law_pack_here"]) fun _ _ _ _ _ _ us hl => match us, hl with | [_], _ => rfl
  have F13 := fun_mk (st := top 26) l13 c13 k13
  have b13 := F13.binds (ps := ["_law_waiting"]) fun _ _ _ _ _ _ us hl => match us, hl with | [_], _ => rfl
  have F14 := fun_mk (st := top 27) l14 c14 k14
  have b14 := F14.binds (ps := ["_law_pack_here", "_law_hands_here", "_law_most"]) fun _ _ _ _ _ _ us hl => match us, hl with | [_, _, _], _ => rfl
  have F15 := fun_mk (st := top 28) l15 c15 k15
  have b15 := F15.binds (ps := ["_law_row"]) fun _ _ _ _ _ _ us hl => match us, hl with | [_], _ => rfl
  have F16 := fun_mk (st := top 29) l16 c16 k16
  have b16 := F16.binds (ps := ["_law_row"]) fun _ _ _ _ _ _ us hl => match us, hl with | [_], _ => rfl
  have F17 := fun_mk (st := top 30) l17 c17 k17
  have b17 := F17.binds (ps := ["_law_script"]) fun _ _ _ _ _ _ us hl => match us, hl with | [_], _ => rfl
  have GL : ∀ (base : Heap) n, Glo Φn Γn (fun x => none) Bn Dn Qn n l.prog w K mg base := fun base => all_ok ?bi (fun x h => h) ?gv ?ex ?qx ?hd
  case bi =>
    intro x hx
    unfold Bn at hx
    simp only [decide_eq_true_eq, List.mem_cons, List.not_mem_nil, or_false] at hx
    rcases hx with rfl | rfl | rfl | rfl | rfl | rfl | rfl | rfl | rfl | rfl | rfl | rfl
    · exact PySem.W.mg_none_of X G z0
    · exact PySem.W.mg_none_of X G z1
    · exact PySem.W.mg_none_of X G z2
    · exact PySem.W.mg_none_of X G z3
    · exact PySem.W.mg_none_of X G z4
    · exact PySem.W.mg_none_of X G z5
    · exact PySem.W.mg_none_of X G z6
    · exact PySem.W.mg_none_of X G z7
    · exact PySem.W.mg_none_of X G z8
    · exact PySem.W.mg_none_of X G z9
    · exact PySem.W.mg_none_of X G z10
    · exact PySem.W.mg_none_of X G z11
  case gv =>
    intro x d hx
    unfold Γn at hx
    by_cases qKINDS : x = "KINDS"
    · subst qKINDS
      rw [if_pos rfl] at hx
      cases hx
      exact ⟨.ref AKINDS, _, PySem.W.mg_of X G gKINDS, rfl, fun F => .tup (vs := [.str "send", .str "take"]) (.inr ⟨_, _, _, hKINDS, rfl, rfl, (by show 2 ≤ sizeLine; decide), .cons ⟨_, rfl⟩ (.cons ⟨_, rfl⟩ (.nil))⟩) (.cons (.str _) (.cons (.str _) (.nil)))⟩
    rw [if_neg qKINDS] at hx
    by_cases qLETTERS : x = "LETTERS"
    · subst qLETTERS
      rw [if_pos rfl] at hx
      cases hx
      exact ⟨.str "abcdefghijklmnopqrstuvwxyz", _, PySem.W.mg_of X G gLETTERS, ⟨_, rfl⟩, fun F => .str _⟩
    rw [if_neg qLETTERS] at hx
    by_cases qLONGEST_NAME : x = "LONGEST_NAME"
    · subst qLONGEST_NAME
      rw [if_pos rfl] at hx
      cases hx
      exact ⟨.int 8, _, PySem.W.mg_of X G gLONGEST_NAME, ⟨_, rfl⟩, fun F => .int _⟩
    rw [if_neg qLONGEST_NAME] at hx
    by_cases qMOST_ROOMS : x = "MOST_ROOMS"
    · subst qMOST_ROOMS
      rw [if_pos rfl] at hx
      cases hx
      exact ⟨.int 40, _, PySem.W.mg_of X G gMOST_ROOMS, ⟨_, rfl⟩, fun F => .int _⟩
    rw [if_neg qMOST_ROOMS] at hx
    cases hx
  case ex =>
    intro x C hx
    try dsimp only at hx
    cases hx
  case qx =>
    intro x hx
    unfold Qn at hx
    simp only [decide_eq_true_eq, List.mem_cons, List.not_mem_nil, or_false] at hx
    try exact hx.elim
  case hd =>
    intro f fn hx
    unfold Φn at hx
    by_cases q0 : f = "is_whole"
    · subst q0
      rw [if_pos rfl] at hx
      cases hx
      exact ⟨_, _, top 3, ["thing"], ["thing"], F0, b0, PySem.W.mg_of X G a0, sc_f_is_whole, rfl, rfl, ok_f_is_whole⟩
    rw [if_neg q0] at hx
    by_cases q1 : f = "is_name"
    · subst q1
      rw [if_pos rfl] at hx
      cases hx
      exact ⟨_, _, top 4, ["thing"], ["thing"], F1, b1, PySem.W.mg_of X G a1, sc_f_is_name, rfl, rfl, ok_f_is_name⟩
    rw [if_neg q1] at hx
    by_cases q2 : f = "is_deed"
    · subst q2
      rw [if_pos rfl] at hx
      cases hx
      exact ⟨_, _, top 7, ["thing", "kind", "giver", "taker", "word"], ["thing"], F2, b2, PySem.W.mg_of X G a2, sc_f_is_deed, rfl, rfl, ok_f_is_deed⟩
    rw [if_neg q2] at hx
    by_cases q3 : f = "can_be_done"
    · subst q3
      rw [if_pos rfl] at hx
      cases hx
      exact ⟨_, _, top 13, ["lines", "deed", "kind", "giver", "taker", "word"], ["lines", "deed"], F3, b3, PySem.W.mg_of X G a3, sc_f_can_be_done, rfl, rfl, ok_f_can_be_done⟩
    rw [if_neg q3] at hx
    by_cases q4 : f = "do_deed"
    · subst q4
      rw [if_pos rfl] at hx
      cases hx
      exact ⟨_, _, top 14, ["lines", "deed", "kind", "giver", "taker", "word", "words"], ["lines", "deed"], F4, b4, PySem.W.mg_of X G a4, sc_f_do_deed, rfl, rfl, ok_f_do_deed⟩
    rw [if_neg q4] at hx
    by_cases q5 : f = "lines_behind"
    · subst q5
      rw [if_pos rfl] at hx
      cases hx
      exact ⟨_, _, top 15, ["row", "lines", "number", "deed"], ["row"], F5, b5, PySem.W.mg_of X G a5, sc_f_lines_behind, rfl, rfl, ok_f_lines_behind⟩
    rw [if_neg q5] at hx
    by_cases q6 : f = "is_rooms"
    · subst q6
      rw [if_pos rfl] at hx
      cases hx
      exact ⟨_, _, top 18, ["thing"], ["thing"], F6, b6, PySem.W.mg_of X G a6, sc_f_is_rooms, rfl, rfl, ok_f_is_rooms⟩
    rw [if_neg q6] at hx
    by_cases q7 : f = "check_rooms"
    · subst q7
      rw [if_pos rfl] at hx
      cases hx
      exact ⟨_, _, top 19, ["rooms"], ["rooms"], F7, b7, PySem.W.mg_of X G a7, sc_f_check_rooms, rfl, rfl, ok_f_check_rooms⟩
    rw [if_neg q7] at hx
    by_cases q8 : f = "keeps"
    · subst q8
      rw [if_pos rfl] at hx
      cases hx
      exact ⟨_, _, top 20, ["row", "rooms", "lines", "deed"], ["row", "rooms"], F8, b8, PySem.W.mg_of X G a8, sc_f_keeps, rfl, rfl, ok_f_keeps⟩
    rw [if_neg q8] at hx
    by_cases q9 : f = "_law_mixed"
    · subst q9
      rw [if_pos rfl] at hx
      cases hx
      exact ⟨_, _, top 22, ["_law_cell"], ["_law_cell"], F9, b9, PySem.W.mg_of X G a9, sc_f_law_mixed, rfl, rfl, ok_f_law_mixed⟩
    rw [if_neg q9] at hx
    by_cases q10 : f = "_law_pack"
    · subst q10
      rw [if_pos rfl] at hx
      cases hx
      exact ⟨_, _, top 23, ["_law_script", "_law_k"], ["_law_script", "_law_k"], F10, b10, PySem.W.mg_of X G a10, sc_f_law_pack, rfl, rfl, ok_f_law_pack⟩
    rw [if_neg q10] at hx
    by_cases q11 : f = "_law_take"
    · subst q11
      rw [if_pos rfl] at hx
      cases hx
      exact ⟨_, _, top 24, ["_law_pack_here", "_law_size", "_law_digit"], ["_law_pack_here", "_law_size"], F11, b11, PySem.W.mg_of X G a11, sc_f_law_take, rfl, rfl, ok_f_law_take⟩
    rw [if_neg q11] at hx
    by_cases q12 : f = "_law_hands"
    · subst q12
      rw [if_pos rfl] at hx
      cases hx
      exact ⟨_, _, top 25, ["_law_pack_here", "_law_letters", "_law_turn", "_law_pick", "_law_size", "_law_amount"], ["_law_pack_here"], F12, b12, PySem.W.mg_of X G a12, sc_f_law_hands, rfl, rfl, ok_f_law_hands⟩
    rw [if_neg q12] at hx
    by_cases q13 : f = "_law_firsts"
    · subst q13
      rw [if_pos rfl] at hx
      cases hx
      exact ⟨_, _, top 26, ["_law_waiting", "_law_found", "_law_letter"], ["_law_waiting"], F13, b13, PySem.W.mg_of X G a13, sc_f_law_firsts, rfl, rfl, ok_f_law_firsts⟩
    rw [if_neg q13] at hx
    by_cases q14 : f = "_law_story"
    · subst q14
      rw [if_pos rfl] at hx
      cases hx
      exact ⟨_, _, top 27, ["_law_pack_here", "_law_hands_here", "_law_most", "_law_words", "_law_many", "_law_row", "_law_waiting", "_law_sent", "_law_turn", "_law_firsts_here", "_law_at", "_law_to", "_law_letter"], ["_law_pack_here", "_law_hands_here", "_law_most"], F14, b14, PySem.W.mg_of X G a14, sc_f_law_story, rfl, rfl, ok_f_law_story⟩
    rw [if_neg q14] at hx
    by_cases q15 : f = "_law_most_under_way"
    · subst q15
      rw [if_pos rfl] at hx
      cases hx
      exact ⟨_, _, top 28, ["_law_row", "_law_found", "_law_k", "_law_pair", "_law_sent", "_law_taken"], ["_law_row"], F15, b15, PySem.W.mg_of X G a15, sc_f_law_most_under_way, rfl, rfl, ok_f_law_most_under_way⟩
    rw [if_neg q15] at hx
    by_cases q16 : f = "_law_right"
    · subst q16
      rw [if_pos rfl] at hx
      cases hx
      exact ⟨_, _, top 29, ["_law_row", "_law_most", "_law_rooms", "_law_found"], ["_law_row"], F16, b16, PySem.W.mg_of X G a16, sc_f_law_right, rfl, rfl, ok_f_law_right⟩
    rw [if_neg q16] at hx
    by_cases q17 : f = "law"
    · subst q17
      rw [if_pos rfl] at hx
      cases hx
      exact ⟨_, _, top 30, ["_law_script", "_law_k", "_law_pack_here", "_law_row", "_law_begin"], ["_law_script"], F17, b17, PySem.W.mg_of X G a17, sc_f_law, rfl, rfl, ok_f_law⟩
    rw [if_neg q17] at hx
    cases hx
  refine ⟨PySem.W.fnOf "law" "law" (defArgs (top 30)) (defBody (top 30)) (defScope (top 30)) .none kV17 dc17 pm17 an17 cd17 ct17, fun s v => .of_eq rfl, fun base _ _ => ?_⟩
  refine (def_fin (f := "law") (fn := f_law) Φ_law (def_ok (GL base 9) F17 sc_f_law rfl rfl ok_f_law)).imp fun vs H Q E ⟨F0, A, W, es, k, y, r, p, ⟨ns, e1, e2, e3, e4, e5⟩, q, qx⟩ => ⟨F0, A, W, es, k, y, r, p, ?_, q, qx⟩
  subst e1 e4
  obtain ⟨W', hW⟩ := law_true ns e2 e3
  unfold Rc
  rw [hW]
  exact e5 W'
theorem walk {l : PySem.W.OpenLaw} {q : Program} {loose : List Str} {XP : (Str → Option Value) → Heap → Prop} {YP : World → Heap → Prop} {d : DefRec} {K : Params → PySem.W.Frag} (hn : l.most = some 63) (hdf : d.params.defaults = [])
    (hY : ∀ (w : World) (h : Heap), YP w h → (K w.params).In h)
    (F : ∀ (w : World) (mg : Str → Option Value) (fa : Addr) (h : Heap), (K w.params).In h → h.Ns mainGlobals mg → mg d.name = some (.ref fa) →
      ∃ fd : FuncData, (∀ (s : Shared) (u : Value), BindsTo s fd ⟨[u], []⟩ [("_law_script", u)]) ∧ ∀ base : Heap, (K w.params).In base → base.Ns mainGlobals mg → FnOk l.prog w (K w.params) mg base (CXe l.prog w) 10 fa fd ["_law_script"] (spX (K w.params) rLaw)) :
    PySem.W.WalkO q loose XP YP l.row.toRowW d [] (fun f vs => PySem.call f vs) :=
  L2.walk_ofB (n := 63) (k := 10) (x := "_law_script") (CX := fun w => CXe l.prog w) (sp := fun w => spX (K w.params) rLaw) hn (by decide) hdf ⟨rfl, by decide, by decide⟩ hY F (fun _ _ a ns hl hb _ hS => law_start hl hb hS) fun _ _ _ _ _ ⟨_, _, _, _, _, _, _, _, _, _, _, _, z⟩ => z
end K1
open PySem PySem.W PyProof.Rows
set_option maxRecDepth 100000 in
set_option maxHeartbeats 0 in
theorem PySem.Challenge.cw_talehands_k20_rows_that_keep_to_rooms_holds : PySem.Challenge.rw_talehands_k20_rows_that_keep_to_rooms.Holds := by
  w_on; o_law; k_head; (case hw => w_witness2)
  k_fill
  refine K1.walk (l := PySem.Challenge.rw_talehands_k20_rows_that_keep_to_rooms) rfl rfl (fun w h Y => PySem.W.kIn_of Y) ?F
  case F =>
    intro w mg fa h KX G hmg
    refine' K1.all_mk KX G hmg ?a0 ?l0 ?c0 ?k0 ?a1 ?l1 ?c1 ?k1 ?a2 ?l2 ?c2 ?k2 ?a3 ?l3 ?c3 ?k3 ?a4 ?l4 ?c4 ?k4 ?a5 ?l5 ?c5 ?k5 ?a6 ?l6 ?c6 ?k6 ?a7 ?l7 ?c7 ?k7 ?a8 ?l8 ?c8 ?k8 ?a9 ?l9 ?c9 ?k9 ?a10 ?l10 ?c10 ?k10 ?a11 ?l11 ?c11 ?k11 ?a12 ?l12 ?c12 ?k12 ?a13 ?l13 ?c13 ?k13 ?a14 ?l14 ?c14 ?k14 ?a15 ?l15 ?c15 ?k15 ?a16 ?l16 ?c16 ?k16 ?a17 ?l17 ?c17 ?k17 ?z0 ?z1 ?z2 ?z3 ?z4 ?z5 ?z6 ?z7 ?z8 ?z9 ?z10 ?z11 ?gKINDS ?hKINDS ?gLETTERS ?gLONGEST_NAME ?gMOST_ROOMS
    (case a0 => k_is)
    (case l0 => k_is)
    (case c0 => k_is)
    (case k0 => k_is)
    (case a1 => k_is)
    (case l1 => k_is)
    (case c1 => k_is)
    (case k1 => k_is)
    (case a2 => k_is)
    (case l2 => k_is)
    (case c2 => k_is)
    (case k2 => k_is)
    (case a3 => k_is)
    (case l3 => k_is)
    (case c3 => k_is)
    (case k3 => k_is)
    (case a4 => k_is)
    (case l4 => k_is)
    (case c4 => k_is)
    (case k4 => k_is)
    (case a5 => k_is)
    (case l5 => k_is)
    (case c5 => k_is)
    (case k5 => k_is)
    (case a6 => k_is)
    (case l6 => k_is)
    (case c6 => k_is)
    (case k6 => k_is)
    (case a7 => k_is)
    (case l7 => k_is)
    (case c7 => k_is)
    (case k7 => k_is)
    (case a8 => k_is)
    (case l8 => k_is)
    (case c8 => k_is)
    (case k8 => k_is)
    (case a9 => k_is)
    (case l9 => k_is)
    (case c9 => k_is)
    (case k9 => k_is)
    (case a10 => k_is)
    (case l10 => k_is)
    (case c10 => k_is)
    (case k10 => k_is)
    (case a11 => k_is)
    (case l11 => k_is)
    (case c11 => k_is)
    (case k11 => k_is)
    (case a12 => k_is)
    (case l12 => k_is)
    (case c12 => k_is)
    (case k12 => k_is)
    (case a13 => k_is)
    (case l13 => k_is)
    (case c13 => k_is)
    (case k13 => k_is)
    (case a14 => k_is)
    (case l14 => k_is)
    (case c14 => k_is)
    (case k14 => k_is)
    (case a15 => k_is)
    (case l15 => k_is)
    (case c15 => k_is)
    (case k15 => k_is)
    (case a16 => k_is)
    (case l16 => k_is)
    (case c16 => k_is)
    (case k16 => k_is)
    (case a17 => k_is)
    (case l17 => k_is)
    (case c17 => k_is)
    (case k17 => k_is)
    (case z0 => k_is)
    (case z1 => k_is)
    (case z2 => k_is)
    (case z3 => k_is)
    (case z4 => k_is)
    (case z5 => k_is)
    (case z6 => k_is)
    (case z7 => k_is)
    (case z8 => k_is)
    (case z9 => k_is)
    (case z10 => k_is)
    (case z11 => k_is)
    (case gKINDS => k_is)
    (case hKINDS => k_is)
    (case gLETTERS => k_is)
    (case gLONGEST_NAME => k_is)
    (case gMOST_ROOMS => k_is)
