import PyProof.Rows.All
import Wide.All
import OpenK.AllK
import Wide.FinOn
import Lean
import PyProof.EqAt
import PyProof.EqKinds
import PyProof.TupleCall
import PySem.Challenge.RW_talehands_k28_plots_refused
set_option Elab.async false
set_option linter.all false
set_option maxRecDepth 100000
set_option Elab.async false
set_option linter.all false
set_option maxRecDepth 100000
namespace L2
open PySem PySem.Spec PyProof.Rows
/-- a key: an int or a str -/
abbrev Key := Sum Int Str
def keyIs : Key → Value → Bool
  | .inl k, v => Value.isInt k v
  | .inr x, v => Value.isStrOf x v
def keyH (w : World) : Key → Int
  | .inl k => hashInt k
  | .inr x => hashStr w x
theorem keyIs_shape : ∀ {k : Key} {v : Value}, keyIs k v = true → (∃ i t, k = Sum.inl i ∧ v = Value.int i t) ∨ (∃ x t, k = Sum.inr x ∧ v = Value.str x t)
  | .inl i, v, h => by
    obtain ⟨t, e⟩ := Value.isInt_shape (k := i) (v := v) h
    exact .inl ⟨i, t, rfl, e⟩
  | .inr x, v, h => by
    obtain ⟨t, e⟩ := Value.isStrOf_shape (x := x) (v := v) h
    exact .inr ⟨x, t, rfl, e⟩
theorem keyIs_int (i : Int) (t : Tok) : keyIs (.inl i) (.int i t) = true := by simp [keyIs, Value.isInt]
theorem keyIs_str (x : Str) (t : Tok) : keyIs (.inr x) (.str x t) = true := by simp [keyIs, Value.isStrOf]
theorem key_ll (a b : Int) : decide ((Sum.inl a : Key) = Sum.inl b) = (a == b) := by
  by_cases e : a = b
  · subst e; simp
  · have h : ¬ (Sum.inl a : Key) = Sum.inl b := fun q => e (Sum.inl.inj q)
    rw [decide_eq_false h]
    exact (beq_eq_false_iff_ne.mpr e).symm
theorem key_rr (a b : Str) : decide ((Sum.inr a : Key) = Sum.inr b) = decide (a = b) := by
  by_cases e : a = b
  · subst e; simp
  · have h : ¬ (Sum.inr a : Key) = Sum.inr b := fun q => e (Sum.inr.inj q)
    rw [decide_eq_false h, decide_eq_false e]
theorem key_lr (a : Int) (b : Str) : decide ((Sum.inl a : Key) = Sum.inr b) = false := decide_eq_false (fun q => nomatch q)
theorem key_rl (a : Str) (b : Int) : decide ((Sum.inr a : Key) = Sum.inl b) = false := decide_eq_false (fun q => nomatch q)
def mixKind (prog : Program) (w : World) : PySem.KeyKind prog w Key where
  is := keyIs
  hash := keyH w
  inj := fun v a b ha hb => by
    rcases keyIs_shape ha with ⟨i, t, rfl, rfl⟩ | ⟨x, t, rfl, rfl⟩
    · rcases keyIs_shape hb with ⟨j, u, rfl, e⟩ | ⟨y, u, rfl, e⟩
      · injection e with e1 _; rw [e1]
      · exact nomatch e
    · rcases keyIs_shape hb with ⟨j, u, rfl, e⟩ | ⟨y, u, rfl, e⟩
      · exact nomatch e
      · injection e with e1 _; rw [e1]
  byValue := fun k v h => by
    rcases keyIs_shape h with ⟨i, t, rfl, rfl⟩ | ⟨x, t, rfl, rfl⟩ <;> rfl
  pyHash := fun hv h => by
    rcases keyIs_shape hv with ⟨i, t, rfl, rfl⟩ | ⟨x, t, rfl, rfl⟩
    · exact wpAny_pyHash_int h
    · exact wpAny_pyHash_str h
  eqBool := fun hu hv h => by
    rcases keyIs_shape hu with ⟨i, t, rfl, rfl⟩ | ⟨x, t, rfl, rfl⟩
    · rcases keyIs_shape hv with ⟨j, u, rfl, rfl⟩ | ⟨y, u, rfl, rfl⟩
      · rw [key_ll] at h; exact wpAny_eqBool_int h
      · rw [key_lr] at h; exact SeqAt.EqAt.int_str i t y u _ _ _ _ h
    · rcases keyIs_shape hv with ⟨j, u, rfl, rfl⟩ | ⟨y, u, rfl, rfl⟩
      · rw [key_rl] at h; exact SeqAt.EqAt.str_int x t j u _ _ _ _ h
      · rw [key_rr] at h; exact wpAny_eqBool_str h
  «strs» := fun k x t v h => by
    rcases keyIs_shape h with ⟨i, u, rfl, e⟩ | ⟨y, u, rfl, e⟩
    · exact nomatch e
    · injection e with e1 _
      subst e1
      cases v <;> rfl
theorem mixKind_int (prog : Program) (w : World) (i : Int) (t : Tok) : (mixKind prog w).is (.inl i) (.int i t) = true := keyIs_int i t
theorem mixKind_str (prog : Program) (w : World) (x : Str) (t : Tok) : (mixKind prog w).is (.inr x) (.str x t) = true := keyIs_str x t
end L2
namespace L2
open PySem PySem.Spec PyProof.Rows
/-- a value, without the heap -/
inductive V where
  | non | bl (b : Bool) | int (i : Int) | str (x : Str) | byt (b : Array UInt8) | flt (b : UInt64) | ref (a : Addr) | ty (n : String)
  deriving DecidableEq
def RelV : V → Value → Prop
  | .non, u => u = Value.none
  | .bl b, u => u = Value.bool b
  | .int i, u => ∃ t, u = Value.int i t
  | .str x, u => ∃ t, u = Value.str x t
  | .byt b, u => ∃ t, u = Value.bytes b t
  | .flt b, u => ∃ t, u = Value.float b t
  | .ref a, u => u = Value.ref a
  | .ty n, u => u = Value.type n
abbrev Vals : List V → List Value → Prop := Paired RelV
theorem Vals.length {xs : List V} {us : List Value} (r : Vals xs us) : xs.length = us.length := Paired.length r
theorem Vals.get : ∀ {xs : List V} {us : List Value} {i : Nat} {x : V}, Vals xs us → xs[i]? = some x → ∃ u, us[i]? = some u ∧ RelV x u
  | _, _, _, _, .nil, e => by simp at e
  | _, _, 0, _, .cons r _, e => by simp at e; subst e; exact ⟨_, rfl, r⟩
  | _, _, i + 1, x, .cons _ t, e => by
    obtain ⟨u, h1, h2⟩ := Vals.get (i := i) (x := x) t (by simpa using e)
    exact ⟨u, by simpa using h1, h2⟩
theorem Vals.set {x : V} {u : Value} (r : RelV x u) : ∀ {xs : List V} {us : List Value} (i : Nat), Vals xs us → Vals (xs.set i x) (us.set i u)
  | _, _, _, .nil => .nil
  | _, _, 0, .cons _ t => .cons r t
  | _, _, i + 1, .cons q t => .cons q (Vals.set r i t)
theorem Vals.append : ∀ {xs ys : List V} {us ws : List Value}, Vals xs us → Vals ys ws → Vals (xs ++ ys) (us ++ ws)
  | _, _, _, _, .nil, s => s
  | _, _, _, _, .cons r t, s => .cons r (Vals.append t s)
theorem Vals.take : ∀ {xs : List V} {us : List Value} (n : Nat), Vals xs us → Vals (xs.take n) (us.take n)
  | _, _, 0, _ => .nil
  | _, _, _ + 1, .nil => .nil
  | _, _, n + 1, .cons r t => .cons r (Vals.take n t)
theorem Vals.drop : ∀ {xs : List V} {us : List Value} (n : Nat), Vals xs us → Vals (xs.drop n) (us.drop n)
  | _, _, 0, r => r
  | _, _, _ + 1, .nil => .nil
  | _, _, n + 1, .cons _ t => Vals.drop n t
def RelO : Option V → Option Value → Prop
  | some v, some u => RelV v u
  | none, none => True
  | _, _ => False
def KV {κ : Type} : List (κ × V) → List (κ × Value) → Prop := Paired fun (p : κ × V) (q : κ × Value) => p.1 = q.1 ∧ RelV p.2 q.2
/-- a key of a dict (00_mix): an int or a text -/
def kV : Key → V
  | .inl i => .int i
  | .inr x => .str x
/-- what stands at a tracked address -/
inductive HO where
  /-- a list -/
  | lst (xs : List V)
  /-- a tuple (never changes) -/
  | tup (xs : List V)
  /-- a dict whose keys are ints and texts; one whose keys are tuples of ints and texts (the empty one is both) -/
  | dK (kvs : List (Key × V)) | dT (kvs : List (List Key × V))
  /-- a set of ints: its members, its size -/
  | set (S : Int → Bool) (n : Nat)
  /-- an instance of the class at C, its dict at dx, its attributes -/
  | ins (C dx : Addr) (fs : List (Str × V))
  /-- the dict of the instance at x -/
  | own (x : Addr)
  /-- the dict of an exception -/
  | xd (fs : List (Str × V))
  /-- a bound method, f of x -/
  | met (f x : Addr)
  /-- a range object lo, lo + 1, .. below hi -/
  | rng (lo hi : Int)
  /-- a thing that is known to the object (the script; a dict while a loop walks it): read, never written while it is so -/
  | frz (o : Obj) (u : HO)
  /-- a code object's table -/
  | tbl (ps : Array Value)
  /-- any other thing, by what is true of its one object (a def of one's own: SetO a S n := HO.ext fun h => ..) -/
  | ext (φ : Heap → Prop)
abbrev Hp := Addr → Option HO
def upd (H : Hp) (a : Addr) (o : HO) : Hp := fun b => if b = a then some o else H b
theorem upd_same {H : Hp} {a : Addr} {o : HO} : upd H a o a = some o := by unfold upd; rw [if_pos rfl]
theorem upd_ne {H : Hp} {a b : Addr} {o : HO} (h : b ≠ a) : upd H a o b = H b := by unfold upd; rw [if_neg h]
theorem upd_upd {H : Hp} {a : Addr} {o u : HO} : upd (upd H a o) a u = upd H a u := by
  funext b; unfold upd; split <;> rfl
theorem ne_of_none {H : Hp} {a b : Addr} {o : HO} (h : H a = some o) (h' : H b = none) : a ≠ b := by
  intro e; subst e; rw [h] at h'; cases h'
section
variable (P : Program) (w : World)
def ObjOk (H : Hp) (h : Heap) (a : Addr) : HO → Prop
  | .lst xs => xs.length ≤ sizeLine ∧ ∃ (its : List Value) (n : Nat), Vals xs its ∧ h.get? a = some { cls := .type "list", data := .seq its.toArray n }
  | .tup xs => xs.length ≤ sizeLine ∧ ∃ its : List Value, Vals xs its ∧ IsTup h a its.toArray
  | .dK kvs => kvs.length ≤ sizeLine ∧ (a == sysModules) = false ∧ ∃ vs, KV kvs vs ∧ h.DictOf (mixKind P w) a vs
  | .dT kvs => kvs.length ≤ sizeLine ∧ (a == sysModules) = false ∧ ∃ xs : List (List Key × Addr × Value),
      Paired (fun (p : List Key × V) (q : List Key × Addr × Value) => p.1 = q.1 ∧ H q.2.1 = some (.tup (p.1.map kV)) ∧ RelV p.2 q.2.2) kvs xs ∧
      ∃ o es ep, h.get? a = some o ∧ o.ExactDict ∧ o.data = .dict es ep ∧ es.toList = xs.map (entryOfKey (tupleKind (mixKind P w))) ∧ (xs.map (·.1)).Nodup
  | .set S n => h.SetOf (intKind P w) a S n
  | .ins C dx fs => H dx = some (.own a) ∧ fs.length ≤ 1000 ∧ dx ≠ a ∧ h.get? a = some (PySem.W.instObj C dx) ∧
      ∃ mA, h.Ns1 dx mA ∧ (∀ f, RelO (fs.lookup f) (mA f)) ∧ PySem.Within mA (fs.map (·.1))
  | .own _ => ∃ o, h.get? a = some o
  | .xd fs => ∃ mA, h.Ns1 a mA ∧ ∀ f, RelO (fs.lookup f) (mA f)
  | .rng lo hi => ∃ t u v, h.get? a = some { cls := .type "range", data := .fields #[.int lo t, .int hi u, .int 1 v] }
  | .frz o u => h.get? a = some o ∧ ObjOk H h a u
  | .tbl ps => h.get? a = some { cls := .none, data := .fields ps }
  | .met f x => h.get? a = some (PySem.W.methodObj (.ref f) (.ref x))
  | .ext φ => φ h ∧ (∃ o, h.get? a = some o) ∧ ∀ h1 h2 : Heap, φ h1 → (∀ o, h1.get? a = some o → h2.get? a = some o) → φ h2
/-- the abstract heap is held -/
def HOk (H : Hp) (h : Heap) : Prop := ∀ a o, H a = some o → ObjOk P w H h a o
end
section
variable {P : Program} {w : World} {H H' : Hp} {h h' : Heap} {a : Addr} {o : HO}
theorem ObjOk.lt (x : ObjOk P w H h a o) : a < h.objs.size := by
  cases o with
  | lst xs => obtain ⟨_, _, _, _, e⟩ := x; exact Heap.lt_size e
  | tup xs => obtain ⟨_, _, _, p⟩ := x; exact p.lt
  | dK kvs => obtain ⟨_, _, _, _, o, _, _, e, _⟩ := x; exact Heap.lt_size e
  | dT kvs => obtain ⟨_, _, _, _, o, _, _, e, _⟩ := x; exact Heap.lt_size e
  | set S n => obtain ⟨o, _, _, _, e, _⟩ := x; exact Heap.lt_size e
  | ins C dx fs => obtain ⟨_, _, _, e, _⟩ := x; exact Heap.lt_size e
  | own y => obtain ⟨_, e⟩ := x; exact Heap.lt_size e
  | xd fs => obtain ⟨_, ⟨_, _, _, e, _⟩, _⟩ := x; exact Heap.lt_size e
  | rng lo hi => obtain ⟨_, _, _, e⟩ := x; exact Heap.lt_size e
  | frz ob u => obtain ⟨e, _⟩ := x; exact Heap.lt_size e
  | tbl ps => exact Heap.lt_size (show h.get? a = some _ from x)
  | met f y => exact Heap.lt_size (show h.get? a = some _ from x)
  | ext φ => obtain ⟨_, ⟨_, e⟩, _⟩ := x; exact Heap.lt_size e
theorem Paired.mapP {α β : Type} {F G : α → β → Prop} : ∀ {l₁ : List α} {l₂ : List β}, Paired F l₁ l₂ → (∀ a b, F a b → G a b) → Paired G l₁ l₂
  | _, _, .nil, _ => .nil
  | _, _, .cons r t, f => .cons (f _ _ r) (Paired.mapP t f)
/-- what an object's description leans on: its own object, its own dict, the tuples -/
theorem ObjOk.stay (x : ObjOk P w H h a o) (k : ∀ b u, (b = a ∨ H b = some (.own a)) → h.get? b = some u → h'.get? b = some u)
    (ho : ∀ b, H b = some (.own a) → H' b = some (.own a)) (ht : ∀ b xs, H b = some (.tup xs) → H' b = some (.tup xs)) : ObjOk P w H' h' a o := by
  induction o with
  | lst xs => obtain ⟨z, its, n, r, e⟩ := x; exact ⟨z, its, n, r, k _ _ (.inl rfl) e⟩
  | tup xs => obtain ⟨z, its, r, ob, e, c⟩ := x; exact ⟨z, its, r, ob, k _ _ (.inl rfl) e, c⟩
  | dK kvs => obtain ⟨z, y, vs, r, ob, es, ep, e, c⟩ := x; exact ⟨z, y, vs, r, ob, es, ep, k _ _ (.inl rfl) e, c⟩
  | dT kvs =>
    obtain ⟨z, y, xs, r, ob, es, ep, e, c⟩ := x
    exact ⟨z, y, xs, Paired.mapP r fun p q z => ⟨z.1, ht _ _ z.2.1, z.2.2⟩, ob, es, ep, k _ _ (.inl rfl) e, c⟩
  | set S n => obtain ⟨ob, es, ep, t, e, c⟩ := x; exact ⟨ob, es, ep, t, k _ _ (.inl rfl) e, c⟩
  | ins C dx fs =>
    obtain ⟨d, z, ne, e, mA, ⟨od, es, ep, e2, c⟩, r⟩ := x
    exact ⟨ho _ d, z, ne, k _ _ (.inl rfl) e, mA, ⟨od, es, ep, k _ _ (.inr d) e2, c⟩, r⟩
  | own y => obtain ⟨ob, e⟩ := x; exact ⟨ob, k _ _ (.inl rfl) e⟩
  | xd fs => obtain ⟨mA, ⟨od, es, ep, e, c⟩, r⟩ := x; exact ⟨mA, ⟨od, es, ep, k _ _ (.inl rfl) e, c⟩, r⟩
  | rng lo hi => obtain ⟨t, u, v, e⟩ := x; exact ⟨t, u, v, k _ _ (.inl rfl) e⟩
  | frz ob u ih => obtain ⟨e, q⟩ := x; exact ⟨k _ _ (.inl rfl) e, ih q⟩
  | tbl ps =>
    have e : h.get? a = some { cls := .none, data := .fields ps } := x
    show h'.get? a = some { cls := .none, data := .fields ps }
    exact k a _ (.inl rfl) e
  | met f y =>
    have e : h.get? a = some (PySem.W.methodObj (.ref f) (.ref y)) := x
    show h'.get? a = some (PySem.W.methodObj (.ref f) (.ref y))
    exact k a _ (.inl rfl) e
  | ext φ => obtain ⟨p, ⟨o, e⟩, st⟩ := x; exact ⟨st _ _ p fun o q => k _ _ (.inl rfl) q, ⟨o, k _ _ (.inl rfl) e⟩, st⟩
theorem HOk.lt (x : HOk P w H h) (e : H a = some o) : a < h.objs.size := (x a o e).lt
theorem HOk.fresh (x : HOk P w H h) (e : h.objs.size ≤ a) : H a = none := by
  cases q : H a with
  | none => rfl
  | some u => exact absurd (Nat.lt_of_lt_of_le (x.lt q) e) (Nat.lt_irrefl _)
/-- every object of the heap is kept -/
theorem HOk.kept (x : HOk P w H h) (k : ∀ b u, h.get? b = some u → h'.get? b = some u) : HOk P w H h' := fun a o e =>
  (x a o e).stay (fun b u _ q => k b u q) (fun _ q => q) fun _ _ q => q
/-- a new object is laid and tracked -/
theorem HOk.laid (x : HOk P w H h) (k : ∀ b u, h.get? b = some u → h'.get? b = some u) (hp : h.objs.size ≤ a) (new : ObjOk P w (upd H a o) h' a o) : HOk P w (upd H a o) h' := fun b u e => by
  have hn := x.fresh hp
  by_cases hb : b = a
  · subst hb; rw [upd_same] at e; cases e; exact new
  · rw [upd_ne hb] at e
    exact (x b u e).stay (fun c v _ q => k c v q) (fun c q => by rw [upd_ne (ne_of_none q hn)]; exact q) fun c xs q => by rw [upd_ne (ne_of_none q hn)]; exact q
end
/-- what may be read as u: it is u, or a known u -/
def Rd (H : Hp) (a : Addr) (u : HO) : Prop := H a = some u ∨ ∃ o, H a = some (.frz o u)
theorem Rd.ok {P : Program} {w : World} {H : Hp} {h : Heap} {a : Addr} {u : HO} (r : Rd H a u) (x : HOk P w H h) : ObjOk P w H h a u := by
  rcases r with r | ⟨o, r⟩
  · exact x a u r
  · obtain ⟨_, q⟩ := x a _ r
    exact q
/-- what may be written -/
def Mut : Option HO → Prop
  | some (.lst _) => True
  | some (.dK _) => True
  | some (.dT _) => True
  | some (.set _ _) => True
  | some (.ins _ _ _) => True
  | some (.ext _) => True
  | _ => False
section
variable {P : Program} {w : World} {H : Hp} {h h' : Heap} {x e : Addr} {o' : HO}
/-- the object at e is changed: x itself, or the dict of the instance x -/
theorem HOk.write (ok : HOk P w H h) (mu : Mut (H x)) (he : e = x ∨ H e = some (.own x)) (k : ∀ b u, b ≠ e → h.get? b = some u → h'.get? b = some u) (heo : ∃ u, h'.get? e = some u)
    (new : ObjOk P w (upd H x o') h' x o') : HOk P w (upd H x o') h' := fun b u q => by
  have nown : ∀ c y, H c = some (.own y) → c ≠ x := fun c y r z => by subst z; rw [r] at mu; exact mu
  have ntup : ∀ c xs, H c = some (.tup xs) → c ≠ x := fun c xs r z => by subst z; rw [r] at mu; exact mu
  by_cases hb : b = x
  · subst hb; rw [upd_same] at q; cases q; exact new
  · rw [upd_ne hb] at q
    by_cases hbe : b = e
    · have q' : H b = some (.own x) := by
        rcases he with z | z
        · exact absurd (hbe.trans z) hb
        · rw [hbe]; exact z
      rw [q] at q'; cases q'
      obtain ⟨v, hv⟩ := heo
      exact ⟨v, by rw [hbe]; exact hv⟩
    · refine (ok b u q).stay (fun c v hc r => k c v ?_ r) (fun c r => by rw [upd_ne (nown c b r)]; exact r) fun c xs r => by rw [upd_ne (ntup c xs r)]; exact r
      rcases hc with rfl | hc
      · exact hbe
      · rintro rfl
        rcases he with z | z
        · exact nown c b hc z
        · rw [hc] at z; cases z; exact hb rfl
end
structure Un (fs ex : List Addr) (H H' : Hp) (h h' : Heap) : Prop where
  keep : ∀ b o, h.get? b = some o → H b = none → b ∉ fs → b ∉ ex → h'.get? b = some o
  slot : ∀ b o, h.get? b = some o → H b = none → b ∈ fs → b ∉ ex → ∃ sl, h'.get? b = some { o with slots := sl }
  free : ∀ b o, h.get? b = some o → H b = none → b ∉ ex → H' b = none
  there : ∀ b o, h.get? b = some o → b ∉ ex → ∃ o', h'.get? b = some o'
  tups : ∀ b xs, H b = some (.tup xs) → H' b = some (.tup xs)
  frzs : ∀ b o u, H b = some (.frz o u) → H' b = some (.frz o u)
  tbls : ∀ b ps, H b = some (.tbl ps) → ∃ more, H' b = some (.tbl (ps ++ more))
section
variable {fs fs' ex ex' : List Addr} {H H1 H2 : Hp} {h h1 h2 h' : Heap} {a x e : Addr} {o : HO}
theorem Un.any (u : Un fs ex H H1 h h1) {b : Addr} {ob : Obj} (q : h.get? b = some ob) (n : H b = none) (hx : b ∉ ex) : ∃ sl, h1.get? b = some { ob with slots := sl } := by
  by_cases hb : b ∈ fs
  · exact u.slot b ob q n hb hx
  · exact ⟨ob.slots, u.keep b ob q n hb hx⟩
theorem Un.kept (k : ∀ b u, h.get? b = some u → h'.get? b = some u) : Un fs ex H H h h' :=
  ⟨fun b ob q _ _ _ => k b ob q, fun b ob q _ _ _ => ⟨ob.slots, k b ob q⟩, fun _ _ _ n _ => n, fun b ob q _ => ⟨ob, k b ob q⟩, fun _ _ q => q, fun _ _ _ q => q, fun _ ps q => ⟨#[], by rw [q]; simp⟩⟩
theorem Un.refl : Un fs ex H H h h := Un.kept fun _ _ q => q
theorem Un.laid (k : ∀ b u, h.get? b = some u → h'.get? b = some u) (hp : h.objs.size ≤ a) (hn : H a = none) : Un fs ex H (upd H a o) h h' where
  keep := fun b u q _ _ _ => k b u q
  slot := fun b u q _ _ _ => ⟨u.slots, k b u q⟩
  free := fun b u q n _ => by rw [upd_ne (Nat.ne_of_lt (Nat.lt_of_lt_of_le (Heap.lt_size q) hp))]; exact n
  there := fun b u q _ => ⟨u, k b u q⟩
  tups := fun b xs q => by rw [upd_ne (ne_of_none q hn)]; exact q
  frzs := fun b u xs q => by rw [upd_ne (ne_of_none q hn)]; exact q
  tbls := fun b ps q => ⟨#[], by rw [upd_ne (ne_of_none q hn), q]; simp⟩
theorem Un.write (mu : Mut (H x)) (he : e = x ∨ H e = some (.own x)) (k : ∀ b u, b ≠ e → h.get? b = some u → h'.get? b = some u) (heo : ∃ u, h'.get? e = some u) : Un fs ex H (upd H x o) h h' := by
  have hx : ∀ b, H b = none → b ≠ x := fun b n z => by subst z; rw [n] at mu; exact mu
  have hb : ∀ b, H b = none → b ≠ e := fun b n z => by
    subst z
    rcases he with r | r
    · exact hx b n r
    · rw [n] at r; cases r
  have hm : ∀ b u, H b = some u → ¬ Mut (some u) → b ≠ x := fun b u q nm z => by subst z; rw [q] at mu; exact nm mu
  refine ⟨fun b u q n _ _ => k b u (hb b n) q, fun b u q n _ _ => ⟨u.slots, k b u (hb b n) q⟩, fun b u q n _ => by rw [upd_ne (hx b n)]; exact n, fun b u q _ => ?_,
    fun b xs q => by rw [upd_ne (hm b _ q fun z => z)]; exact q, fun b u xs q => by rw [upd_ne (hm b _ q fun z => z)]; exact q, fun b ps q => ⟨#[], by rw [upd_ne (hm b _ q fun z => z), q]; simp⟩⟩
  by_cases hbe : b = e
  · subst hbe; exact heo
  · exact ⟨u, k b u hbe q⟩
end
def trk (h : Heap) (H : Hp) : List Addr := (List.range h.objs.size).filter fun a => (H a).isSome
def hidT (h : Heap) (H : Hp) : Heap := PySem.W.hideAll h (trk h H)
theorem hidT_size (h : Heap) (H : Hp) : (hidT h H).objs.size = h.objs.size := PySem.W.hideAll_size _ _
theorem hidT_get {h : Heap} {H : Hp} {b : Addr} {o : Obj} (e : h.get? b = some o) (n : H b = none) : (hidT h H).get? b = some o :=
  PySem.W.hideAll_get _ e fun hm => by
    have q : (H b).isSome = true := (List.mem_filter.mp hm).2
    rw [n] at q; simp at q
theorem of_hidT {h : Heap} {H : Hp} {b : Addr} {o : Obj} (e : (hidT h H).get? b = some o) : h.get? b = some o ∧ H b = none := by
  have e' : h.get? b = some o := PySem.W.of_hideAll (trk h H) e
  refine ⟨e', ?_⟩
  cases q : H b with
  | none => rfl
  | some x =>
    have hm : b ∈ trk h H := List.mem_filter.mpr ⟨List.mem_range.mpr (Heap.lt_size e'), by simp [q]⟩
    have z : (hidT h H).get? b = none := PySem.W.hideAll_none (trk h H) hm
    rw [z] at e; cases e
end L2
namespace L2
open PySem PySem.Spec PyProof.Rows
/-- the module's facts, over the base: the heap at the law's entry without what is tracked there -/
structure Mod (K : PySem.W.Frag) (mg : Str → Option Value) (base : Heap) : Prop where
  kin : K.In base
  glob : base.Ns mainGlobals mg
  blt : ∃ mb, base.Ns builtinsNs mb ∧ ∀ x : Str, x ≠ "__name__" → mb x = bootBuiltins x
  nolimit : base.NoLimit
/-- the context: a def's body (or a comprehension's block) running. base: fixed through the whole law; s₀, H₀: the entry; outer: the frames whose slots others may change (a def's callers); stack: all frames that run;
   ex: iterators that were made ahead of the entry and are walked here (a comprehension's); fn: the names whose cells were made at the entry (a def: all; a comprehension's block: its own); calm: not within an except suite; pn: pins that every state bears; xe: what is wanted of an exception that leaves the code -/
structure Cx where
  prog : Program
  w : World
  K : PySem.W.Frag
  mg : Str → Option Value
  base : Heap
  A : Around
  N : List Str
  s₀ : Shared
  H₀ : Hp
  env : Env
  outer : List Env
  stack : List Env
  ex : List Addr
  fn : Str → Bool
  calm : Bool
  pn : List (Addr × Obj)
  xe : Value → Shared → Prop
/-- the callers' frames -/
def frs (l : List Env) : List Addr := l.filterMap (·.frame)
abbrev Cx.fs (X : Cx) : List Addr := frs X.outer
def Vis (sc : Scope) (x : Str) : Prop := sc.names.lookup x = some .local ∨ sc.names.lookup x = some .cell ∨ sc.names.lookup x = some .free
def Loc (sc : Scope) (x : Str) : Prop := sc.names.lookup x = some .local ∨ sc.names.lookup x = some .cell
def Look (env : Env) (h : Heap) (m : Str → Option Value) (x : Str) (u : Value) : Prop :=
  (env.kindOf x = some .local ∧ m x = some u) ∨ ((env.kindOf x = some .cell ∨ env.kindOf x = some .free) ∧ ∃ c, env.cells.lookup x = some c ∧ h.IsCell c (some u))
structure Cx.Ok (X : Cx) : Prop where
  mod : Mod X.K X.mg X.base
  kind : X.env.scope.kind = .function
  glob : X.env.globals = mainGlobals
  blt : X.env.builtins = builtinsNs
  above : X.s₀.heap.objs.size ≤ X.env.locals
  inj : ∀ x y c, X.env.cells.lookup x = some c → X.env.cells.lookup y = some c → x = y
  has : ∀ x, (X.env.kindOf x = some .cell ∨ X.env.kindOf x = some .free) → ∃ c, X.env.cells.lookup x = some c
  cab : ∀ x c, X.fn x = true → X.env.cells.lookup x = some c → X.s₀.heap.objs.size ≤ c
  hd : X.calm = true → X.A.handled = none
  frames : X.A.frames = some X.stack
  stk : X.stack = X.outer ∨ (X.stack = X.env :: X.outer ∧ X.env.frame = some X.env.locals)
  exf : ∀ b ∈ X.ex, b ≠ X.env.locals ∧ ∀ x c, X.env.cells.lookup x = some c → c ≠ b
  bs : ∀ b o, X.base.get? b = some o → X.s₀.heap.get? b = some o ∧ X.H₀ b = none
  bsz : X.base.objs.size ≤ X.s₀.heap.objs.size
  noex : ∀ b o, X.base.get? b = some o → b ∉ X.ex
  exfs : ∀ b ∈ X.ex, b ∉ X.fs
  funs : X.s₀.heap.FunFrames X.base X.outer
  frf : ∀ b ∈ X.fs, X.H₀ b = none
structure Inv (X : Cx) (pins : List (Addr × Obj)) (σ : List (Option V)) (H : Hp) (s : Shared) : Prop where
  ok : X.Ok
  os : s.os = X.s₀.os
  bare : AllBare s.gens
  base : Un X.fs X.ex X.H₀ H X.s₀.heap s.heap
  loc : ∃ m, s.heap.Ns X.env.locals m ∧ ∀ (i : Nat) (x : Str) (v : V), X.N[i]? = some x → σ[i]? = some (some v) → Vis X.env.scope x → ∃ u, RelV v u ∧ Look X.env s.heap m x u
  cell : ∀ x c, X.env.cells.lookup x = some c → ∃ v, s.heap.IsCell c v
  free : H X.env.locals = none
  freeC : ∀ x c, X.env.cells.lookup x = some c → H c = none
  pin : ∀ p ∈ X.pn ++ pins, s.heap.get? p.1 = some p.2 ∧ H p.1 = none ∧ p.1 ≠ X.env.locals ∧ p.1 ∉ X.fs ∧ ∀ v, p.2.data ≠ .cell v
  hok : HOk X.prog X.w H s.heap
  len : σ.length = X.N.length
section
variable {X : Cx} {pins : List (Addr × Obj)} {σ : List (Option V)} {H H' : Hp} {s : Shared} {h' : Heap}
theorem Cx.Ok.nofr (ok : X.Ok) {b : Addr} {o : Obj} (e : X.base.get? b = some o) : b ∉ X.fs := fun hb => by
  have := (ok.funs.mem hb).1
  rw [e] at this; cases this
theorem Inv.bs (I : Inv X pins σ H s) : ∀ b o, X.base.get? b = some o → s.heap.get? b = some o ∧ H b = none := fun b o e =>
  ⟨I.base.keep b o (I.ok.bs b o e).1 (I.ok.bs b o e).2 (I.ok.nofr e) (I.ok.noex b o e), I.base.free b o (I.ok.bs b o e).1 (I.ok.bs b o e).2 (I.ok.noex b o e)⟩
theorem Inv.bk (I : Inv X pins σ H s) : ∀ b o, X.base.get? b = some o → s.heap.get? b = some o := fun b o e => (I.bs b o e).1
theorem Inv.mod (I : Inv X pins σ H s) : Mod X.K X.mg X.base := I.ok.mod
theorem Inv.kIn (I : Inv X pins σ H s) : X.K.In s.heap := I.ok.mod.kin.keeps I.bk
/-- the frame over the base: for OpenK's rules (K.In X.base is I.mod.kin) -/
theorem Inv.fr (I : Inv X pins σ H s) : ∃ m, Fr X.base X.env.locals s.heap m :=
  let ⟨m, hn, _⟩ := I.loc
  ⟨m, hn, I.bk, Nat.le_trans I.ok.bsz I.ok.above⟩
theorem Inv.lt (I : Inv X pins σ H s) : X.env.locals < s.heap.objs.size := let ⟨_, hn, _⟩ := I.loc; hn.lt
theorem Inv.sz (I : Inv X pins σ H s) : X.s₀.heap.objs.size ≤ s.heap.objs.size := Nat.le_trans I.ok.above (Nat.le_of_lt I.lt)
theorem Inv.nofs (I : Inv X pins σ H s) {a : Addr} (h : s.heap.objs.size ≤ a) : a ∉ X.fs := fun hb => by
  obtain ⟨_, o, ho, _⟩ := I.ok.funs.mem hb
  exact absurd (Nat.lt_of_lt_of_le (Heap.lt_size ho) (Nat.le_trans I.sz h)) (Nat.lt_irrefl _)
theorem Inv.cne (I : Inv X pins σ H s) : ∀ x c, X.env.cells.lookup x = some c → c ≠ X.env.locals := fun x c e z => by
  obtain ⟨v, o, ho, hd⟩ := I.cell x c e
  obtain ⟨m, ⟨o', es, ep, ho', hd', _⟩, _⟩ := I.loc
  rw [z, ho'] at ho; cases ho; rw [hd'] at hd; cases hd
theorem Inv.funs (I : Inv X pins σ H s) : s.heap.FunFrames X.base X.outer := by
  have all : ∀ (l : List Env), (∀ b ∈ frs l, b ∈ X.fs) → X.s₀.heap.FunFrames X.base l → s.heap.FunFrames X.base l := by
    intro l
    induction l with
    | nil => intro _ _; trivial
    | cons env r ih =>
      intro hs hl
      obtain ⟨hk, ⟨L, o, hf, hn, ho, hd⟩, hr⟩ := hl
      have hL : L ∈ X.fs := hs L (by unfold frs; rw [List.filterMap_cons, hf]; exact List.mem_cons_self)
      obtain ⟨sl, e⟩ := I.base.slot L o ho (I.ok.frf L hL) hL fun z => I.ok.exfs L z hL
      exact ⟨hk, ⟨L, _, hf, hn, e, hd⟩, ih (fun b hb => hs b (by unfold frs; rw [List.filterMap_cons, hf]; exact List.mem_cons_of_mem _ hb)) hr⟩
  exact all X.outer (fun _ hb => hb) I.ok.funs
/-- the frames that run, for a call -/
theorem Inv.stack (I : Inv X pins σ H s) : s.heap.FunFrames X.base X.stack := by
  rcases I.ok.stk with e | ⟨e, hf⟩
  · rw [e]; exact I.funs
  · rw [e]
    obtain ⟨m, hn, _⟩ := I.loc
    refine .cons (by rw [I.ok.kind]; decide) hf hn ?_ I.funs
    exact Heap.get?_none_of_le (Nat.le_trans I.ok.bsz I.ok.above)
theorem Inv.stkSub (I : Inv X pins σ H s) : ∀ b ∈ frs X.stack, b ∈ X.env.locals :: X.fs := fun b hb => by
  rcases I.ok.stk with e | ⟨e, hf⟩
  · rw [e] at hb; exact List.mem_cons_of_mem _ hb
  · rw [e] at hb
    unfold frs at hb
    rw [List.filterMap_cons, hf] at hb
    exact hb
theorem Inv.stkFree (I : Inv X pins σ H s) : ∀ b ∈ frs X.stack, H b = none := fun b hb => by
  rcases List.mem_cons.mp (I.stkSub b hb) with e | hb
  · rw [e]; exact I.free
  · obtain ⟨_, o, ho, _⟩ := I.ok.funs.mem hb
    exact I.base.free b o ho (I.ok.frf b hb) fun z => I.ok.exfs b z hb
/-- THE STEP: the untracked objects but the frame and the records at ch are kept (the callers' frames up to slots), the frame's map is kept, the new abstract heap is held -/
theorem Inv.step {g' : Array GenState} {t' : Nat} {d' : Drawn} {ch : List Addr} (I : Inv X pins σ H s)
    (hch : ∀ b ∈ ch, (b ∈ X.ex ∨ X.s₀.heap.objs.size ≤ b) ∧ b ≠ X.env.locals ∧ (∀ x c, X.env.cells.lookup x = some c → c ≠ b) ∧ ∀ p ∈ X.pn ++ pins, p.1 ≠ b)
    (keep : ∀ b o, b ≠ X.env.locals → b ∉ X.fs → b ∉ ch → s.heap.get? b = some o → H b = none → h'.get? b = some o)
    (slot : ∀ b o, b ≠ X.env.locals → b ∈ X.fs → b ∉ ch → s.heap.get? b = some o → H b = none → ∃ sl, h'.get? b = some { o with slots := sl }) (free : ∀ b o, b ∉ ch → s.heap.get? b = some o → H b = none → H' b = none)
    (there : ∀ b o, b ∉ ch → s.heap.get? b = some o → ∃ o', h'.get? b = some o')
    (tups : ∀ b xs, H b = some (.tup xs) → H' b = some (.tup xs)) (frzs : ∀ b o u, H b = some (.frz o u) → H' b = some (.frz o u)) (tbls : ∀ b ps, H b = some (.tbl ps) → ∃ more, H' b = some (.tbl (ps ++ more)))
    (ns : ∀ m, s.heap.Ns X.env.locals m → h'.Ns X.env.locals m) (hok : HOk X.prog X.w H' h') (hg : AllBare g') :
    Inv X pins σ H' { s with heap := h', gens := g', drawn := d', toks := t' } := by
  have neL : ∀ b o, X.s₀.heap.get? b = some o → b ≠ X.env.locals := fun b o e => Nat.ne_of_lt (Nat.lt_of_lt_of_le (Heap.lt_size e) I.ok.above)
  have neC : ∀ b o, X.s₀.heap.get? b = some o → b ∉ X.ex → b ∉ ch := fun b o e hx hb => by
    rcases (hch b hb).1 with z | z
    · exact hx z
    · exact absurd (Nat.lt_of_lt_of_le (Heap.lt_size e) z) (Nat.lt_irrefl _)
  have cellK : ∀ x c, X.env.cells.lookup x = some c → ∀ v, s.heap.IsCell c v → h'.IsCell c v := fun x c e v ⟨o, ho, hd⟩ => by
    have nch : c ∉ ch := fun z => (hch c z).2.2.1 x c e rfl
    by_cases hc : c ∈ X.fs
    · obtain ⟨sl, q⟩ := slot c o (I.cne x c e) hc nch ho (I.freeC x c e)
      exact ⟨_, q, hd⟩
    · exact ⟨o, keep c o (I.cne x c e) hc nch ho (I.freeC x c e), hd⟩
  refine ⟨I.ok, I.os, hg, ⟨fun b o e n hb hx => ?_, fun b o e n hb hx => ?_, fun b o e n hx => ?_, fun b o e hx => ?_, fun b xs e => tups b xs (I.base.tups b xs e), fun b o xs e => frzs b o xs (I.base.frzs b o xs e), fun b ps e => ?_⟩, ?_, fun x c e => ?_, ?_, fun x c e => ?_, fun p hp => ?_, hok, I.len⟩
  · exact keep b o (neL b o e) hb (neC b o e hx) (I.base.keep b o e n hb hx) (I.base.free b o e n hx)
  · obtain ⟨sl, e1⟩ := I.base.slot b o e n hb hx
    obtain ⟨sl', e2⟩ := slot b _ (neL b o e) hb (neC b o e hx) e1 (I.base.free b o e n hx)
    exact ⟨sl', e2⟩
  · obtain ⟨o', e1⟩ := I.base.there b o e hx
    exact free b o' (neC b o e hx) e1 (I.base.free b o e n hx)
  · obtain ⟨o', e1⟩ := I.base.there b o e hx
    exact there b o' (neC b o e hx) e1
  · obtain ⟨m1, e1⟩ := I.base.tbls b ps e
    obtain ⟨m2, e2⟩ := tbls b _ e1
    exact ⟨m1 ++ m2, by rw [e2, Array.append_assoc]⟩
  · obtain ⟨m, hn, hl⟩ := I.loc
    refine ⟨m, ns m hn, fun i x v e1 e2 e3 => ?_⟩
    obtain ⟨u, r, l⟩ := hl i x v e1 e2 e3
    refine ⟨u, r, ?_⟩
    rcases l with l | ⟨k, c, e, z⟩
    · exact .inl l
    · exact .inr ⟨k, c, e, cellK x c e _ z⟩
  · obtain ⟨v, z⟩ := I.cell x c e
    exact ⟨v, cellK x c e v z⟩
  · obtain ⟨m, ⟨o, _, _, ho, _⟩, _⟩ := I.loc
    exact free _ o (fun z => (hch _ z).2.1 rfl) ho I.free
  · obtain ⟨v, o, ho, hd⟩ := I.cell x c e
    exact free c o (fun z => (hch c z).2.2.1 x c e rfl) ho (I.freeC x c e)
  · obtain ⟨e, n, ne, nf, d⟩ := I.pin p hp
    have nch : p.1 ∉ ch := fun z => (hch p.1 z).2.2.2 p hp rfl
    exact ⟨keep p.1 p.2 ne nf nch e n, free p.1 p.2 nch e n, ne, nf, d⟩
/-- .. where the frame's own object is kept too -/
theorem Inv.un {t' : Nat} (I : Inv X pins σ H s) (u : Un X.fs [] H H' s.heap h') (hok : HOk X.prog X.w H' h') : Inv X pins σ H' { s with heap := h', toks := t' } := by
  obtain ⟨m, ⟨o, es, ep, ho, r⟩, _⟩ := id I.loc
  obtain ⟨sl, hL⟩ := u.any ho I.free (by simp)
  exact I.step (g' := s.gens) (d' := s.drawn) (ch := []) (fun _ z => nomatch z) (fun b o _ hb _ e n => u.keep b o e n hb (by simp)) (fun b o _ hb _ e n => u.slot b o e n hb (by simp)) (fun b o _ e n => u.free b o e n (by simp)) (fun b o _ e => u.there b o e (by simp)) u.tups u.frzs u.tbls (fun m' hm => by
    obtain ⟨o', es', ep', ho', r'⟩ := hm
    rw [ho] at ho'; cases ho'
    exact ⟨_, es', ep', hL, r'⟩) hok I.bare
/-- behind a call (or a comprehension's block): the slots of this frame may have changed too, the records at ch may have turned -/
theorem Inv.call {g' : Array GenState} {t' : Nat} {d' : Drawn} {ch : List Addr} (I : Inv X pins σ H s) (u : Un (frs X.stack) ch H H' s.heap h') (hok : HOk X.prog X.w H' h') (hg : AllBare g')
    (hch : ∀ b ∈ ch, (b ∈ X.ex ∨ X.s₀.heap.objs.size ≤ b) ∧ b ≠ X.env.locals ∧ (∀ x c, X.env.cells.lookup x = some c → c ≠ b) ∧ ∀ p ∈ X.pn ++ pins, p.1 ≠ b) :
    Inv X pins σ H' { s with heap := h', gens := g', drawn := d', toks := t' } := by
  obtain ⟨m, ⟨o, es, ep, ho, r⟩, _⟩ := id I.loc
  obtain ⟨sl, hL⟩ := u.any ho I.free fun z => (hch _ z).2.1 rfl
  exact I.step (ch := ch) hch (fun b o hL hb hc e n => u.keep b o e n (fun z => (List.mem_cons.mp (I.stkSub b z)).elim hL hb) hc) (fun b o _ _ hc e n => u.any e n hc) (fun b o hc e n => u.free b o e n hc) (fun b o hc e => u.there b o e hc) u.tups u.frzs u.tbls (fun m' hm => by
    obtain ⟨o', es', ep', ho', r'⟩ := hm
    rw [ho] at ho'; cases ho'
    exact ⟨_, es', ep', hL, r'⟩) hok hg
/-- an untracked record of ours (an iterator) has turned -/
theorem Inv.turned {t' : Nat} {it : Addr} (I : Inv X pins σ H s) (k : ∀ b o, b ≠ it → s.heap.get? b = some o → h'.get? b = some o) (hn : H it = none) (hL : it ≠ X.env.locals)
    (h1 : it ∈ X.ex ∨ X.s₀.heap.objs.size ≤ it) (h2 : ∀ x c, X.env.cells.lookup x = some c → c ≠ it) (h3 : ∀ p ∈ X.pn ++ pins, p.1 ≠ it) : Inv X pins σ H { s with heap := h', toks := t' } := by
  have nit : ∀ b u, H b = some u → b ≠ it := fun b u e z => by rw [z, hn] at e; cases e
  refine I.step (g' := s.gens) (d' := s.drawn) (ch := [it]) (fun b hb => ?_) (fun b o _ _ hc e _ => k b o (fun z => hc (by simp [z])) e) (fun b o _ _ hc e _ => ⟨o.slots, k b o (fun z => hc (by simp [z])) e⟩) (fun _ _ _ _ n => n)
    (fun b o hc e => ⟨o, k b o (fun z => hc (by simp [z])) e⟩) (fun _ _ e => e) (fun _ _ _ e => e) (fun b ps e => ⟨#[], by rw [e]; simp⟩) (fun m hm => ?_) (fun b u e => ?_) I.bare
  · have e : b = it := by simpa using hb
    subst e
    exact ⟨h1, hL, h2, h3⟩
  · obtain ⟨o, es, ep, ho, r⟩ := hm
    exact ⟨o, es, ep, k _ o (Ne.symm hL) ho, r⟩
  · refine (I.hok b u e).stay (fun c v hc q => k c v ?_ q) (fun _ q => q) fun _ _ q => q
    rcases hc with z | z
    · rw [z]; exact nit b u e
    · exact nit c _ z
theorem Inv.tok (I : Inv X pins σ H s) (t : Nat) : Inv X pins σ H { s with toks := t } := I.un (h' := s.heap) (t' := t) Un.refl I.hok
/-- all objects kept -/
theorem Inv.kept {t' : Nat} (I : Inv X pins σ H s) (k : ∀ b u, s.heap.get? b = some u → h'.get? b = some u) : Inv X pins σ H { s with heap := h', toks := t' } := I.un (Un.kept k) (I.hok.kept k)
/-- a new object laid and tracked -/
theorem Inv.laid {a : Addr} {o : HO} {t' : Nat} (I : Inv X pins σ H s) (k : ∀ b u, s.heap.get? b = some u → h'.get? b = some u) (hp : s.heap.objs.size ≤ a) (new : ObjOk X.prog X.w (upd H a o) h' a o) :
    Inv X pins σ (upd H a o) { s with heap := h', toks := t' } := I.un (Un.laid k hp (I.hok.fresh hp)) (I.hok.laid k hp new)
/-- an object written -/
theorem Inv.write {x e : Addr} {o : HO} {t' : Nat} (I : Inv X pins σ H s) (mu : Mut (H x)) (he : e = x ∨ H e = some (.own x)) (k : ∀ b u, b ≠ e → s.heap.get? b = some u → h'.get? b = some u) (heo : ∃ u, h'.get? e = some u)
    (new : ObjOk X.prog X.w (upd H x o) h' x o) : Inv X pins σ (upd H x o) { s with heap := h', toks := t' } := I.un (Un.write mu he k heo) (I.hok.write mu he k heo new)
/-- forgetting slots, pins -/
theorem Inv.weak {σ' : List (Option V)} (I : Inv X pins σ H s) (hl : σ'.length = σ.length) (w : ∀ (i : Nat) v, σ'[i]? = some (some v) → σ[i]? = some (some v)) : Inv X pins σ' H s :=
  ⟨I.ok, I.os, I.bare, I.base, let ⟨m, hn, hl'⟩ := I.loc; ⟨m, hn, fun i x v e1 e2 e3 => hl' i x v e1 (w i v e2) e3⟩, I.cell, I.free, I.freeC, I.pin, I.hok, hl.trans I.len⟩
theorem Inv.pins_of {pins' : List (Addr × Obj)} (I : Inv X pins σ H s) (h : ∀ p ∈ pins', s.heap.get? p.1 = some p.2 ∧ H p.1 = none ∧ p.1 ≠ X.env.locals ∧ p.1 ∉ X.fs ∧ ∀ v, p.2.data ≠ .cell v) : Inv X pins' σ H s :=
  ⟨I.ok, I.os, I.bare, I.base, I.loc, I.cell, I.free, I.freeC, fun p hp => (List.mem_append.mp hp).elim (fun z => I.pin p (List.mem_append_left _ z)) (h p), I.hok, I.len⟩
theorem nodup_ix {N : List Str} (hN : N.Nodup) {i j : Nat} {x : Str} (a : N[i]? = some x) (b : N[j]? = some x) : i = j := by
  obtain ⟨h1, e1⟩ := List.getElem?_eq_some_iff.mp a
  obtain ⟨h2, e2⟩ := List.getElem?_eq_some_iff.mp b
  exact (List.getElem_inj hN).mp (e1.trans e2.symm)
/-- a name is stored; what changed -/
theorem store_ok2 {M : Model} {A : Around} {E : Value → Shared → Prop} {i : Nat} {x : Str} {v : V} {u : Value} {Q : Unit → Shared → Prop} (I : Inv X pins σ H s) (hN : X.N.Nodup) (hi : X.N[i]? = some x) (hx : Loc X.env.scope x) (r : RelV v u)
    (h : ∀ s', Inv X pins (σ.set i (some v)) H s' → (∃ a, Heap.SameBut a s.heap s'.heap ∧ (a = X.env.locals ∨ X.env.cells.lookup x = some a)) → Q () s') (hf : X.fn x = true ∨ X.env.scope.names.lookup x = some .local := by first | exact .inl rfl | exact .inr rfl | assumption) : wpAny M A (storeName X.env x u) Q E s := by
  obtain ⟨m, hn, hl⟩ := id I.loc
  have hcls : (X.env.scope.kind == .class || (X.env.scope.kind == .module && X.env.locals != X.env.globals)) = false := by rw [I.ok.kind]; rfl
  have hiσ : i < σ.length := by rw [I.len]; exact (List.getElem?_eq_some_iff.mp hi).1
  have cne := I.cne
  have tracked : ∀ {a : Addr} {h' : Heap}, (∃ o, s.heap.get? a = some o ∧ H a = none) → Heap.SameBut a s.heap h' → HOk X.prog X.w H h' := fun {a h'} ha hs b ob e => by
    obtain ⟨_, _, hfree⟩ := ha
    refine (I.hok b ob e).stay (fun c w' hc q => (hs.2 c ?_).trans q) (fun _ q => q) fun _ _ q => q
    rintro rfl
    rcases hc with rfl | hc
    · rw [hfree] at e; cases e
    · rw [hfree] at hc; cases hc
  rcases hx with hk | hk
  · refine wpAny_storeName_local hk hn (fun h' hn' hs => ?_) hcls
    obtain ⟨oL, _, _, hoL, _⟩ := id hn
    refine h _ ⟨I.ok, I.os, I.bare, ⟨fun b o e n hb hx => ?_, fun b o e n hb hx => ?_, I.base.free, fun b o e hx => ?_, I.base.tups, I.base.frzs, I.base.tbls⟩, ⟨_, hn', fun j y v' e1 e2 e3 => ?_⟩, fun y c e => ?_, I.free, I.freeC, fun p hp => ?_, tracked ⟨oL, hoL, I.free⟩ hs, by simpa using I.len⟩ ⟨_, hs, .inl rfl⟩
    · exact (hs.2 b (Nat.ne_of_lt (Nat.lt_of_lt_of_le (Heap.lt_size e) I.ok.above))).trans (I.base.keep b o e n hb hx)
    · obtain ⟨sl, e1⟩ := I.base.slot b o e n hb hx
      exact ⟨sl, (hs.2 b (Nat.ne_of_lt (Nat.lt_of_lt_of_le (Heap.lt_size e) I.ok.above))).trans e1⟩
    · obtain ⟨o', e1⟩ := I.base.there b o e hx
      exact ⟨o', (hs.2 b (Nat.ne_of_lt (Nat.lt_of_lt_of_le (Heap.lt_size e) I.ok.above))).trans e1⟩
    · by_cases hj : j = i
      · subst hj
        rw [hi] at e1; cases e1
        rw [List.getElem?_set_self hiσ] at e2
        cases e2
        exact ⟨u, r, .inl ⟨hk, by simp⟩⟩
      · rw [List.getElem?_set_ne (Ne.symm hj)] at e2
        obtain ⟨u', r', q⟩ := hl j y v' e1 e2 e3
        refine ⟨u', r', ?_⟩
        rcases q with ⟨k, e⟩ | ⟨k, c, e, z⟩
        · refine .inl ⟨k, ?_⟩
          have : y ≠ x := fun e => hj (nodup_ix hN e1 (e ▸ hi))
          simp [this, e]
        · exact .inr ⟨k, c, e, z.sameBut hs (cne y c e)⟩
    · obtain ⟨w', z⟩ := I.cell y c e
      exact ⟨w', z.sameBut hs (cne y c e)⟩
    · obtain ⟨e, n, ne, nf, d⟩ := I.pin p hp
      exact ⟨(hs.2 p.1 ne).trans e, n, ne, nf, d⟩
  · have hfn : X.fn x = true := by
      rcases hf with z | z
      · exact z
      · rw [z] at hk; cases hk
    obtain ⟨c, hc⟩ := I.ok.has x (.inl hk)
    obtain ⟨w', z⟩ := I.cell x c hc
    refine wpAny_storeName_cell I.ok.kind hk hc z (fun h' hc' hs => ?_)
    obtain ⟨oc, hoc, hocd⟩ := id z
    refine h { s with heap := h' } ⟨I.ok, I.os, I.bare, ⟨fun b o e n hb hx => ?_, fun b o e n hb hx => ?_, I.base.free, fun b o e hx => ?_, I.base.tups, I.base.frzs, I.base.tbls⟩, ⟨m, hn.sameBut hs (Ne.symm (cne x c hc)), fun j y v' e1 e2 e3 => ?_⟩, fun y c' e => ?_, I.free, I.freeC, fun p hp => ?_, tracked ⟨oc, hoc, I.freeC x c hc⟩ hs, by simpa using I.len⟩ ⟨c, hs, .inr hc⟩
    · exact (hs.2 b (Nat.ne_of_lt (Nat.lt_of_lt_of_le (Heap.lt_size e) (I.ok.cab x c hfn hc)))).trans (I.base.keep b o e n hb hx)
    · obtain ⟨sl, e1⟩ := I.base.slot b o e n hb hx
      exact ⟨sl, (hs.2 b (Nat.ne_of_lt (Nat.lt_of_lt_of_le (Heap.lt_size e) (I.ok.cab x c hfn hc)))).trans e1⟩
    · obtain ⟨o', e1⟩ := I.base.there b o e hx
      exact ⟨o', (hs.2 b (Nat.ne_of_lt (Nat.lt_of_lt_of_le (Heap.lt_size e) (I.ok.cab x c hfn hc)))).trans e1⟩
    · by_cases hj : j = i
      · subst hj
        rw [hi] at e1; cases e1
        rw [List.getElem?_set_self hiσ] at e2
        cases e2
        exact ⟨u, r, .inr ⟨.inl hk, c, hc, hc'⟩⟩
      · rw [List.getElem?_set_ne (Ne.symm hj)] at e2
        obtain ⟨u', r', q⟩ := hl j y v' e1 e2 e3
        refine ⟨u', r', ?_⟩
        rcases q with q | ⟨k, c', e, z'⟩
        · exact .inl q
        · refine .inr ⟨k, c', e, z'.sameBut hs ?_⟩
          rintro rfl
          exact hj (nodup_ix hN e1 (I.ok.inj _ _ _ e hc ▸ hi))
    · by_cases hcc : c' = c
      · subst hcc; exact ⟨_, hc'⟩
      · obtain ⟨w2, z2⟩ := I.cell y c' e
        exact ⟨w2, z2.sameBut hs hcc⟩
    · obtain ⟨e, n, ne, nf, d⟩ := I.pin p hp
      refine ⟨(hs.2 p.1 ?_).trans e, n, ne, nf, d⟩
      intro q
      rw [q, hoc] at e
      have q' : oc = p.2 := Option.some.inj e
      exact d w' (by rw [← q']; exact hocd)
theorem store_ok {M : Model} {A : Around} {E : Value → Shared → Prop} {i : Nat} {x : Str} {v : V} {u : Value} {Q : Unit → Shared → Prop} (I : Inv X pins σ H s) (hN : X.N.Nodup) (hi : X.N[i]? = some x) (hx : Loc X.env.scope x) (r : RelV v u)
    (h : ∀ s', Inv X pins (σ.set i (some v)) H s' → Q () s') (hf : X.fn x = true ∨ X.env.scope.names.lookup x = some .local := by first | exact .inl rfl | exact .inr rfl | assumption) : wpAny M A (storeName X.env x u) Q E s :=
  store_ok2 I hN hi hx r (fun s' I' _ => h s' I') hf
/-- behind a call or a block, the state as it is -/
theorem Inv.call' {s' : Shared} {ch : List Addr} (I : Inv X pins σ H s) (ho : s'.os = s.os) (u : Un (frs X.stack) ch H H' s.heap s'.heap) (hok : HOk X.prog X.w H' s'.heap) (hg : AllBare s'.gens)
    (hch : ∀ b ∈ ch, (b ∈ X.ex ∨ X.s₀.heap.objs.size ≤ b) ∧ b ≠ X.env.locals ∧ (∀ x c, X.env.cells.lookup x = some c → c ≠ b) ∧ ∀ p ∈ X.pn ++ pins, p.1 ≠ b) : Inv X pins σ H' s' := by
  obtain ⟨h', g', d', t', o'⟩ := s'
  have e : o' = s.os := ho
  subst e
  exact I.call (g' := g') (t' := t') (d' := d') u hok hg hch
end
/-- an exception: its class, its own dict's address (where it has one), the abstract heap behind it -/
abbrev XK := Value → Option Addr → Hp → Prop
abbrev St := List (Option V)
abbrev VK := V → Hp → Prop
/-- an expression's reading; a test's; an argument list's -/
abbrev TE := St → Hp → VK → Prop
abbrev TT := St → Hp → (Bool → Hp → Prop) → Prop
abbrev TA := St → Hp → (List V → Hp → Prop) → Prop
/-- what is wanted behind a statement -/
structure Ends where
  nx : St → Hp → Prop
  rt : VK
  bk : St → Hp → Prop := fun _ _ => False
  ct : St → Hp → Prop := fun _ _ => False
abbrev TS := Ends → St → Hp → Prop
def EP (X : Cx) (pins : List (Addr × Obj)) (σ : St) (Q : VK) (u : Value) (s' : Shared) : Prop := ∃ v H', Inv X pins σ H' s' ∧ RelV v u ∧ Q v H'
def TP (X : Cx) (pins : List (Addr × Obj)) (σ : St) (Q : Bool → Hp → Prop) (b : Bool) (s' : Shared) : Prop := ∃ H', Inv X pins σ H' s' ∧ Q b H'
def AP (X : Cx) (pins : List (Addr × Obj)) (σ : St) (Q : List V → Hp → Prop) (us : List Value) (s' : Shared) : Prop := ∃ vs H', Inv X pins σ H' s' ∧ Vals vs us ∧ Q vs H'
def SP (X : Cx) (pins : List (Addr × Obj)) (D : Ends) (f : Flow) (s' : Shared) : Prop :=
  match f with
  | .next => ∃ σ' H', Inv X pins σ' H' s' ∧ D.nx σ' H'
  | .brk => ∃ σ' H', Inv X pins σ' H' s' ∧ D.bk σ' H'
  | .cont => ∃ σ' H', Inv X pins σ' H' s' ∧ D.ct σ' H'
  | .ret u => ∃ v σ' H', Inv X pins σ' H' s' ∧ RelV v u ∧ D.rt v H'
def PE (X : Cx) (e : Expr) (t : TE) : Prop :=
  ∀ (pins : List (Addr × Obj)) (s : Shared) (σ : St) (H : Hp) (Q : VK), Inv X pins σ H s → t σ H Q → wpAny (model X.prog X.w) X.A (eval e X.env) (EP X pins σ Q) X.xe s
def PT (X : Cx) (e : Expr) (t : TT) : Prop :=
  ∀ (pins : List (Addr × Obj)) (s : Shared) (σ : St) (H : Hp) (Q : Bool → Hp → Prop), Inv X pins σ H s → t σ H Q → wpAny (model X.prog X.w) X.A (isTrue e X.env (eval e X.env)) (TP X pins σ Q) X.xe s
/-- a test whatever its 'whole' is (and, or) -/
def PW (X : Cx) (e : Expr) (t : TT) : Prop :=
  ∀ (whole : Sem Value) (pins : List (Addr × Obj)) (s : Shared) (σ : St) (H : Hp) (Q : Bool → Hp → Prop), Inv X pins σ H s → t σ H Q → wpAny (model X.prog X.w) X.A (isTrue e X.env whole) (TP X pins σ Q) X.xe s
theorem PW.pt {X : Cx} {e : Expr} {t : TT} (h : PW X e t) : PT X e t := h _
/-- an argument list (no star), from the left -/
def PA (X : Cx) (es : List Expr) (t : TA) : Prop :=
  ∀ (pos : Pos) (pins : List (Addr × Obj)) (s : Shared) (σ : St) (H : Hp) (Q : List V → Hp → Prop), Inv X pins σ H s → t σ H Q → wpAny (model X.prog X.w) X.A (spliced (backTo pos (starEach es X.env))) (AP X pins σ Q) X.xe s
def PS (X : Cx) (st : Stmt) (t : TS) : Prop :=
  ∀ (pins : List (Addr × Obj)) (s : Shared) (σ : St) (H : Hp) (D : Ends), Inv X pins σ H s → t D σ H → wpAny (model X.prog X.w) X.A (exec st X.env) (SP X pins D) X.xe s
def PSs (X : Cx) (st : List Stmt) (t : TS) : Prop :=
  ∀ (pins : List (Addr × Obj)) (s : Shared) (σ : St) (H : Hp) (D : Ends), Inv X pins σ H s → t D σ H → wpAny (model X.prog X.w) X.A (execs st X.env) (SP X pins D) X.xe s
/-- weaken the end -/
theorem thn {α : Type} {t : Sem α} {Q Q' : α → Shared → Prop} {M : Model} {A : Around} {E : Value → Shared → Prop} {s : Shared} (h : wpAny M A t Q E s) (hQ : ∀ a s, Q a s → Q' a s) : wpAny M A t Q' E s := wpAny_mono h hQ fun _ _ x => x
end L2
namespace L2
open PySem PySem.Spec PyProof.Rows
section
variable {X : Cx}
def tVar (i : Nat) : TE := fun σ H Q => ∃ v, σ[i]? = some (some v) ∧ Q v H
def tC (v : V) : TE := fun _ H Q => Q v H
theorem pe_var {i : Nat} {x : Str} {pos : Pos} (hN : X.N[i]? = some x) (hv : Vis X.env.scope x) (hd : (x == ("__debug__" : Str)) = false := by decide) (hcd : (x == ("__classdict__" : Str)) = false := by decide) : PE X (.Name x pos) (tVar i) := by
  intro pins s σ H Q I h
  obtain ⟨v, e, h⟩ := h
  obtain ⟨m, hn, hl⟩ := I.loc
  obtain ⟨u, r, l⟩ := hl i x v hN e hv
  have fin : EP X pins σ Q u s := ⟨v, H, I, r, h⟩
  rcases l with ⟨hk, hm⟩ | ⟨hk, c, hc, hcell⟩
  · exact wpAny_Name (wpAny_loadName_local I.ok.kind hk hn hm fin) hd
  · rcases hk with hk | hk
    · exact wpAny_Name (wpAny_loadName_cell I.ok.kind hk hc hcell fin) hd
    · exact wpAny_Name (wpAny_loadName_free I.ok.kind hk hc hcell fin hcd) hd
theorem pe_int {i j pos} : PE X (.Constant (.int i) j pos) (tC (.int i)) := fun _ _ _ H _ I h => wpAny_Constant_int ⟨.int i, H, I.tok _, ⟨_, rfl⟩, h⟩
theorem pe_bl {b j pos} : PE X (.Constant (.bool b) j pos) (tC (.bl b)) := fun _ _ _ H _ I h => Constant_bool ⟨.bl b, H, I, rfl, h⟩
theorem pe_non {j pos} : PE X (.Constant .none j pos) (tC .non) := fun _ _ _ H _ I h => Constant_none ⟨.non, H, I, rfl, h⟩
theorem pe_str {x j pos} : PE X (.Constant (.str x) j pos) (tC (.str x)) := fun _ _ _ H _ I h => Calls.Constant_str ⟨.str x, H, I.tok _, ⟨_, rfl⟩, h⟩
/-- a global name of the def -/
def Gl (X : Cx) (x : Str) : Prop := X.env.kindOf x = some .globalImplicit
theorem ld_glob {E : Value → Shared → Prop} {pins : List (Addr × Obj)} {s : Shared} {σ : St} {H : Hp} {x : Str} {u : Value} {pos : Pos} {Q : Value → Shared → Prop} (I : Inv X pins σ H s) (hg : Gl X x) (hm : X.mg x = some u) (h : Q u s)
    (hd : (x == ("__debug__" : Str)) = false := by decide) : wpAny (model X.prog X.w) X.A (eval (.Name x pos) X.env) Q E s :=
  Calls.Name_function_global I.ok.kind hg (Calls.loadGlobal_global (by rw [I.ok.glob]; exact I.mod.glob.keeps I.bk) hm h) hd
theorem ld_blt {E : Value → Shared → Prop} {pins : List (Addr × Obj)} {s : Shared} {σ : St} {H : Hp} {x : Str} {u : Value} {pos : Pos} {Q : Value → Shared → Prop} (I : Inv X pins σ H s) (hg : Gl X x) (hm : X.mg x = none) (hv : bootBuiltins x = some u) (h : Q u s)
    (hn : x ≠ "__name__" := by decide) (hd : (x == ("__debug__" : Str)) = false := by decide) : wpAny (model X.prog X.w) X.A (eval (.Name x pos) X.env) Q E s := by
  obtain ⟨mb, h1, h2⟩ := I.mod.blt
  exact Calls.Name_function_global I.ok.kind hg (Calls.loadGlobal_builtin (by rw [I.ok.glob]; exact I.mod.glob.keeps I.bk) hm (by rw [I.ok.blt]; exact h1.keeps I.bk) ((h2 x hn).trans hv) h) hd
/-- a module's constant, a class, a function, as a value -/
theorem pe_glob {x : Str} {v : V} {u : Value} {pos : Pos} (hg : Gl X x) (hm : X.mg x = some u) (r : RelV v u) (hd : (x == ("__debug__" : Str)) = false := by decide) : PE X (.Name x pos) (tC v) :=
  fun _ _ _ H _ I h => ld_glob I hg hm ⟨v, H, I, r, h⟩ hd
theorem pe_bltn {x : Str} {v : V} {u : Value} {pos : Pos} (hg : Gl X x) (hm : X.mg x = none) (hv : bootBuiltins x = some u) (r : RelV v u) (hn : x ≠ "__name__" := by decide) (hd : (x == ("__debug__" : Str)) = false := by decide) : PE X (.Name x pos) (tC v) :=
  fun _ _ _ H _ I h => ld_blt I hg hm hv ⟨v, H, I, r, h⟩ hn hd
variable {a b : Expr} {ta tb : TE} {pos : Pos}
/-- a comparison as a value, as a test -/
def tB (t : TE) : TT := fun σ H Q => t σ H fun x H1 => ∃ c, x = .bl c ∧ Q c H1
/-- an expression whose value is a bool, as a test -/
theorem pt_val {e : Expr} {t : TE} (h : PE X e t) (he : ∀ whole, isTrue e X.env whole = (do let v ← whole; standAt e.pos; holding [v] (truthy v)) := by intro _; rfl) : PT X e (tB t) := by
  intro pins s σ H Q I hw
  refine isTrue_plain (thn (h pins s σ H _ I hw) fun v s1 ⟨x, H1, I1, r1, q1⟩ => ?_) (he _)
  obtain ⟨d, rfl, q⟩ := q1
  cases r1
  exact wpAny_truthy_bool ⟨H1, I1, q⟩
variable {tA tB' : TT} {rest : List Expr}
def tAnd (t u : TT) : TT := fun σ H Q => t σ H fun c H1 => if c = true then u σ H1 Q else Q false H1
def tOr (t u : TT) : TT := fun σ H Q => t σ H fun c H1 => if c = true then Q true H1 else u σ H1 Q
def tNot (t : TT) : TT := fun σ H Q => t σ H fun c H1 => Q (!c) H1
theorem pw_and1 (ha : PT X a tA) : PW X (.BoolOp .And [a] pos) tA := by
  intro wh pins s σ H Q I h
  refine isTrue_and (thn (ha pins s σ H Q I h) fun c s1 e => ?_)
  cases c with
  | true => exact isTrue_and_nil e
  | false => exact e
theorem pw_or1 (ha : PT X a tA) : PW X (.BoolOp .Or [a] pos) tA := by
  intro wh pins s σ H Q I h
  refine isTrue_or (thn (ha pins s σ H Q I h) fun c s1 e => ?_)
  cases c with
  | false => exact isTrue_or_nil e
  | true => exact e
theorem pw_and (ha : PT X a tA) (hb : PW X (.BoolOp .And (b :: rest) pos) tB') : PW X (.BoolOp .And (a :: b :: rest) pos) (tAnd tA tB') := by
  intro wh pins s σ H Q I h
  refine isTrue_and (thn (ha pins s σ H _ I h) fun c s1 ⟨H1, I1, q1⟩ => ?_)
  cases c with
  | true => exact hb wh pins s1 σ H1 Q I1 q1
  | false => exact ⟨H1, I1, q1⟩
theorem pw_or (ha : PT X a tA) (hb : PW X (.BoolOp .Or (b :: rest) pos) tB') : PW X (.BoolOp .Or (a :: b :: rest) pos) (tOr tA tB') := by
  intro wh pins s σ H Q I h
  refine isTrue_or (thn (ha pins s σ H _ I h) fun c s1 ⟨H1, I1, q1⟩ => ?_)
  cases c with
  | true => exact ⟨H1, I1, q1⟩
  | false => exact hb wh pins s1 σ H1 Q I1 q1
theorem pt_not (ha : PT X a tA) : PT X (.UnaryOp .Not a pos) (tNot tA) := by
  intro pins s σ H Q I h
  exact isTrue_not (ha pins s σ H (fun c H1 => Q (!c) H1) I h)
/-- .. as values (bools) -/
def tAndV (ta tb : TE) : TE := fun σ H Q => ta σ H fun x H1 => ∃ c, x = .bl c ∧ if c = true then tb σ H1 Q else Q (.bl false) H1
def tNotV (ta : TE) : TE := fun σ H Q => ta σ H fun x H1 => ∃ c, x = .bl c ∧ Q (.bl (!c)) H1
theorem pe_one {op} {t : TE} (h : PE X a t) : PE X (.BoolOp op [a] pos) t := fun pins s σ H Q I hw => BoolOp_one (h pins s σ H Q I hw)
theorem pe_and (ha : PE X a ta) (hb : PE X (.BoolOp .And (b :: rest) pos) tb) : PE X (.BoolOp .And (a :: b :: rest) pos) (tAndV ta tb) := by
  intro pins s σ H Q I h
  refine BoolOp_and (thn (ha pins s σ H _ I h) fun v s1 ⟨x, H1, I1, r1, q1⟩ => ?_)
  obtain ⟨c, rfl, q1⟩ := q1
  cases r1
  refine wpAny_truthy_bool ?_
  cases c with
  | true => exact hb pins s1 σ H1 Q I1 q1
  | false => exact ⟨.bl false, H1, I1, rfl, q1⟩
theorem pe_not (ha : PE X a ta) : PE X (.UnaryOp .Not a pos) (tNotV ta) := by
  intro pins s σ H Q I h
  refine UnaryOp_ (thn (ha pins s σ H _ I h) fun v s1 ⟨x, H1, I1, r1, q1⟩ => ?_)
  obtain ⟨c, rfl, q1⟩ := q1
  cases r1
  exact not_of (wpAny_truthy_bool ⟨.bl (!c), H1, I1, rfl, q1⟩)
/-- a if t else b -/
def tIf (t : TT) (ta tb : TE) : TE := fun σ H Q => t σ H fun c H1 => if c = true then ta σ H1 Q else tb σ H1 Q
theorem pe_ifExp {c : Expr} (hc : PT X c tA) (ha : PE X a ta) (hb : PE X b tb) : PE X (.IfExp c a b pos) (tIf tA ta tb) := by
  intro pins s σ H Q I h
  refine wpAny_IfExp (thn (hc pins s σ H _ I h) fun d s1 ⟨H1, I1, q1⟩ => ?_)
  cases d with
  | true => exact ha pins s1 σ H1 Q I1 q1
  | false => exact hb pins s1 σ H1 Q I1 q1
end
end L2
namespace L2
open PySem PySem.Spec PyProof.Rows
def SqL (K : PySem.W.Frag) (H : Hp) (a : Addr) (xs : List V) : Prop :=
  Rd H a (.lst xs) ∨
    ∃ (o : Obj) (its : Array Value) (n : Nat), K.lookup a = some o ∧ o.cls = .type "list" ∧ o.dict = none ∧ o.data = .seq its n ∧ its.size ≤ sizeLine ∧ Vals xs its.toList
def SqT (K : PySem.W.Frag) (H : Hp) (a : Addr) (xs : List V) : Prop :=
  Rd H a (.tup xs) ∨
    ∃ (o : Obj) (its : Array Value) (n : Nat), K.lookup a = some o ∧ o.cls = .type "tuple" ∧ o.data = .seq its n ∧ its.size ≤ sizeLine ∧ Vals xs its.toList
def absV : Value → Option V
  | .none => some .non
  | .bool b => some (.bl b)
  | .int i _ => some (.int i)
  | .str x _ => some (.str x)
  | .bytes b _ => some (.byt b)
  | .float b _ => some (.flt b)
  | .ref a => some (.ref a)
  | .type n => some (.ty n)
  | _ => none
theorem RelV.abs {x : V} {u : Value} (r : RelV x u) : absV u = some x := by
  cases x with
  | non => cases r; rfl
  | bl _ => cases r; rfl
  | int _ => obtain ⟨t, rfl⟩ := r; rfl
  | str _ => obtain ⟨t, rfl⟩ := r; rfl
  | byt _ => obtain ⟨t, rfl⟩ := r; rfl
  | flt _ => obtain ⟨t, rfl⟩ := r; rfl
  | ref _ => cases r; rfl
  | ty _ => cases r; rfl
theorem RelV.inj {x y : V} {u : Value} (r : RelV x u) (q : RelV y u) : x = y := Option.some.inj (r.abs.symm.trans q.abs)
theorem Vals.inj : ∀ {xs ys : List V} {us : List Value}, Vals xs us → Vals ys us → xs = ys
  | _, _, _, .nil, .nil => rfl
  | _, _, _, .cons r t, .cons r' t' => by rw [r.inj r', Vals.inj t t']
section
variable {X : Cx} {pins : List (Addr × Obj)} {σ : St} {H : Hp} {s : Shared} {a : Addr} {xs ys : List V}
theorem SqL.of {K : PySem.W.Frag} (h : H a = some (.lst xs)) : SqL K H a xs := .inl (.inl h)
theorem SqT.of {K : PySem.W.Frag} (h : H a = some (.tup xs)) : SqT K H a xs := .inl (.inl h)
theorem Inv.list (I : Inv X pins σ H s) (h : SqL X.K H a xs) : ∃ its : List Value, Vals xs its ∧ PlainL s.heap a its.toArray ∧ xs.length ≤ sizeLine := by
  rcases h with h | ⟨o, its, n, hk, hc, hd, hs, hz, r⟩
  · obtain ⟨z, its, n, r, e⟩ := h.ok I.hok
    exact ⟨its, r, ⟨_, n, e, rfl, rfl, rfl⟩, z⟩
  · refine ⟨its.toList, r, ⟨o, n, I.kIn a o hk, hc, hd, by simpa using hs⟩, ?_⟩
    have e := r.length
    simp only [Array.length_toList] at e
    omega
theorem Inv.tuple (I : Inv X pins σ H s) (h : SqT X.K H a xs) : ∃ its : List Value, Vals xs its ∧ IsTup s.heap a its.toArray ∧ xs.length ≤ sizeLine := by
  rcases h with h | ⟨o, its, n, hk, hc, hs, hz, r⟩
  · obtain ⟨z, its, r, p⟩ := h.ok I.hok
    exact ⟨its, r, p, z⟩
  · refine ⟨its.toList, r, ⟨o, I.kIn a o hk, hc, n, by simpa using hs⟩, ?_⟩
    have e := r.length
    simp only [Array.length_toList] at e
    omega
theorem Inv.list_inj (I : Inv X pins σ H s) (h : SqL X.K H a xs) (h' : SqL X.K H a ys) : xs = ys := by
  obtain ⟨its, r, ⟨o, n, e, _, _, d⟩, _⟩ := I.list h
  obtain ⟨its', r', ⟨o', n', e', _, _, d'⟩, _⟩ := I.list h'
  rw [e] at e'; cases e'
  rw [d] at d'
  injection d' with d1 _
  have : its = its' := by simpa using congrArg Array.toList d1
  subst this
  exact r.inj r'
theorem Inv.tuple_inj (I : Inv X pins σ H s) (h : SqT X.K H a xs) (h' : SqT X.K H a ys) : xs = ys := by
  obtain ⟨its, r, ⟨o, e, _, n, d⟩, _⟩ := I.tuple h
  obtain ⟨its', r', ⟨o', e', _, n', d'⟩, _⟩ := I.tuple h'
  rw [e] at e'; cases e'
  rw [d] at d'
  injection d' with d1 _
  have : its = its' := by simpa using congrArg Array.toList d1
  subst this
  exact r.inj r'
end
abbrev Cx.wish (X : Cx) (E : Value → Shared → Prop) : Cx := { X with xe := E }
/-- no exception leaves -/
abbrev Cx.nox (X : Cx) : Cx := X.wish fun _ _ => False
theorem Cx.Ok.wish {X : Cx} (ok : X.Ok) (E : Value → Shared → Prop) : (X.wish E).Ok :=
  ⟨ok.mod, ok.kind, ok.glob, ok.blt, ok.above, ok.inj, ok.has, ok.cab, ok.hd, ok.frames, ok.stk, ok.exf, ok.bs, ok.bsz, ok.noex, ok.exfs, ok.funs, ok.frf⟩
theorem Cx.Ok.unwish {X : Cx} {E : Value → Shared → Prop} (ok : (X.wish E).Ok) : X.Ok :=
  ⟨ok.mod, ok.kind, ok.glob, ok.blt, ok.above, ok.inj, ok.has, ok.cab, ok.hd, ok.frames, ok.stk, ok.exf, ok.bs, ok.bsz, ok.noex, ok.exfs, ok.funs, ok.frf⟩
section
variable {X : Cx} {pins : List (Addr × Obj)} {σ : St} {H : Hp} {s : Shared} {E : Value → Shared → Prop}
theorem Inv.wish (I : Inv X pins σ H s) (E : Value → Shared → Prop) : Inv (X.wish E) pins σ H s := ⟨I.ok.wish E, I.os, I.bare, I.base, I.loc, I.cell, I.free, I.freeC, I.pin, I.hok, I.len⟩
theorem Inv.unwish (I : Inv (X.wish E) pins σ H s) : Inv X pins σ H s := ⟨I.ok.unwish, I.os, I.bare, I.base, I.loc, I.cell, I.free, I.freeC, I.pin, I.hok, I.len⟩
theorem SP.unwish {D : Ends} {f : Flow} {s' : Shared} (h : SP (X.wish E) pins D f s') : SP X pins D f s' := by
  cases f with
  | next => obtain ⟨σ', H', I, q⟩ := h; exact ⟨σ', H', I.unwish, q⟩
  | brk => obtain ⟨σ', H', I, q⟩ := h; exact ⟨σ', H', I.unwish, q⟩
  | cont => obtain ⟨σ', H', I, q⟩ := h; exact ⟨σ', H', I.unwish, q⟩
  | ret u => obtain ⟨v, σ', H', I, r, q⟩ := h; exact ⟨v, σ', H', I.unwish, r, q⟩
theorem PSs.nox {st : List Stmt} {t : TS} (h : PSs X.nox st t) : PSs X st t := fun pins s σ H D I hw =>
  wpAny_mono (h pins s σ H D (I.wish _) hw) (fun _ _ q => q.unwish) fun _ _ z => False.elim z
end
section
variable {X : Cx} {st : Stmt} {rest : List Stmt} {t u : TS} {e : Expr} {te : TE} {pos : Pos}
def tNext : TS := fun D σ H => D.nx σ H
def tSeq (t u : TS) : TS := fun D σ H => t { D with nx := u D } σ H
theorem pss_nil : PSs X [] tNext := fun _ _ σ H _ I h => wpAny_execs_nil ⟨σ, H, I, h⟩
theorem pss_cons (h1 : PS X st t) (h2 : PSs X rest u) : PSs X (st :: rest) (tSeq t u) := by
  intro pins s σ H D I h
  refine wpAny_execs_cons (thn (h1 pins s σ H { D with nx := u D } I h) fun f s1 q => ?_)
  cases f with
  | next =>
    obtain ⟨σ', H', I', q⟩ := q
    exact h2 pins s1 σ' H' D I' q
  | ret v => exact q
  | brk => exact q
  | cont => exact q
theorem pss_one (h1 : PS X st t) : PSs X [st] t := by
  intro pins s σ H D I h
  refine wpAny_execs_cons (thn (h1 pins s σ H D I h) fun f s1 q => ?_)
  cases f with
  | next => exact wpAny_execs_nil q
  | ret v => exact q
  | brk => exact q
  | cont => exact q
/-- in a def's body nothing is shown -/
theorem Inv.quiet {pins : List (Addr × Obj)} {σ : St} {H : Hp} {s : Shared} (I : Inv X pins σ H s) : interactive X.env = false := by simp [interactive, I.ok.kind]
/-- an expression whose value is dropped -/
def tDrop (te : TE) : TS := fun D σ H => te σ H fun _ H1 => D.nx σ H1
theorem ps_expr (he : PE X e te) (hs : swapsWith e none pos.line X.env = pure false := by rfl) : PS X (.Expr e pos) (tDrop te) := by
  intro pins s σ H D I h
  exact wpAny_Expr_any (thn (he pins s σ H _ I h) fun v s1 ⟨x, H1, I1, r1, q1⟩ => ⟨σ, H1, I1, q1⟩) I.quiet hs
def tRet (te : TE) : TS := fun D σ H => te σ H D.rt
theorem ps_ret (he : PE X e te) : PS X (.Return (some e) pos) (tRet te) := by
  intro pins s σ H D I h
  exact wpAny_Return_some (thn (he pins s σ H _ I h) fun v s1 ⟨x, H1, I1, r1, q1⟩ => ⟨x, σ, H1, I1, r1, q1⟩)
def tIfS (c : TT) (t u : TS) : TS := fun D σ H => c σ H fun b H1 => if b = true then t D σ H1 else u D σ H1
theorem ps_if {c : Expr} {a b : List Stmt} {tc : TT} (hc : PT X c tc) (ha : PSs X a t) (hb : PSs X b u) : PS X (.If c a b pos) (tIfS tc t u) := by
  intro pins s σ H D I h
  refine wpAny_If (thn (hc pins s σ H _ I h) fun d s1 ⟨H1, I1, q1⟩ => ?_)
  cases d with
  | true => exact ha pins s1 σ H1 D I1 q1
  | false => exact hb pins s1 σ H1 D I1 q1
end
abbrev TG := V → St → Hp → (St → Hp → Prop) → Prop
abbrev TGs := List V → St → Hp → (St → Hp → Prop) → Prop
def PG (X : Cx) (target : Expr) (t : TG) : Prop :=
  ∀ (pins : List (Addr × Obj)) (s : Shared) (σ : St) (H : Hp) (v : V) (u : Value) (Q : St → Hp → Prop), Inv X pins σ H s → RelV v u → t v σ H Q →
    wpAny (model X.prog X.w) X.A (assign target X.env u) (fun _ s' => ∃ σ' H', Inv X pins σ' H' s' ∧ Q σ' H') X.xe s
/-- several targets, one after another -/
def PGs (X : Cx) (ts : List Expr) (t : TGs) : Prop :=
  ∀ (pins : List (Addr × Obj)) (s : Shared) (σ : St) (H : Hp) (vs : List V) (us : List Value) (Q : St → Hp → Prop), Inv X pins σ H s → Vals vs us → t vs σ H Q →
    wpAny (model X.prog X.w) X.A (assignInOrder ((assignEach ts X.env).map (·.2)) us) (fun _ s' => ∃ σ' H', Inv X pins σ' H' s' ∧ Q σ' H') X.xe s
/-- o[i] = v, by values -/
abbrev TSet := V → V → V → Hp → (Hp → Prop) → Prop
def PSet (X : Cx) (t : TSet) : Prop :=
  ∀ (pins : List (Addr × Obj)) (s : Shared) (σ : St) (H : Hp) (o i v : V) (ov iv u : Value) (Q : Hp → Prop), Inv X pins σ H s → RelV o ov → RelV i iv → RelV v u → t o i v H Q →
    wpAny (model X.prog X.w) X.A (setItem ov iv u) (fun _ s' => ∃ H', Inv X pins σ H' s' ∧ Q H') X.xe s
section
variable {X : Cx} {pos : Pos}
def gName (i : Nat) : TG := fun v σ H Q => Q (σ.set i (some v)) H
theorem pg_name {i : Nat} {x : Str} (hN : X.N.Nodup) (hi : X.N[i]? = some x) (hx : Loc X.env.scope x) (hf : X.fn x = true ∨ X.env.scope.names.lookup x = some .local := by first | exact .inl rfl | exact .inr rfl | assumption) : PG X (.Name x pos) (gName i) := by
  intro pins s σ H v u Q I r h
  exact wpAny_assign_Name (store_ok I hN hi hx r (fun s' I' => ⟨_, H, I', h⟩) hf)
def gNil : TGs := fun vs σ H Q => vs = [] ∧ Q σ H
def gCons (t : TG) (u : TGs) : TGs := fun vs σ H Q => ∃ v r, vs = v :: r ∧ t v σ H fun σ' H' => u r σ' H' Q
theorem pgs_nil : PGs X [] gNil := by
  intro pins s σ H vs us Q I r h
  obtain ⟨e, h⟩ := h
  subst e
  cases r
  exact assignInOrder_nil ⟨σ, H, I, h⟩
theorem pgs_cons {e : Expr} {es : List Expr} {t : TG} {u : TGs} (h1 : PG X e t) (h2 : PGs X es u)
    (hs : (assignEach (e :: es) X.env).map (·.2) = assign e X.env :: (assignEach es X.env).map (·.2) := by rfl) : PGs X (e :: es) (gCons t u) := by
  intro pins s σ H vs us Q I r h
  obtain ⟨v, vr, e1, h⟩ := h
  subst e1
  cases r with
  | cons r rr =>
    rw [hs]
    refine assignInOrder_cons (thn (h1 pins s σ H _ _ _ I r h) fun _ s1 ⟨σ1, H1, I1, q1⟩ => ?_)
    exact h2 pins s1 σ1 H1 _ _ Q I1 rr q1
/-- (a, b, ..) = a tuple of that length -/
def gTup (K : PySem.W.Frag) (n : Nat) (t : TGs) : TG := fun v σ H Q => ∃ a xs, v = .ref a ∧ SqT K H a xs ∧ xs.length = n ∧ t xs σ H Q
theorem pg_tup {es : List Expr} {k : Nat} {t : TGs} {n : Nat} (hc : X.calm = true) (h : PGs X es t)
    (hn : (assignEach es X.env).length = n := by rfl) (hst : (assignEach es X.env).findIdx? (·.1) = none := by rfl) : PG X (.Tuple es k pos) (gTup X.K n t) := by
  intro pins s σ H v u Q I r hw
  obtain ⟨a, xs, e1, hq, hl, hw⟩ := hw
  subst e1
  cases r
  obtain ⟨its, rv, ht, hz⟩ := I.tuple hq
  refine assign_Tuple_tuple (I.ok.hd hc) ht (by simp [hn, ← hl, rv.length]) hst fun h' hx => ?_
  have I1 : Inv X pins σ H { s with heap := h' } := I.kept (t' := s.toks) fun b o e => hx b o (Nat.ne_of_lt (Heap.lt_size e)) e
  exact h pins _ σ H xs _ Q I1 (by simpa using rv) hw
/-- o[i] = .. -/
def gSub (to ti : TE) (t : TSet) : TG := fun v σ H Q => to σ H fun o H1 => ti σ H1 fun i H2 => t o i v H2 fun H3 => Q σ H3
theorem pg_sub {o i : Expr} {to ti : TE} {t : TSet} (ho : PE X o to) (hi : PE X i ti) (hs : PSet X t)
    (ha : ∀ v, assign (.Subscript o i pos) X.env v = (do
      let ov ← holding [v] (eval o X.env)
      let iv ← holding [v, ov] (eval i X.env)
      standAt pos
      holding [v, ov, iv] (setItem ov iv v)
      release [v, ov, iv] []) := by intro _; rfl) : PG X (.Subscript o i pos) (gSub to ti t) := by
  intro pins s σ H v u Q I r h
  rw [ha]
  refine wpAny_bind (wpAny_holding (thn (ho pins s σ H _ I h) fun ov s1 ⟨x, H1, I1, r1, q1⟩ => ?_))
  refine wpAny_bind (wpAny_holding (thn (hi pins s1 σ H1 _ I1 q1) fun iv s2 ⟨y, H2, I2, r2, q2⟩ => ?_))
  refine wpAny_bind (wpAny_standAt (wpAny_bind (wpAny_holding (thn (hs pins s2 σ H2 x y v ov iv u _ I2 r1 r2 r q2) fun _ s3 ⟨H3, I3, q3⟩ => ?_))))
  exact wpAny_release ⟨σ, H3, I3, q3⟩
/-- target = value -/
def tAsg (te : TE) (g : TG) : TS := fun D σ H => te σ H fun x H1 => g x σ H1 D.nx
theorem ps_asg {tg e : Expr} {te : TE} {g : TG} (he : PE X e te) (hg : PG X tg g) (hs : swapsWithSole [tg] e pos.line X.env = pure false := by rfl) (hw : swappedStores [tg] e X.env = pure none := by rfl)
    (h1 : (assignEach [tg] X.env).map (·.2) = [assign tg X.env] := by rfl) : PS X (.Assign [tg] e pos) (tAsg te g) := by
  intro pins s σ H D I h
  refine wpAny_Assign_stores (thn (he pins s σ H _ I h) fun v s1 ⟨x, H1, I1, r1, q1⟩ => ?_) hs hw
  rw [h1]
  exact thn (hg pins s1 σ H1 x v _ I1 r1 q1) fun _ s2 q => q
/-- name = value -/
theorem ps_set {i : Nat} {x : Str} {e : Expr} {te : TE} {pos' : Pos} (hN : X.N.Nodup) (hi : X.N[i]? = some x) (hx : Loc X.env.scope x) (he : PE X e te) (hs : swapsWith e (some (.Name x pos')) pos.line X.env = pure false := by rfl) (hf : X.fn x = true ∨ X.env.scope.names.lookup x = some .local := by first | exact .inl rfl | exact .inr rfl | assumption) :
    PS X (.Assign [.Name x pos'] e pos) (tAsg te (gName i)) := by
  intro pins s σ H D I h
  refine wpAny_Assign_Name (thn (he pins s σ H _ I h) fun v s1 ⟨y, H1, I1, r1, q1⟩ => ?_) hs
  exact store_ok I1 hN hi hx r1 (fun s2 I2 => ⟨_, H1, I2, q1⟩) hf
/-- a, b = x, y with plain local names: stored from the right; the pair itself is not tracked (the opening rows as in PyProof/Rows/TupAssign.lean:23) -/
def tPar (i j : Nat) (ta : TA) : TS := fun D σ H => ta σ H fun vs H1 => ∃ v w, vs = [v, w] ∧ D.nx ((σ.set i (some v)).set j (some w)) H1
theorem ps_par {i j : Nat} {x y : Str} {a b : Expr} {ta : TA} {px py pt : Pos} {kt k2 pt2} (hc : X.calm = true) (hN : X.N.Nodup) (hi : X.N[i]? = some x) (hj : X.N[j]? = some y) (hij : i ≠ j)
    (hx : X.env.scope.names.lookup x = some .local) (hy : X.env.scope.names.lookup y = some .local) (ha : PA X [a, b] ta)
    (hw : swappedStores [.Tuple [.Name x px, .Name y py] kt pt] (.Tuple [a, b] k2 pt2) X.env = pure (some [x, y]))
    (hs : swapsWithSole [.Tuple [.Name x px, .Name y py] kt pt] (.Tuple [a, b] k2 pt2) pos.line X.env = pure false := by rfl) :
    PS X (.Assign [.Tuple [.Name x px, .Name y py] kt pt] (.Tuple [a, b] k2 pt2) pos) (tPar i j ta) := by
  intro pins s σ H D I h
  rw [exec_Assign_arm]
  refine wpAny_bind (wpAny_standAt ?_)
  rw [hs]
  refine wpAny_bind (wpAny_pure ?_)
  rw [if_neg (by decide)]
  refine wpAny_bind (Tuple_ (thn (ha _ pins s σ H _ I h) fun us s1 ⟨vs, H1, I1, r1, q1⟩ => ?_))
  obtain ⟨v, w, e1, q1⟩ := q1
  subst e1
  obtain ⟨u1, u2, rfl, rv, rw'⟩ : ∃ u1 u2, us = [u1, u2] ∧ RelV v u1 ∧ RelV w u2 := by
    cases r1 with
    | cons p q =>
      cases q with
      | cons p' q' =>
        cases q'
        exact ⟨_, _, rfl, p, p'⟩
  refine wpAny_newObj_type ?_ (by show 2 ≤ sizeLine; decide)
  have I2 : Inv X pins σ H1 { s1 with heap := s1.heap.push { cls := .type "tuple", data := .seq [u1, u2].toArray } } := I1.kept (t' := s1.toks) fun b o e => Heap.get?_push_of_some _ e
  rw [hw]
  refine wpAny_bind (wpAny_pure ?_)
  show wpAny (model X.prog X.w) X.A (do rule "assign.swapped-stores"; let items ← unpackItems (.ref s1.heap.objs.size) 2 none; assignInOrder [fun v => bindName X.env y v, fun v => bindName X.env x v] items.reverse; pure Flow.next) _ _ _
  refine wpAny_bind (wpAny_rule (wpAny_bind (unpackItems_tuple (items := #[u1, u2]) (I.ok.hd hc) (IsTup.new s1.heap _) fun h' hx' => ?_)))
  have I3 := I2.kept (h' := h') (t' := s1.toks) fun b o e => hx' b o (Nat.ne_of_lt (Heap.lt_size e)) e
  show wpAny _ _ (assignInOrder [fun v => bindName X.env y v, fun v => bindName X.env x v] [u2, u1] >>= fun _ => pure Flow.next) _ _ _
  refine wpAny_bind (assignInOrder_cons (wpAny_bindName (store_ok I3 hN hj (.inl hy) rw' (fun s2 I4 => ?_) (.inr hy))))
  refine assignInOrder_cons (wpAny_bindName (store_ok I4 hN hi (.inl hx) rv (fun s3 I5 => assignInOrder_nil (wpAny_pure ?_)) (.inr hx)))
  rw [List.set_comm _ _ (Ne.symm hij)] at I5
  exact ⟨_, H1, I5, q1⟩
end
/-- at turn i: it yields x (the heap may grow), or it stops -/
structure It where
  go : Nat → Hp → Prop
  yld : Nat → Hp → V → Hp → Prop
  stop : Nat → Hp → Prop
/-- the iterator's own objects may turn: they are not the frame's, not pinned, younger than the entry (or a comprehension's own) -/
def FpOk (X : Cx) (pins : List (Addr × Obj)) (H : Hp) (b : Addr) : Prop :=
  H b = none ∧ b ≠ X.env.locals ∧ b ∉ X.fs ∧ (b ∈ X.ex ∨ X.s₀.heap.objs.size ≤ b) ∧ (∀ x c, X.env.cells.lookup x = some c → c ≠ b) ∧ ∀ p ∈ X.pn ++ pins, p.1 ≠ b
theorem Inv.fpOk {X : Cx} {pins : List (Addr × Obj)} {σ : St} {H H' : Hp} {s : Shared} {b : Addr} (I : Inv X pins σ H s) (hb : s.heap.objs.size ≤ b) (hn : H' b = none) : FpOk X pins H' b := by
  refine ⟨hn, Nat.ne_of_gt (Nat.lt_of_lt_of_le I.lt hb), I.nofs hb, .inr (Nat.le_trans I.sz hb), fun x c e z => ?_, fun p hp z => ?_⟩
  · obtain ⟨v, q⟩ := I.cell x c e
    exact absurd (Nat.lt_of_lt_of_le q.lt (by rw [z]; exact hb)) (Nat.lt_irrefl _)
  · exact absurd (Nat.lt_of_lt_of_le (Heap.lt_size (I.pin p hp).1) (by rw [z]; exact hb)) (Nat.lt_irrefl _)
structure Turn (P : Program) (w : World) (K : PySem.W.Frag) (tg : Expr) (J : It) (fp : List Addr) (it : Addr) (tn : Nat → Heap → Prop) : Prop where
  mem : it ∈ fp
  obj : ∀ i h, tn i h → ∀ b ∈ fp, ∃ o, h.get? b = some o ∧ ∀ v, o.data ≠ .cell v
  keep : ∀ i h h', tn i h → (∀ b ∈ fp, ∀ o, h.get? b = some o → h'.get? b = some o) → tn i h'
  item : ∀ (X : Cx), X.prog = P → X.w = w → X.K = K → X.calm = true → ∀ (i : Nat) (pins : List (Addr × Obj)) (s : Shared) (σ : St) (H : Hp) (E : Value → Shared → Prop), Inv X pins σ H s → (∀ b ∈ fp, FpOk X pins H b) → tn i s.heap → J.go i H →
    wpAny (model P w) X.A (pyNext (.ref it)) (fun r s1 => ∃ u, r = some u ∧
      wpAny (model P w) X.A (letOwnedTupleGo tg (.ref it) u) (fun _ s2 => ∃ x H', Inv X pins σ H' s2 ∧ RelV x u ∧ J.yld i H x H' ∧ tn (i + 1) s2.heap ∧ ∀ b ∈ fp, H' b = none) E s1) E s
  done : ∀ (X : Cx), X.prog = P → X.w = w → X.K = K → X.calm = true → ∀ (i : Nat) (pins : List (Addr × Obj)) (s : Shared) (σ : St) (H : Hp) (E : Value → Shared → Prop), Inv X pins σ H s → (∀ b ∈ fp, FpOk X pins H b) → tn i s.heap → J.stop i H →
    wpAny (model P w) X.A (pyNext (.ref it)) (fun r s1 => r = none ∧ Inv X pins σ H s1) E s
  self : ∀ (A : Around) (i : Nat) (s : Shared) (Q : Value → Shared → Prop) (E : Value → Shared → Prop), tn i s.heap → Q (.ref it) s → wpAny (model P w) A (pyIter (.ref it)) Q E s
abbrev TI := St → Hp → (It → Hp → Prop) → Prop
/-- an iterator has come -/
def PIE (X : Cx) (pins : List (Addr × Obj)) (σ : St) (tg : Expr) (R : It → Hp → Prop) (itv : Value) (s2 : Shared) : Prop :=
  ∃ (it : Addr) (fp : List Addr) (tn : Nat → Heap → Prop) (J : It) (H' : Hp), itv = .ref it ∧ Inv X pins σ H' s2 ∧ Turn X.prog X.w X.K tg J fp it tn ∧ tn 0 s2.heap ∧ (∀ b ∈ fp, FpOk X pins H' b) ∧ R J H'
def PI (X : Cx) (tg iter : Expr) (wi : TI) : Prop :=
  ∀ (pins : List (Addr × Obj)) (s : Shared) (σ : St) (H : Hp) (R : It → Hp → Prop), Inv X pins σ H s → wi σ H R →
    wpAny (model X.prog X.w) X.A (eval iter X.env) (fun v s1 => wpAny (model X.prog X.w) X.A (pyIter v) (PIE X pins σ tg R) X.xe s1) X.xe s
/-- the step ahead of the store is nothing for an iterator that keeps no tuple -/
theorem go_of {M : Model} {A : Around} {E : Value → Shared → Prop} {s : Shared} {tg : Expr} {it : Addr} {u : Value} {o : Obj} {n : String} {vs : Array Value} {Q : Unit → Shared → Prop} (ho : s.heap.get? it = some o) (hc : o.cls = .type n) (hd : o.data = .fields vs)
    (hn : ["enumerate", "zip", "dict_itemiterator", "dict_reverseitemiterator", "odict_iterator", "itertools.zip_longest", "itertools.pairwise"].contains n = false) (hQ : Q () s) : wpAny M A (letOwnedTupleGo tg (.ref it) u) Q E s := by
  unfold letOwnedTupleGo
  cases tg <;> first
    | exact wpAny_pure hQ
    | (cases u <;> first
        | exact wpAny_pure hQ
        | (refine wpAny_bind (wpAny_load ho ?_)
           rw [hc, hd]
           show wpAny M A (if (["enumerate", "zip", "dict_itemiterator", "dict_reverseitemiterator", "odict_iterator", "itertools.zip_longest", "itertools.pairwise"].contains n && vs[0]? == some (rawInt _)) = true then _ else _) Q E s
           rw [if_neg (by intro h; rw [hn, Bool.false_and] at h; cases h)]
           exact wpAny_pure hQ))
/-- the list at a, as it stands at each turn (a loop may append to it) -/
def Itl (K : PySem.W.Frag) (a : Addr) : It :=
  ⟨fun i H => ∃ xs x, SqL K H a xs ∧ xs[i]? = some x, fun i H x H' => H' = H ∧ ∀ xs, SqL K H a xs → xs[i]? = some x, fun i H => ∃ xs, SqL K H a xs ∧ xs.length ≤ i⟩
def Itt (K : PySem.W.Frag) (a : Addr) : It :=
  ⟨fun i H => ∃ xs x, SqT K H a xs ∧ xs[i]? = some x, fun i H x H' => H' = H ∧ ∀ xs, SqT K H a xs → xs[i]? = some x, fun i H => ∃ xs, SqT K H a xs ∧ xs.length ≤ i⟩
/-- lo, lo + 1, .. (n of them) -/
def Itr (lo : Int) (n : Nat) : It := ⟨fun i _ => i < n, fun i H x H' => H' = H ∧ x = .int (lo + i), fun i _ => n ≤ i⟩
theorem turn_list {P : Program} {w : World} {K : PySem.W.Frag} {tg : Expr} (a it : Addr) : Turn P w K tg (Itl K a) [it] it (fun i h => h.IsListIter it a i) where
  mem := by simp
  obj := fun i h st b hb => by
    have e : b = it := by simpa using hb
    subst e
    obtain ⟨o, e, c, d⟩ := st
    exact ⟨o, e, fun v z => by rw [d] at z; cases z⟩
  keep := fun i h h' st k => st.at fun o e => k it (by simp) o e
  item := by
    intro X hP hw hK hc i pins s σ H E I hf st hg
    subst hP hw hK
    obtain ⟨xs, x, hq, hx⟩ := hg
    obtain ⟨its, rv, p, hz⟩ := I.list hq
    obtain ⟨u, hu, ru⟩ := rv.get hx
    obtain ⟨f0, f1, f2, f3, f4, f5⟩ := hf it (by simp)
    refine wpAny_pyNext_list_item st p.isList (x := u) (by simpa using hu) fun h' st' sb => ?_
    have I1 : Inv X pins σ H { s with heap := h' } := I.turned (t' := s.toks) (fun b o hb e => (sb.2 b hb).trans e) f0 f1 f3 f4 f5
    obtain ⟨o, e, c, d⟩ := id st'
    exact ⟨u, rfl, go_of (s := { s with heap := h' }) e c d (by decide) ⟨x, H, I1, ru, ⟨rfl, fun ys hy => by rw [I.list_inj hy hq]; exact hx⟩, st', fun b hb => (hf b hb).1⟩⟩
  done := by
    intro X hP hw hK hc i pins s σ H E I hf st hg
    subst hP hw hK
    obtain ⟨xs, hq, hx⟩ := hg
    obtain ⟨its, rv, p, hz⟩ := I.list hq
    obtain ⟨f0, f1, f2, f3, f4, f5⟩ := hf it (by simp)
    have hl := rv.length
    exact wpAny_pyNext_list_end (I.ok.hd hc) st p.isList (by simp; omega) fun h' eb => ⟨rfl, I.turned (t' := s.toks) (fun b o hb e => eb b o hb e) f0 f1 f3 f4 f5⟩
  self := fun _ _ _ _ _ st h => wpAny_pyIter_listiter st h
theorem turn_tuple {P : Program} {w : World} {K : PySem.W.Frag} {tg : Expr} (a it : Addr) : Turn P w K tg (Itt K a) [it] it (fun i h => h.IsTupleIter it a i) where
  mem := by simp
  obj := fun i h st b hb => by
    have e : b = it := by simpa using hb
    subst e
    obtain ⟨o, e, c, d⟩ := st
    exact ⟨o, e, fun v z => by rw [d] at z; cases z⟩
  keep := fun i h h' st k => st.at fun o e => k it (by simp) o e
  item := by
    intro X hP hw hK hc i pins s σ H E I hf st hg
    subst hP hw hK
    obtain ⟨xs, x, hq, hx⟩ := hg
    obtain ⟨its, rv, p, hz⟩ := I.tuple hq
    obtain ⟨u, hu, ru⟩ := rv.get hx
    obtain ⟨f0, f1, f2, f3, f4, f5⟩ := hf it (by simp)
    refine wpAny_pyNext_tuple_item st (show s.heap.IsTuple a its.toArray from p) (x := u) (by simpa using hu) fun h' st' sb => ?_
    have I1 : Inv X pins σ H { s with heap := h' } := I.turned (t' := s.toks) (fun b o hb e => (sb.2 b hb).trans e) f0 f1 f3 f4 f5
    obtain ⟨o, e, c, d⟩ := id st'
    exact ⟨u, rfl, go_of (s := { s with heap := h' }) e c d (by decide) ⟨x, H, I1, ru, ⟨rfl, fun ys hy => by rw [I.tuple_inj hy hq]; exact hx⟩, st', fun b hb => (hf b hb).1⟩⟩
  done := by
    intro X hP hw hK hc i pins s σ H E I hf st hg
    subst hP hw hK
    obtain ⟨xs, hq, hx⟩ := hg
    obtain ⟨its, rv, p, hz⟩ := I.tuple hq
    obtain ⟨f0, f1, f2, f3, f4, f5⟩ := hf it (by simp)
    have hl := rv.length
    exact wpAny_pyNext_tuple_end (I.ok.hd hc) st (show s.heap.IsTuple a its.toArray from p) (by simp; omega) fun h' eb => ⟨rfl, I.turned (t' := s.toks) (fun b o hb e => eb b o hb e) f0 f1 f3 f4 f5⟩
  self := fun _ _ _ _ _ st h => wpAny_pyIter_tupleiter st h
theorem turn_range {P : Program} {w : World} {K : PySem.W.Frag} {tg : Expr} (it : Addr) (lo : Int) (n : Nat) : Turn P w K tg (Itr lo n) [it] it (fun i h => IsRangeIter h it (lo + (i : Nat) * 1) ((n : Int) - (i : Nat)) 1) where
  mem := by simp
  obj := fun i h st b hb => by
    have e : b = it := by simpa using hb
    subst e
    exact ⟨_, st, fun v z => by
      have z' : Data.fields _ = Data.cell v := z
      cases z'⟩
  keep := fun i h h' st k => k it (by simp) _ st
  item := by
    intro X hP hw hK hc i pins s σ H E I hf st hg
    subst hP hw hK
    obtain ⟨f0, f1, f2, f3, f4, f5⟩ := hf it (by simp)
    have W := Walks.range (prog := X.prog) (w := X.w) (I.ok.hd hc) it lo 1 n
    refine W.item i s _ _ hg st fun v h' tk hv st' kk => ?_
    obtain ⟨t, rfl⟩ := hv
    have I1 : Inv X pins σ H { s with heap := h', toks := tk } := I.turned (fun b o hb e => kk b o (by simpa using hb) e) f0 f1 f3 f4 f5
    refine ⟨_, rfl, go_of (s := { s with heap := h', toks := tk }) (n := "range_iterator") st' rfl rfl (by decide) ⟨.int (lo + i), H, I1, ⟨t, ?_⟩, ⟨rfl, rfl⟩, st', fun b hb => (hf b hb).1⟩⟩
    rw [Int.mul_one]
  done := by
    intro X hP hw hK hc i pins s σ H E I hf st hg
    subst hP hw hK
    obtain ⟨f0, f1, f2, f3, f4, f5⟩ := hf it (by simp)
    exact wpAny_pyNext_range_end (I.ok.hd hc) st (by have : n ≤ i := hg; omega) fun h' eb => ⟨rfl, I.turned (t' := s.toks) (fun b o hb e => eb b o hb e) f0 f1 f3 f4 f5⟩
  self := fun _ _ _ _ _ st h => wpAny_pyIter_rangeiter st h
end L2
namespace L2
open PySem PySem.Spec PyProof.Rows
section
variable {X : Cx} {tg : Expr}
def iList (K : PySem.W.Frag) (tl : TE) : TI := fun σ H R => tl σ H fun x H1 => ∃ a, x = .ref a ∧ (∃ xs, SqL K H1 a xs) ∧ R (Itl K a) H1
def iTup (K : PySem.W.Frag) (tl : TE) : TI := fun σ H R => tl σ H fun x H1 => ∃ a, x = .ref a ∧ (∃ xs, SqT K H1 a xs) ∧ R (Itt K a) H1
theorem pi_list {l : Expr} {tl : TE} (hl : PE X l tl) : PI X tg l (iList X.K tl) := by
  intro pins s σ H R I h
  refine thn (hl pins s σ H _ I h) fun v s1 ⟨x, H1, I1, r1, q1⟩ => ?_
  obtain ⟨a, e, ⟨xs, hq⟩, q⟩ := q1
  subst e
  cases r1
  obtain ⟨its, rv, p, hz⟩ := I1.list hq
  refine wpAny_pyIter_list p.isList ?_
  refine ⟨s1.heap.objs.size, [s1.heap.objs.size], _, _, H1, rfl, I1.kept (t' := s1.toks) fun b o e => Heap.get?_push_of_some _ e, turn_list a _, ⟨_, Heap.get?_push_size _ rfl, rfl, rfl⟩, fun b hb => ?_, q⟩
  have e : b = s1.heap.objs.size := by simpa using hb
  subst e
  exact I1.fpOk (Nat.le_refl _) (I1.hok.fresh (Nat.le_refl _))
theorem pi_tup {l : Expr} {tl : TE} (hl : PE X l tl) : PI X tg l (iTup X.K tl) := by
  intro pins s σ H R I h
  refine thn (hl pins s σ H _ I h) fun v s1 ⟨x, H1, I1, r1, q1⟩ => ?_
  obtain ⟨a, e, ⟨xs, hq⟩, q⟩ := q1
  subst e
  cases r1
  obtain ⟨its, rv, p, hz⟩ := I1.tuple hq
  refine wpAny_pyIter_tuple (show s1.heap.IsTuple a its.toArray from p) ?_
  refine ⟨s1.heap.objs.size, [s1.heap.objs.size], _, _, H1, rfl, I1.kept (t' := s1.toks) fun b o e => Heap.get?_push_of_some _ e, turn_tuple a _, ⟨_, Heap.get?_push_size _ rfl, rfl, rfl⟩, fun b hb => ?_, q⟩
  have e : b = s1.heap.objs.size := by simpa using hb
  subst e
  exact I1.fpOk (Nat.le_refl _) (I1.hok.fresh (Nat.le_refl _))
/-- a range object just made, walked -/
theorem range_it {pins : List (Addr × Obj)} {σ : St} {H : Hp} {s : Shared} {R : It → Hp → Prop} {E : Value → Shared → Prop} {lo hi : Int} {t u v : Tok} {tk : Nat} (I : Inv X pins σ H s) (h1 : -(2 ^ 62) ≤ lo) (h2 : lo < 2 ^ 62) (h3 : -(2 ^ 62) ≤ hi) (h4 : hi < 2 ^ 62)
    (q : R (Itr lo (hi - lo).toNat) H) : wpAny (model X.prog X.w) X.A (pyIter (.ref s.heap.objs.size)) (PIE X pins σ tg R) E { s with heap := s.heap.push { cls := .type "range", data := .fields #[.int lo t, .int hi u, .int 1 v] }, toks := tk } := by
  refine wpAny_pyIter_range (IsRange.new ..) (small_one h1 h2 h3 h4) ?_
  have I1 : Inv X pins σ H { s with heap := s.heap.push { cls := .type "range", data := .fields #[.int lo t, .int hi u, .int 1 v] }, toks := tk } := I.kept fun b o e => Heap.get?_push_of_some _ e
  refine ⟨(s.heap.push { cls := .type "range", data := .fields #[.int lo t, .int hi u, .int 1 v] }).objs.size, [(s.heap.push { cls := .type "range", data := .fields #[.int lo t, .int hi u, .int 1 v] }).objs.size], _, _, H, rfl,
    I1.kept (t' := tk) fun b o e => Heap.get?_push_of_some _ e, turn_range _ lo (hi - lo).toNat, ?_, fun b hb => ?_, q⟩
  · have e1 : lo + ((0 : Nat) : Int) * 1 = lo := by simp
    have e2 : (((hi - lo).toNat : Nat) : Int) - ((0 : Nat) : Int) = Builtin.Range.rangeSize lo hi 1 := by rw [rangeSize_one]; split <;> omega
    show IsRangeIter _ _ (lo + ((0 : Nat) : Int) * 1) ((((hi - lo).toNat : Nat) : Int) - ((0 : Nat) : Int)) 1
    rw [e1, e2]
    exact Heap.get?_push_size _ rfl
  · have e : b = (s.heap.push { cls := .type "range", data := .fields #[.int lo t, .int hi u, .int 1 v] }).objs.size := by simpa using hb
    subst e
    exact I1.fpOk (Nat.le_refl _) (I1.hok.fresh (Nat.le_refl _))
def iRng1 (ta : TA) : TI := fun σ H R => ta σ H fun vs H1 => ∃ j : Int, vs = [.int j] ∧ -(2 ^ 62) ≤ j ∧ j < 2 ^ 62 ∧ R (Itr 0 j.toNat) H1
theorem pi_range1 {a : Expr} {ta : TA} {p pos : Pos} (hg : Gl X "range") (hm : X.mg "range" = none) (ha : PA X [a] ta) (hs : starEach [a] X.env = [(false, eval a X.env)] := by rfl) : PI X tg (.Call (.Name "range" p) [a] [] pos) (iRng1 ta) := by
  intro pins s σ H R I h
  refine Call_ (ld_blt I hg hm boot_range (PyProof.Rows.callWith_type1 (thn (ha pos pins s σ H _ I h) fun us s1 ⟨vs, H1, I1, r1, q1⟩ => ?_) hs rfl))
  obtain ⟨j, e, q1, q2, q⟩ := q1
  subst e
  cases r1 with
  | cons r rr =>
    cases rr
    obtain ⟨t, rfl⟩ := r
    exact call_range_1 (range_it I1 (by omega) (by omega) q1 q2 (by simpa using q))
/-- W: the invariant by the turn and a measure; N: what the body is to reach -/
def tFor (wi : TI) (g : TG) (tb : TS) : TS := fun D σ H => wi σ H fun J H1 => ∃ W : Nat → Nat → St → Hp → Prop, (∃ m, W 0 m σ H1) ∧ ∀ i m σ H, W i m σ H →
  (J.stop i H ∧ D.nx σ H) ∨ (J.go i H ∧ ∃ N : St → Hp → Prop, (∀ σ' H', N σ' H' → ∃ m', m' < m ∧ W (i + 1) m' σ' H') ∧ ∀ x H', J.yld i H x H' → g x σ H' fun σ2 H2 => tb { D with nx := N, ct := N, bk := D.nx } σ2 H2)
/-- the records at fp as they stand -/
def pinsAt (fp : List Addr) (h : Heap) : List (Addr × Obj) := fp.filterMap fun b => (h.get? b).map fun o => (b, o)
theorem mem_pinsAt {fp : List Addr} {h : Heap} {b : Addr} {o : Obj} (hb : b ∈ fp) (e : h.get? b = some o) : (b, o) ∈ pinsAt fp h := List.mem_filterMap.mpr ⟨b, hb, by rw [e]; rfl⟩
theorem of_pinsAt {fp : List Addr} {h : Heap} {p : Addr × Obj} (hp : p ∈ pinsAt fp h) : p.1 ∈ fp ∧ h.get? p.1 = some p.2 := by
  obtain ⟨b, hb, e⟩ := List.mem_filterMap.mp hp
  cases q : h.get? b with
  | none => rw [q] at e; cases e
  | some o =>
    rw [q] at e
    have e' : (b, o) = p := Option.some.inj e
    subst e'
    exact ⟨hb, q⟩
theorem Inv.pinned {pins : List (Addr × Obj)} {σ : St} {H : Hp} {s : Shared} {fp : List Addr} (I : Inv X pins σ H s) (hf : ∀ b ∈ fp, FpOk X pins H b) (ho : ∀ b ∈ fp, ∃ o, s.heap.get? b = some o ∧ ∀ v, o.data ≠ .cell v) : Inv X (pins ++ pinsAt fp s.heap) σ H s :=
  I.pins_of fun p hp => (List.mem_append.mp hp).elim (fun z => I.pin p (List.mem_append_right _ z)) fun z => by
    obtain ⟨hb, e⟩ := of_pinsAt z
    obtain ⟨f0, f1, f2, _⟩ := hf p.1 hb
    obtain ⟨o, e', d⟩ := ho p.1 hb
    rw [e] at e'; cases e'
    exact ⟨e, f0, f1, f2, d⟩
theorem Inv.unpinned {pins pl : List (Addr × Obj)} {σ : St} {H : Hp} {s : Shared} (I : Inv X (pins ++ pl) σ H s) : Inv X pins σ H s := I.pins_of fun p hp => I.pin p (List.mem_append_right _ (List.mem_append_left _ hp))
theorem ps_for {iter : Expr} {body : List Stmt} {wi : TI} {g : TG} {tb : TS} {pos : Pos} (hp : PassesOwn (model X.prog X.w) X.A X.env X.xe) (hc : X.calm = true) (hi : PI X tg iter wi) (hg : PG X tg g) (hb : PSs X body tb)
    (hs : ∀ x, foldedSetIterable iter X.env x = pure x := by intro _; rfl) : PS X (.For tg iter body [] pos) (tFor wi g tb) := by
  intro pins s σ H D I h
  refine wpAny_For (thn (hi pins s σ H _ I h) fun v s1 h1 => thn h1 fun itv s2 h2 => ?_) hs
  obtain ⟨it, fp, tn, J, H2, e, I2, T, st2, f2, W, ⟨m0, w0⟩, turn⟩ := h2
  subst e
  -- what stays true of the iterator's objects through the loop
  have stat : ∀ {H' : Hp}, (∀ b ∈ fp, H' b = none) → ∀ b ∈ fp, FpOk X pins H' b := fun hn b hb => ⟨hn b hb, (f2 b hb).2⟩
  refine codeAny_forLoop_any (fun n s' => ∃ i σ' H', Inv X pins σ' H' s' ∧ tn i s'.heap ∧ (∀ b ∈ fp, H' b = none) ∧ W i n σ' H') ?_ m0 ⟨0, σ, H2, I2, st2, fun b hb => (f2 b hb).1, w0⟩
  rintro n s3 ⟨i, σ3, H3, I3, st3, fr3, w3⟩
  rcases turn i n σ3 H3 w3 with ⟨stop, qn⟩ | ⟨go, N, hN, step⟩
  · refine wpAny_passesOwn hp (thn (T.done X rfl rfl rfl hc i pins s3 σ3 H3 X.xe I3 (stat fr3) st3 stop) fun r s4 ⟨hr, I4⟩ => ?_)
    subst hr
    exact wpAny_execs_nil ⟨σ3, H3, I4, qn⟩
  · refine wpAny_passesOwn hp (thn (T.item X rfl rfl rfl hc i pins s3 σ3 H3 X.xe I3 (stat fr3) st3 go) fun r s4 ⟨u, hr, h4⟩ => ?_)
    subst hr
    refine wpAny_passesOwn hp (thn h4 fun _ s5 ⟨x, H5, I5, r5, y5, st5, fr5⟩ => ?_)
    have I5' := I5.pinned (stat fr5) (T.obj _ _ st5)
    refine wpAny_passesOwn hp (thn (hg _ s5 σ3 H5 x u _ I5' r5 (step x H5 y5)) fun _ s6 ⟨σ6, H6, I6, q6⟩ => ?_)
    refine wpAny_passesOwn hp (thn (hb _ s6 σ6 H6 _ I6 q6) fun f s7 q7 => ?_)
    have again : ∀ {σ7 : St} {H7 : Hp}, Inv X (pins ++ pinsAt fp s5.heap) σ7 H7 s7 → N σ7 H7 → ∃ m, m < n ∧ ∃ i σ' H', Inv X pins σ' H' s7 ∧ tn i s7.heap ∧ (∀ b ∈ fp, H' b = none) ∧ W i m σ' H' := fun {σ7 H7} I7 n7 => by
      obtain ⟨m', hm, w7⟩ := hN σ7 H7 n7
      refine ⟨m', hm, i + 1, σ7, H7, I7.unpinned, T.keep _ _ _ st5 fun b hb o e => (I7.pin (b, o) (List.mem_append_right _ (List.mem_append_right _ (mem_pinsAt hb e)))).1, fun b hb => ?_, w7⟩
      obtain ⟨o, e, d⟩ := T.obj _ _ st5 b hb
      exact (I7.pin (b, o) (List.mem_append_right _ (List.mem_append_right _ (mem_pinsAt hb e)))).2.1
    cases f with
    | next => obtain ⟨σ7, H7, I7, n7⟩ := q7; exact again I7 n7
    | cont => obtain ⟨σ7, H7, I7, n7⟩ := q7; exact again I7 n7
    | brk => obtain ⟨σ7, H7, I7, q7⟩ := q7; exact ⟨σ7, H7, I7.unpinned, q7⟩
    | ret v => obtain ⟨x7, σ7, H7, I7, r7, q7⟩ := q7; exact ⟨x7, σ7, H7, I7.unpinned, r7, q7⟩
end
end L2
namespace L2
open PySem PySem.Spec PyProof.Rows
abbrev R2 := V → V → Hp → VK → Prop
/-- a two-place operation on values: f is binaryOp op, inplaceOp op or compareOp op -/
def OpR (X : Cx) (f : Value → Value → Sem Value) (r : R2) : Prop :=
  ∀ (pins : List (Addr × Obj)) (s : Shared) (σ : St) (H : Hp) (x y : V) (v u : Value) (Q : VK), Inv X pins σ H s → RelV x v → RelV y u → r x y H Q →
    wpAny (model X.prog X.w) X.A (f v u) (EP X pins σ Q) X.xe s
/-- a call of a value that is known (a builtin, a type) with values -/
def CallR (X : Cx) (f : Value) (r : List V → Hp → VK → Prop) : Prop :=
  ∀ (pins : List (Addr × Obj)) (s : Shared) (σ : St) (H : Hp) (xs : List V) (us : List Value) (Q : VK), Inv X pins σ H s → Vals xs us → r xs H Q →
    wpAny (model X.prog X.w) X.A (call f us) (EP X pins σ Q) X.xe s
def tOp (r : R2) (ta tb : TE) : TE := fun σ H Q => ta σ H fun x H1 => tb σ H1 fun y H2 => r x y H2 Q
/-- ints in, under C, and a value out -/
def rI (C : Int → Int → Prop) (g : Int → Int → V) : R2 := fun x y H Q => ∃ i j, x = .int i ∧ y = .int j ∧ C i j ∧ Q (g i j) H
def rI0 (g : Int → Int → V) : R2 := fun x y H Q => ∃ i j, x = .int i ∧ y = .int j ∧ Q (g i j) H
section
variable {X : Cx} {a b c : Expr} {ta tb tc : TE} {pos : Pos}
theorem binT (ha : PE X a ta) (hb : PE X b tb) {pins : List (Addr × Obj)} {s : Shared} {σ : St} {H : Hp} {R : V → V → Hp → Prop} (I : Inv X pins σ H s)
    (h : ta σ H fun x H1 => tb σ H1 fun y H2 => R x y H2) {Q : Value → Shared → Prop} {f : Value → Value → Sem Value}
    (hf : ∀ v u s2 x y H2, Inv X pins σ H2 s2 → RelV x v → RelV y u → R x y H2 → wpAny (model X.prog X.w) X.A (f v u) Q X.xe s2) :
    wpAny (model X.prog X.w) X.A (eval a X.env) (fun v s₁ => wpAny (model X.prog X.w) X.A (eval b X.env) (fun u s₂ => wpAny (model X.prog X.w) X.A (f v u) Q X.xe s₂) X.xe s₁) X.xe s := by
  refine thn (ha pins s σ H _ I h) fun v s1 ⟨x, H1, I1, r1, q1⟩ => ?_
  refine thn (hb pins s1 σ H1 _ I1 q1) fun u s2 ⟨y, H2, I2, r2, q2⟩ => ?_
  exact hf v u s2 x y H2 I2 r1 r2 q2
theorem pe_op {op : Operator} {r : R2} (ho : OpR X (binaryOp op) r) (ha : PE X a ta) (hb : PE X b tb) : PE X (.BinOp a op b pos) (tOp r ta tb) := by
  intro pins s σ H Q I h
  exact wpAny_BinOp (binT ha hb I h fun v u s2 x y H2 I2 rx ry q => ho pins s2 σ H2 x y v u Q I2 rx ry q)
theorem opI {f : Value → Value → Sem Value} {C : Int → Int → Prop} {g : Int → Int → Int}
    (rule : ∀ (i j : Int) (t u : Tok) (s : Shared) (Q : Value → Shared → Prop) (E : Value → Shared → Prop), C i j → Q (.int (g i j) s.toks) { s with toks := s.toks + 1 } → wpAny (model X.prog X.w) X.A (f (.int i t) (.int j u)) Q E s) :
    OpR X f (rI C fun i j => .int (g i j)) := by
  intro pins s σ H x y v u Q I rx ry h
  obtain ⟨i, j, rfl, rfl, hc, q⟩ := h
  obtain ⟨t, rfl⟩ := rx
  obtain ⟨t', rfl⟩ := ry
  exact rule i j t t' s _ _ hc ⟨.int (g i j), H, I.tok _, ⟨_, rfl⟩, q⟩
theorem opI0 {f : Value → Value → Sem Value} {g : Int → Int → Int}
    (rule : ∀ (i j : Int) (t u : Tok) (s : Shared) (Q : Value → Shared → Prop) (E : Value → Shared → Prop), Q (.int (g i j) s.toks) { s with toks := s.toks + 1 } → wpAny (model X.prog X.w) X.A (f (.int i t) (.int j u)) Q E s) :
    OpR X f (rI0 fun i j => .int (g i j)) := by
  intro pins s σ H x y v u Q I rx ry h
  obtain ⟨i, j, rfl, rfl, q⟩ := h
  obtain ⟨t, rfl⟩ := rx
  obtain ⟨t', rfl⟩ := ry
  exact rule i j t t' s _ _ ⟨.int (g i j), H, I.tok _, ⟨_, rfl⟩, q⟩
theorem opB0 {f : Value → Value → Sem Value} {g : Int → Int → Bool}
    (rule : ∀ (i j : Int) (t u : Tok) (s : Shared) (Q : Value → Shared → Prop) (E : Value → Shared → Prop), Q (.bool (g i j)) s → wpAny (model X.prog X.w) X.A (f (.int i t) (.int j u)) Q E s) :
    OpR X f (rI0 fun i j => .bl (g i j)) := by
  intro pins s σ H x y v u Q I rx ry h
  obtain ⟨i, j, rfl, rfl, q⟩ := h
  obtain ⟨t, rfl⟩ := rx
  obtain ⟨t', rfl⟩ := ry
  exact rule i j t t' s _ _ ⟨.bl (g i j), H, I, rfl, q⟩
def CDiv (i j : Int) : Prop := 0 < j ∧ j < 1073741824
def CPow (i j : Int) : Prop := 0 ≤ j ∧ j ≤ 1000000 ∧ i.natAbs < 2 ^ 64
def CMul (i j : Int) : Prop := (-(2 ^ 64) < i ∧ i < 2 ^ 64) ∨ (-(2 ^ 64) < j ∧ j < 2 ^ 64)
theorem CMul.ok {i j : Int} (h : CMul i j) : IntMulOk i j := by
  rcases h with ⟨h1, h2⟩ | ⟨h1, h2⟩
  · exact .of_left (intBits_le_64 h1 h2)
  · exact .of_right (intBits_le_64 h1 h2)
theorem op_add : OpR X (binaryOp .Add) (rI0 fun i j => .int (i + j)) := opI0 fun _ _ _ _ _ _ _ q => add_int q
theorem op_sub : OpR X (binaryOp .Sub) (rI0 fun i j => .int (i - j)) := opI0 fun _ _ _ _ _ _ _ q => sub_int q
theorem op_mul : OpR X (binaryOp .Mult) (rI CMul fun i j => .int (i * j)) := opI fun _ _ _ _ _ _ _ hc q => mul_int q hc.ok
/-- % by a positive divisor of any size -/
theorem op_mod : OpR X (binaryOp .Mod) (rI (fun _ j => 0 < j) fun i j => .int (i % j)) := opI fun i j _ _ _ _ _ hc q => by
  have h1 : (0 : Int) < j := hc
  exact mod_int' (by omega) (by rw [Int.fmod_eq_emod_of_nonneg i (by omega)]; exact q)
theorem op_pow : OpR X (binaryOp .Pow) (rI CPow fun i j => .int (i ^ j.toNat)) := opI fun _ _ _ _ _ _ _ hc q => pow_int_small hc.1 hc.2.1 hc.2.2 q
end
/-- the scalars that == tells apart as data does -/
def scal : V → V → Bool
  | .non, .non => true | .non, .int _ => true | .int _, .non => true | .non, .bl _ => true | .bl _, .non => true | .non, .str _ => true | .str _, .non => true
  | .int _, .int _ => true | .bl _, .bl _ => true | .str _, .str _ => true | .byt _, .byt _ => true
  | .int _, .str _ => true | .str _, .int _ => true | .bl _, .str _ => true | .str _, .bl _ => true
  | _, _ => false
def rEq : R2 := fun x y H Q => scal x y = true ∧ Q (.bl (decide (x = y))) H
def rNe : R2 := fun x y H Q => scal x y = true ∧ Q (.bl (!decide (x = y))) H
theorem dec_int {i j : Int} : decide (V.int i = V.int j) = (i == j) := by
  rw [Bool.eq_iff_iff]
  simp
theorem dec_bl {i j : Bool} : decide (V.bl i = V.bl j) = (i == j) := by
  rw [Bool.eq_iff_iff]
  simp
theorem dec_str {i j : Str} : decide (V.str i = V.str j) = (i == j) := by
  rw [Bool.eq_iff_iff]
  simp
theorem dec_byt {i j : Array UInt8} : decide (V.byt i = V.byt j) = (i.toList == j.toList) := by
  rw [Bool.eq_iff_iff]
  cases i
  cases j
  simp
section
variable {X : Cx} {a b c : Expr} {ta tb tc : TE} {pos : Pos}
theorem fin_bl {pins : List (Addr × Obj)} {σ : St} {H : Hp} {s : Shared} {Q : VK} {k k' : Bool} (I : Inv X pins σ H s) (q : Q (.bl k) H) (e : k = k') : EP X pins σ Q (.bool k') s := by
  subst e
  exact ⟨.bl k, H, I, rfl, q⟩
theorem op_eq : OpR X (compareOp .Eq) rEq := by
  intro pins s σ H x y v u Q I rx ry h
  obtain ⟨hs, q⟩ := h
  cases x with
  | non =>
    cases rx
    cases y with
    | non => cases ry; exact PySem.EqNone.eq_none_none (fin_bl I q (by simp))
    | bl j => cases ry; exact PySem.EqNone.eq_none_bool (fin_bl I q (by simp))
    | int j => obtain ⟨t', rfl⟩ := ry; exact PySem.EqNone.eq_none_int (fin_bl I q (by simp))
    | str j => obtain ⟨t', rfl⟩ := ry; exact PySem.EqNone.eq_none_str (fin_bl I q (by simp))
    | _ => exact absurd (show false = true from hs) Bool.false_ne_true
  | bl i =>
    cases rx
    cases y with
    | non => cases ry; exact PySem.EqNone.eq_bool_none (fin_bl I q (by simp))
    | bl j => cases ry; exact eq_bool (fin_bl I q dec_bl)
    | str j => obtain ⟨t', rfl⟩ := ry; exact PySem.EqMixed.eq_bool_str (fin_bl I q (by simp))
    | _ => exact absurd (show false = true from hs) Bool.false_ne_true
  | int i =>
    obtain ⟨t, rfl⟩ := rx
    cases y with
    | non => cases ry; exact PySem.EqNone.eq_int_none (fin_bl I q (by simp))
    | int j => obtain ⟨t', rfl⟩ := ry; exact eq_int (fin_bl I q dec_int)
    | str j => obtain ⟨t', rfl⟩ := ry; exact PySem.EqMixed.eq_int_str (fin_bl I q (by simp))
    | _ => exact absurd (show false = true from hs) Bool.false_ne_true
  | str i =>
    obtain ⟨t, rfl⟩ := rx
    cases y with
    | non => cases ry; exact PySem.EqNone.eq_str_none (fin_bl I q (by simp))
    | bl j => cases ry; exact PySem.EqMixed.eq_str_bool (fin_bl I q (by simp))
    | int j => obtain ⟨t', rfl⟩ := ry; exact PySem.EqMixed.eq_str_int (fin_bl I q (by simp))
    | str j => obtain ⟨t', rfl⟩ := ry; exact eq_str (fin_bl I q dec_str)
    | _ => exact absurd (show false = true from hs) Bool.false_ne_true
  | byt i =>
    obtain ⟨t, rfl⟩ := rx
    cases y with
    | byt j => obtain ⟨t', rfl⟩ := ry; exact PySem.W.eq_bytes (fin_bl I q dec_byt)
    | _ => exact absurd (show false = true from hs) Bool.false_ne_true
  | _ => cases y <;> exact absurd (show false = true from hs) Bool.false_ne_true
theorem op_ne : OpR X (compareOp .NotEq) rNe := by
  intro pins s σ H x y v u Q I rx ry h
  obtain ⟨hs, q⟩ := h
  cases x with
  | non =>
    cases rx
    cases y with
    | non => cases ry; exact PySem.EqNone.ne_none_none (fin_bl I q (by simp))
    | bl j => cases ry; exact PySem.EqNone.ne_none_bool (fin_bl I q (by simp))
    | int j => obtain ⟨t', rfl⟩ := ry; exact PySem.EqNone.ne_none_int (fin_bl I q (by simp))
    | str j => obtain ⟨t', rfl⟩ := ry; exact PySem.EqNone.ne_none_str (fin_bl I q (by simp))
    | _ => exact absurd (show false = true from hs) Bool.false_ne_true
  | bl i =>
    cases rx
    cases y with
    | non => cases ry; exact PySem.EqNone.ne_bool_none (fin_bl I q (by simp))
    | bl j => cases ry; exact ne_bool (fin_bl I q (congrArg not dec_bl))
    | str j => obtain ⟨t', rfl⟩ := ry; exact PySem.EqMixed.ne_bool_str (fin_bl I q (by simp))
    | _ => exact absurd (show false = true from hs) Bool.false_ne_true
  | int i =>
    obtain ⟨t, rfl⟩ := rx
    cases y with
    | non => cases ry; exact PySem.EqNone.ne_int_none (fin_bl I q (by simp))
    | int j => obtain ⟨t', rfl⟩ := ry; exact ne_int (fin_bl I q (congrArg not dec_int))
    | str j => obtain ⟨t', rfl⟩ := ry; exact PySem.EqMixed.ne_int_str (fin_bl I q (by simp))
    | _ => exact absurd (show false = true from hs) Bool.false_ne_true
  | str i =>
    obtain ⟨t, rfl⟩ := rx
    cases y with
    | non => cases ry; exact PySem.EqNone.ne_str_none (fin_bl I q (by simp))
    | bl j => cases ry; exact PySem.EqMixed.ne_str_bool (fin_bl I q (by simp))
    | int j => obtain ⟨t', rfl⟩ := ry; exact PySem.EqMixed.ne_str_int (fin_bl I q (by simp))
    | str j => obtain ⟨t', rfl⟩ := ry; exact ne_str (fin_bl I q (congrArg not dec_str))
    | _ => exact absurd (show false = true from hs) Bool.false_ne_true
  | byt i =>
    obtain ⟨t, rfl⟩ := rx
    cases y with
    | byt j => obtain ⟨t', rfl⟩ := ry; exact PySem.W.ne_bytes (fin_bl I q (congrArg not dec_byt))
    | _ => exact absurd (show false = true from hs) Bool.false_ne_true
  | _ => cases y <;> exact absurd (show false = true from hs) Bool.false_ne_true
theorem op_lt : OpR X (compareOp .Lt) (rI0 fun i j => .bl (decide (i < j))) := opB0 fun _ _ _ _ _ _ _ q => lt_int q
theorem op_le : OpR X (compareOp .LtE) (rI0 fun i j => .bl (decide (i ≤ j))) := opB0 fun _ _ _ _ _ _ _ q => le_int q
theorem op_gt : OpR X (compareOp .Gt) (rI0 fun i j => .bl (decide (j < i))) := opB0 fun _ _ _ _ _ _ _ q => gt_int q
theorem op_ge : OpR X (compareOp .GtE) (rI0 fun i j => .bl (decide (j ≤ i))) := opB0 fun _ _ _ _ _ _ _ q => ge_int q
/-- the one string within the other -/
theorem op_in_str : OpR X (compareOp .In) (fun x y H Q => ∃ i j, x = .str i ∧ y = .str j ∧ Q (.bl (!(Builtin.Str.occurrences j i 0 j.length 1).isEmpty)) H) := by
  intro pins s σ H x y v u Q I rx ry h
  obtain ⟨i, j, rfl, rfl, q⟩ := h
  obtain ⟨t, rfl⟩ := rx
  obtain ⟨t', rfl⟩ := ry
  exact in_str (fin_bl I q rfl)
/-- a comparison as a value; hm: nomark b, or (for in, not in) by with_unfolding_all rfl -/
theorem pe_cmpR {op : CmpOp} {r : R2} (ho : OpR X (compareOp op) r) (ha : PE X a ta) (hb : PE X b tb) (hm : behindInMarks op b = false) : PE X (.Compare a [op] [b] pos) (tOp r ta tb) := by
  intro pins s σ H Q I h
  exact wpAny_Compare1 (binT ha hb I h fun v u s2 x y H2 I2 rx ry q => ho pins s2 σ H2 x y v u Q I2 rx ry q) hm
/-- a reading of a value as a test -/
def tTest (t : TE) : TT := fun σ H Q => t σ H fun x H' => ∃ k, x = .bl k ∧ Q k H'
theorem pt_cmpR {op : CmpOp} {r : R2} (ho : OpR X (compareOp op) r) (ha : PE X a ta) (hb : PE X b tb) (hm : behindInMarks op b = false) : PT X (.Compare a [op] [b] pos) (tTest (tOp r ta tb)) := by
  intro pins s σ H Q I h
  refine wpAny_isTrue_Compare1 (thn (ha pins s σ H _ I h) fun v s1 ⟨x, H1, I1, r1, q1⟩ => thn (hb pins s1 σ H1 _ I1 q1) fun u s2 ⟨y, H2, I2, r2, q2⟩ =>
    thn (ho pins s2 σ H2 x y v u _ I2 r1 r2 q2) fun c s3 ⟨z, H3, I3, r3, k, e, q3⟩ => ?_) hm
  subst e
  cases r3
  exact wpAny_truthy_bool ⟨H3, I3, q3⟩
/-- a op1 b op2 c -/
def tChain (r r' : R2) (ta tb tc : TE) : TE := fun σ H Q => ta σ H fun x H1 => tb σ H1 fun y H2 => r x y H2 fun z H3 => ∃ k, z = .bl k ∧
  (if k = true then tc σ H3 fun w' H4 => r' y w' H4 Q else Q (.bl false) H3)
theorem pt_chain {op op' : CmpOp} {r r' : R2} (ho : OpR X (compareOp op) r) (ho' : OpR X (compareOp op') r') (ha : PE X a ta) (hb : PE X b tb) (hc : PE X c tc)
    (hm : lastMarks [op, op'] [b, c] = false := by with_unfolding_all rfl) : PT X (.Compare a [op, op'] [b, c] pos) (tTest (tChain r r' ta tb tc)) := by
  intro pins s σ H Q I h
  refine isTrue_chain (thn (ha pins s σ H _ I h) fun v s1 ⟨x, H1, I1, r1, q1⟩ => test_link (thn (hb pins s1 σ H1 _ I1 q1) fun u s2 ⟨y, H2, I2, r2, q2⟩ =>
    thn (ho pins s2 σ H2 x y v u _ I2 r1 r2 q2) fun d s3 ⟨z, H3, I3, r3, k, e, q3⟩ => ?_)) hm
  subst e
  cases r3
  refine wpAny_truthy_bool ?_
  cases k with
  | false =>
    obtain ⟨k', e', q'⟩ := q3
    cases e'
    exact ite_ff ⟨H3, I3, q'⟩
  | true =>
    refine ite_tt (test_last (thn (hc pins s3 σ H3 _ I3 q3) fun w' s4 ⟨z', H4, I4, r4, q4⟩ => thn (ho' pins s4 σ H4 y z' u w' _ I4 r2 r4 q4) fun d' s5 ⟨z2, H5, I5, r5, k2, e2, q5⟩ => ?_))
    subst e2
    cases r5
    exact wpAny_truthy_bool ⟨H5, I5, q5⟩
theorem line63 : (sizeLine : Nat) < 2 ^ 63 := by rw [sizeLine_eq]; decide
theorem vals1 {x : V} {us : List Value} (r : Vals [x] us) : ∃ u, us = [u] ∧ RelV x u := by
  cases r with
  | cons r1 r2 => cases r2; exact ⟨_, rfl, r1⟩
theorem vals2 {x y : V} {us : List Value} (r : Vals [x, y] us) : ∃ u w', us = [u, w'] ∧ RelV x u ∧ RelV y w' := by
  cases r with
  | cons r1 r2 =>
    cases r2 with
    | cons r3 r4 => cases r4; exact ⟨_, _, rfl, r1, r3⟩
theorem call_max2 (hc : X.calm = true) : CallR X (.builtin "max") (fun xs H Q => ∃ i j, xs = [.int i, .int j] ∧ Q (.int (if j > i then j else i)) H) := by
  intro pins s σ H xs us Q I r h
  obtain ⟨i, j, rfl, q⟩ := h
  obtain ⟨u, w', rfl, ⟨t, rfl⟩, ⟨t', rfl⟩⟩ := vals2 r
  refine max_two_ints (I.ok.hd hc) fun h' tk k => ⟨_, H, I.kept k, ?_, q⟩
  by_cases hj : j > i
  · rw [if_pos hj, if_pos hj]; exact ⟨_, rfl⟩
  · rw [if_neg hj, if_neg hj]; exact ⟨_, rfl⟩
theorem call_min2 (hc : X.calm = true) : CallR X (.builtin "min") (fun xs H Q => ∃ i j, xs = [.int i, .int j] ∧ Q (.int (if j < i then j else i)) H) := by
  intro pins s σ H xs us Q I r h
  obtain ⟨i, j, rfl, q⟩ := h
  obtain ⟨u, w', rfl, ⟨t, rfl⟩, ⟨t', rfl⟩⟩ := vals2 r
  refine min_two_ints (I.ok.hd hc) fun h' tk k => ⟨_, H, I.kept k, ?_, q⟩
  by_cases hj : j < i
  · rw [if_pos hj, if_pos hj]; exact ⟨_, rfl⟩
  · rw [if_neg hj, if_neg hj]; exact ⟨_, rfl⟩
/-- divmod: a new tuple -/
theorem call_divmod : CallR X (.builtin "divmod") (fun xs H Q => ∃ i j, xs = [.int i, .int j] ∧ CDiv i j ∧ ∀ p, H p = none → Q (.ref p) (upd H p (.tup [.int (i / j), .int (i % j)]))) := by
  intro pins s σ H xs us Q I r h
  obtain ⟨i, j, rfl, ⟨h1, h2⟩, q⟩ := h
  obtain ⟨u, w', rfl, ⟨t, rfl⟩, ⟨t', rfl⟩⟩ := vals2 r
  refine divmod_int (by omega) ?_ (.inl (PyProof.noPylong_small (by omega)))
  rw [Int.fdiv_eq_ediv_of_nonneg i (by omega), Int.fmod_eq_emod_of_nonneg i (by omega)]
  have hn : H s.heap.objs.size = none := I.hok.fresh (Nat.le_refl _)
  refine ⟨.ref s.heap.objs.size, _, ?_, rfl, q _ hn⟩
  refine I.laid (fun b o e => Heap.get?_push_of_some _ e) (Nat.le_refl _) ⟨by simp only [List.length_cons, List.length_nil]; rw [sizeLine_eq]; decide, [.int (i / j) s.toks, .int (i % j) (s.toks + 1)], .cons ⟨_, rfl⟩ (.cons ⟨_, rfl⟩ .nil), ?_⟩
  exact ⟨_, Heap.get?_push_size s.heap rfl, rfl, 0, rfl⟩
end
end L2
namespace L2
open PySem PySem.Spec PyProof.Rows
structure ObjM (h : Heap) (x dx C : Addr) (mA : Str → Option Value) : Prop where
  obj : h.get? x = some (PySem.W.instObj C dx)
  ns : h.Ns1 dx mA
  ne : dx ≠ x
theorem lookIn_ns {h : Heap} {dx : Addr} {mA : Str → Option Value} (n : h.Ns1 dx mA) : ∃ od, h.get? dx = some od ∧ ∀ name, PySem.W.lookIn name od = some (mA name) := by
  obtain ⟨o, es, ep, ho, hd, hk, _, hm⟩ := n
  refine ⟨o, ho, fun name => ?_⟩
  have e := hm name
  unfold nsFind findBy at e
  rw [← Array.find?_toList] at e
  unfold PySem.W.lookIn
  rw [hd]
  dsimp only
  split
  · rename_i y q
    rw [q] at e
    exact congrArg some e
  · rename_i q
    rw [q] at e
    have a : es.toList.any (·.refKey) = false := by
      rw [List.any_eq_false]
      intro y hy
      obtain ⟨z, t, hkey⟩ := hk y (Array.mem_toList_iff.mp hy)
      simp [DictEntry.refKey, hkey]
    have a' : ¬ es.toList.any (·.refKey) = true := by rw [a]; exact Bool.false_ne_true
    rw [if_neg a']
    exact congrArg some e
theorem ObjM.look {h : Heap} {x dx C : Addr} {mA : Str → Option Value} (I : ObjM h x dx C mA) : ∃ od, PySem.W.InstAt h x (PySem.W.instObj C dx) C (some od) ∧ ∀ name, PySem.W.lookIn name od = some (mA name) :=
  let ⟨od, ho, hl⟩ := lookIn_ns I.ns
  ⟨od, ⟨I.obj, rfl, rfl, ho⟩, hl⟩
section
variable {P : Program} {w : World} {H H' : Hp} {h h' : Heap} {a C dx : Addr} {fs fs' : List (Str × V)}
theorem ins_get (hok : HOk P w H h) (e : H a = some (.ins C dx fs)) : ∃ mA, ObjM h a dx C mA ∧ (∀ f, RelO (fs.lookup f) (mA f)) ∧ PySem.Within mA (fs.map (·.1)) ∧ fs.length ≤ 1000 ∧ H dx = some (.own a) := by
  obtain ⟨d, z, ne, ob, mA, n, r, q⟩ := (show ObjOk P w H h a (.ins C dx fs) from hok a _ e)
  exact ⟨mA, ⟨ob, n, ne⟩, r, q, z, d⟩
end
structure Cls (K : PySem.W.Frag) (C : Addr) : Prop where
  pg : PySem.W.plainGet K C Str.empty = true
  hd : PySem.W.hasDictIn K C = true
  po : PySem.W.plainOver K C = true
  sa : PySem.W.findIn K (.ref C) "__setattr__" = some (some (.builtin "object.__setattr__"))
theorem Cls.get {K : PySem.W.Frag} {C : Addr} (c : Cls K C) (f : Str) : PySem.W.plainGet K C f = true := c.pg
section
variable {X : Cx} {pins : List (Addr × Obj)} {σ : St} {H : Hp} {s : Shared} {A : Around} {E : Value → Shared → Prop} {Q : Value → Shared → Prop} {c : Value} {b : Bool}
/-- the type of a value, as the fragment's deciders take it; for an instance its class -/
inductive TyOf (K : PySem.W.Frag) (H : Hp) : V → Value → Prop where
  | non : TyOf K H .non (.type "NoneType")
  | bl (x : Bool) : TyOf K H (.bl x) (.type "bool")
  | int (i : Int) : TyOf K H (.int i) (.type "int")
  | str (x : Str) : TyOf K H (.str x) (.type "str")
  | flt (x : UInt64) : TyOf K H (.flt x) (.type "float")
  | lst {a : Addr} {xs : List V} (e : H a = some (.lst xs)) : TyOf K H (.ref a) (.type "list")
  | frz {a : Addr} {o : Obj} {xs : List V} (e : H a = some (.frz o (.lst xs))) : TyOf K H (.ref a) (.type "list")
  | tup {a : Addr} {xs : List V} (e : H a = some (.tup xs)) : TyOf K H (.ref a) (.type "tuple")
  | dK {a : Addr} {kvs : List (Key × V)} (e : H a = some (.dK kvs)) : TyOf K H (.ref a) (.type "dict")
  | dT {a : Addr} {kvs : List (List Key × V)} (e : H a = some (.dT kvs)) : TyOf K H (.ref a) (.type "dict")
  | ins {a C dx : Addr} {fs : List (Str × V)} (e : H a = some (.ins C dx fs)) (cl : Cls K C) (ha : PySem.W.findIn K (.ref C) "__class__" = some (some (.builtin "object.__class__")))
      (hn : PySem.W.specialIn K (.builtin "object.__class__") "__get__" = some (some (.builtin "getset_descriptor.__get__"))) (htk : PySem.W.takesIn K (.builtin "object.__class__") = some true)
      (hm : PySem.W.mroIn K C (.type "object") = some true) : TyOf K H (.ref a) (.ref C)
/-- isinstance(x, c) for one class c, a built-in or an own one: kitOne's answer -/
theorem isinst_ok {x : V} {u t : Value} (I : Inv X pins σ H s) (rx : RelV x u) (ty : TyOf X.K H x t) (e : PySem.W.kitOne X.K t c = some b) (h : ∀ tk, Q (.bool b) { s with toks := tk }) :
    wpAny (model X.prog X.w) A (call (.builtin "isinstance") [u, c]) Q E s := by
  cases ty with
  | non => cases (show u = Value.none from rx); exact PySem.W.kia_one PySem.W.kitx_none I.kIn True.intro e (fun z => nomatch z) h
  | bl y => cases (show u = Value.bool y from rx); exact PySem.W.kia_one PySem.W.kitx_bool I.kIn True.intro e (fun z => nomatch z) h
  | int i => obtain ⟨t, q⟩ := (show ∃ t, u = Value.int i t from rx); cases q; exact PySem.W.kia_one PySem.W.kitx_int I.kIn True.intro e (fun z => nomatch z) h
  | str y => obtain ⟨t, q⟩ := (show ∃ t, u = Value.str y t from rx); cases q; exact PySem.W.kia_one PySem.W.kitx_str I.kIn True.intro e (fun z => nomatch z) h
  | flt y => obtain ⟨t, q⟩ := (show ∃ t, u = Value.float y t from rx); cases q; exact PySem.W.kia_one PySem.W.kitx_float I.kIn True.intro e (fun z => nomatch z) h
  | @lst a xs ea =>
    cases (show u = Value.ref a from rx)
    obtain ⟨_, _, n, _, h1⟩ := (show ObjOk X.prog X.w H s.heap a (.lst xs) from I.hok a _ ea)
    exact PySem.W.kia_one PySem.W.kitx_list I.kIn ⟨_, h1, rfl⟩ e (fun z => nomatch z) h
  | @frz a ob xs ea =>
    cases (show u = Value.ref a from rx)
    obtain ⟨_, _, _, n, _, h1⟩ := (show ObjOk X.prog X.w H s.heap a (.frz ob (.lst xs)) from I.hok a _ ea)
    exact PySem.W.kia_one PySem.W.kitx_list I.kIn ⟨_, h1, rfl⟩ e (fun z => nomatch z) h
  | @tup a xs ea =>
    cases (show u = Value.ref a from rx)
    obtain ⟨_, _, _, p⟩ := (show ObjOk X.prog X.w H s.heap a (.tup xs) from I.hok a _ ea)
    obtain ⟨o, h1, h2, _⟩ := p
    exact PySem.W.kia_one PySem.W.kitx_tuple I.kIn ⟨o, h1, h2⟩ e (fun z => nomatch z) h
  | @dK a kvs ea =>
    cases (show u = Value.ref a from rx)
    obtain ⟨_, _, vs, _, p⟩ := (show ObjOk X.prog X.w H s.heap a (.dK kvs) from I.hok a _ ea)
    obtain ⟨o, es, ep, h1, h2, _⟩ := p
    exact PySem.W.kia_one PySem.W.kitx_dict I.kIn ⟨o, h1, h2.1⟩ e (fun z => nomatch z) h
  | @dT a kvs ea =>
    cases (show u = Value.ref a from rx)
    obtain ⟨_, _, xs, _, o, es, ep, h1, h2, _⟩ := (show ObjOk X.prog X.w H s.heap a (.dT kvs) from I.hok a _ ea)
    exact PySem.W.kia_one PySem.W.kitx_dict I.kIn ⟨o, h1, h2.1⟩ e (fun z => nomatch z) h
  | @ins a C dx fs ea cl ha hn htk hm =>
    cases (show u = Value.ref a from rx)
    obtain ⟨mA, O, _⟩ := ins_get I.hok ea
    obtain ⟨od, J, _⟩ := O.look
    exact PySem.W.kia_one (PySem.W.kitx_own (cl.get _) cl.hd ha hn htk hm) I.kIn J e (fun z => nomatch z) h
end
end L2
namespace L2
open PySem PySem.Spec PyProof.Rows
structure Room (k : Nat) (A : Around) : Prop where
  hd : A.handled = none
  dp : A.depth + 3 * k + 5 < recursionLimit
  un : A.units + 16 * k + 200 < cLine
theorem Room.mono {j k : Nat} {A : Around} (r : Room k A) (h : j ≤ k) : Room j A := ⟨r.hd, by have := r.dp; omega, by have := r.un; omega⟩
theorem Room.deeper {k : Nat} {A : Around} (r : Room (k + 1) A) (env : Env) : Room k (A.deeper env) :=
  ⟨r.hd, by have := r.dp; show A.depth + 1 + 3 * k + 5 < _; omega, by have := r.un; show A.units + 3 + 16 * k + 200 < _; omega⟩
theorem Room.depth {k : Nat} {A : Around} (r : Room k A) : A.depth < recursionLimit := by have := r.dp; omega
theorem Room.units {k : Nat} {A : Around} (r : Room k A) : A.units + 64 < cLine := by have := r.un; omega
def tNil : TA := fun _ H Q => Q [] H
def tCons (ta : TE) (tr : TA) : TA := fun σ H Q => ta σ H fun x H1 => tr σ H1 fun xs H2 => Q (x :: xs) H2
section
variable {X : Cx} {e : Expr} {es : List Expr} {te : TE} {t : TA} {pos : Pos}
theorem pa_nil : PA X [] tNil := fun _ _ _ _ H Q I h => Calls.spliced_nil ⟨[], H, I, .nil, h⟩
theorem pa_cons (ha : PE X e te) (hr : PA X es t) (hs : starEach (e :: es) X.env = (false, eval e X.env) :: starEach es X.env := by rfl) : PA X (e :: es) (tCons te t) := by
  intro pos pins s σ H Q I h
  rw [hs]
  show wpAny _ _ (spliced ((false, eval e X.env) :: backTo pos (starEach es X.env))) _ _ s
  refine Calls.spliced_cons (thn (ha pins s σ H _ I h) fun u s1 ⟨x, H1, I1, r1, q1⟩ => ?_)
  exact thn (hr pos pins s1 σ H1 _ I1 q1) fun us s2 ⟨xs, H2, I2, r2, q2⟩ => ⟨x :: xs, H2, I2, .cons r1 r2, q2⟩
/-- a tuple, a list of written items -/
def tTup (t : TA) : TE := fun σ H Q => t σ H fun xs H1 => xs.length ≤ sizeLine ∧ ∀ p, H1 p = none → Q (.ref p) (upd H1 p (.tup xs))
def tLst (t : TA) : TE := fun σ H Q => t σ H fun xs H1 => xs.length ≤ sizeLine ∧ ∀ p, H1 p = none → Q (.ref p) (upd H1 p (.lst xs))
theorem pe_tup {x1} (h : PA X es t) : PE X (.Tuple es x1 pos) (tTup t) := by
  intro pins s σ H Q I hq
  refine wpAny_Tuple_spliced (thn (h pos pins s σ H _ I hq) fun us s1 ⟨xs, H1, I1, r, z, q⟩ => ⟨by rw [← r.length]; exact z, ?_⟩)
  have hf : H1 s1.heap.objs.size = none := I1.hok.fresh (Nat.le_refl _)
  refine ⟨.ref s1.heap.objs.size, upd H1 s1.heap.objs.size (.tup xs), I1.laid (t' := s1.toks) (fun b u e => Heap.get?_push_of_some _ e) (Nat.le_refl _) ?_, rfl, q _ hf⟩
  exact ⟨z, us, r, ⟨_, Heap.get?_push_size _ rfl, rfl, _, rfl⟩⟩
theorem pe_lst (h : PA X es t) : PE X (.List es pos) (tLst t) := by
  intro pins s σ H Q I hq
  refine wpAny_List_spliced (thn (h pos pins s σ H _ I hq) fun us s1 ⟨xs, H1, I1, r, z, q⟩ => ⟨by rw [← r.length]; exact z, ?_⟩)
  have hf : H1 s1.heap.objs.size = none := I1.hok.fresh (Nat.le_refl _)
  refine ⟨.ref s1.heap.objs.size, upd H1 s1.heap.objs.size (.lst xs), I1.laid (t' := s1.toks) (fun b u e => Heap.get?_push_of_some _ e) (Nat.le_refl _) ?_, rfl, q _ hf⟩
  exact ⟨z, us, 0, r, Heap.get?_push_size _ rfl⟩
end
/-- a def's promise: the bound arguments in the parameters' order, the heap, the wanted end, the wanted exception -/
abbrev Sp := List V → Hp → VK → XK → Prop
/-- how an exception lies behind a call (file 08 gives it): the callers' frames, abstract heap and state ahead of the call, the wish, the exception, the state -/
abbrev CXT := List Env → Hp → Shared → XK → Value → Shared → Prop
/-- the state at a call -/
structure Env0 (P : Program) (w : World) (K : PySem.W.Frag) (mg : Str → Option Value) (base : Heap) (A : Around) (outer : List Env) (s : Shared) (H : Hp) : Prop where
  frames : A.frames = some outer
  mod : Mod K mg base
  bs : ∀ b o, base.get? b = some o → s.heap.get? b = some o ∧ H b = none
  bsz : base.objs.size ≤ s.heap.objs.size
  funs : s.heap.FunFrames base outer
  frf : ∀ b ∈ frs outer, H b = none
  hok : HOk P w H s.heap
  bare : AllBare s.gens
/-- a call's end -/
def CE (outer : List Env) (P : Program) (w : World) (H : Hp) (s : Shared) (Q : VK) (u : Value) (s' : Shared) : Prop :=
  ∃ v H', s'.os = s.os ∧ AllBare s'.gens ∧ Un (frs outer) [] H H' s.heap s'.heap ∧ HOk P w H' s'.heap ∧ RelV v u ∧ Q v H'
def CR (CX : CXT) (outer : List Env) (P : Program) (w : World) (H : Hp) (s : Shared) (Q : VK) (E : XK) (r : Result) (s' : Shared) : Prop :=
  match r with
  | .ok (.ret u) => CE outer P w H s Q u s'
  | .ok _ => False
  | .error e => CX outer H s E e s'
structure FnOk (P : Program) (w : World) (K : PySem.W.Frag) (mg : Str → Option Value) (base : Heap) (CX : CXT) (k : Nat) (f : Addr) (fd : FuncData) (ps : List Str) (sp : Sp) : Prop where
  len : ∀ vs H Q E, sp vs H Q E → vs.length = ps.length
  run : ∀ (A : Around) (outer : List Env) (s : Shared) (H : Hp) (args : Args) (us : List Value) (vs : List V) (Q : VK) (E : XK), Room k A → Env0 P w K mg base A outer s H → BindsTo s fd args (ps.zip us) → Vals vs us → sp vs H Q E →
    codeAny (model P w) A (.call (.ref f) args) (CR CX outer P w H s Q E) s
section
variable {X : Cx} {pins : List (Addr × Obj)} {σ : St} {H : Hp} {s s' : Shared}
/-- from a body: what a callee wants -/
theorem Inv.env0 (I : Inv X pins σ H s) : Env0 X.prog X.w X.K X.mg X.base X.A X.stack s H :=
  ⟨I.ok.frames, I.ok.mod, I.bs, Nat.le_trans I.ok.bsz I.sz, I.stack, I.stkFree, I.hok, I.bare⟩
/-- behind a call -/
theorem Inv.after {Q : VK} {u : Value} (I : Inv X pins σ H s) (h : CE X.stack X.prog X.w H s Q u s') : EP X pins σ Q u s' := by
  obtain ⟨v, H', os, bare, un, hok, r, q⟩ := h
  obtain ⟨hh, g, d, t, os'⟩ := s'
  obtain rfl : os' = s.os := os
  exact ⟨v, H', I.call (h' := hh) (g' := g) (d' := d) (t' := t) (ch := []) un hok bare (fun b z => absurd z (by simp)), r, q⟩
end
/-- f(..): the written arguments, then the defaults dvs; E: what is wanted of an exception -/
def tCall (sp : Sp) (dvs : List V) (E : XK) (t : TA) : TE := fun σ H Q => t σ H fun vs H1 => sp (vs ++ dvs) H1 Q E
/-- how the parameters are bound: us the positional arguments, kw the keywords' values by name, ds the defaults that fill up -/
def Binds (K : PySem.W.Frag) (fd : FuncData) (ps : List Str) (ds : List Value) : Prop :=
  ∀ (s : Shared) (us : List Value), K.In s.heap → (us ++ ds).length = ps.length → BindsTo s fd ⟨us, []⟩ (ps.zip (us ++ ds))
/-- every parameter is given -/
theorem Binds.all {K : PySem.W.Frag} {fd : FuncData} {ps : List Str} (h : ∀ us : List Value, us.length = ps.length → bindArgs fd ⟨us, []⟩ = pure (ps.zip us)) : Binds K fd ps [] := fun s us _ hl => by
  rw [List.append_nil] at hl ⊢
  exact .of_eq (h us hl)
/-- an exception of a callee reaches what this body wants of exceptions -/
def Passes (CX : CXT) (X : Cx) (E : XK) : Prop := ∀ (pins : List (Addr × Obj)) (σ : St) (H : Hp) (s : Shared) (e : Value) (s' : Shared), Inv X pins σ H s → CX X.stack H s E e s' → X.xe e s'
section
variable {X : Cx} {CX : CXT} {k : Nat} {f C : Addr} {fd : FuncData} {ps : List Str} {sp : Sp} {dvs : List V} {ds : List Value} {E : XK} {x m : Str} {p pos apos : Pos} {e o : Expr} {es : List Expr} {ta : TE} {t : TA}
/-- the callee runs -/
theorem run_fn {pins : List (Addr × Obj)} {σ : St} {H : Hp} {s : Shared} {Q : VK} {us : List Value} {vs : List V} (F : FnOk X.prog X.w X.K X.mg X.base CX k f fd ps sp) (hr : Room k X.A) (hb : Binds X.K fd ps ds) (hd : Vals dvs ds) (hx : Passes CX X E)
    (I : Inv X pins σ H s) (r : Vals vs us) (h : sp (vs ++ dvs) H Q E) : wpAny (model X.prog X.w) X.A (call (.ref f) us) (EP X pins σ Q) X.xe s := by
  have r2 : Vals (vs ++ dvs) (us ++ ds) := r.append hd
  have hl : (us ++ ds).length = ps.length := by rw [← r2.length]; exact F.len _ _ _ _ h
  refine wpAny_call (codeAny_mono (F.run X.A X.stack s H ⟨us, []⟩ (us ++ ds) (vs ++ dvs) Q E hr I.env0 (hb s us I.kIn hl) r2 h) fun r s' hq => ?_)
  cases r with
  | error e => exact hx pins σ H s e s' I hq
  | ok fl =>
    cases fl with
    | ret u => exact I.after hq
    | next => exact False.elim hq
    | brk => exact False.elim hq
    | cont => exact False.elim hq
theorem pe_call (F : FnOk X.prog X.w X.K X.mg X.base CX k f fd ps sp) (hr : Room k X.A) (hg : Gl X x) (hm : X.mg x = some (.ref f)) (hk : PySem.W.keepIn X.K (.ref f) = true) (hb : Binds X.K fd ps ds) (hd : Vals dvs ds) (hx : Passes CX X E)
    (ha : PA X (e :: es) t) (hdb : (x == ("__debug__" : Str)) = false := by decide) (he : starEach (e :: es) X.env = (false, eval e X.env) :: starEach es X.env := by rfl) (hpl : (backTo pos (starEach es X.env)).any (·.1) = false := by rfl) :
    PE X (.Call (.Name x p) (e :: es) [] pos) (tCall sp dvs E t) := by
  intro pins s σ H Q I h
  refine wpAny_Call_Name_kw (ld_glob I hg hm ?_ hdb)
  refine PySem.W.callWith_K (h₀ := X.base) I.ok.mod.kin hk (thn (ha pos pins s σ H _ I h) fun us s1 ⟨vs, H1, I1, r, q⟩ => ⟨I1.kIn, ?_⟩) he hpl
  exact run_fn F hr hb hd hx I1 r q
end
/-- names: the parameters first -/
structure FnScope (N P : List Str) (sc : Scope) : Prop where
  kind : sc.kind = .function
  co : sc.isCoroutine = false
  gen : sc.isGenerator = false
  nd : N.Nodup
  pre : N.take P.length = P
  par : ∀ x ∈ P, sc.names.lookup x = some .local ∨ sc.names.lookup x = some .cell
  nofree : ∀ y ∈ sc.names, y.2 ≠ .free
theorem bindL_out {kindOf : Str → Option NameKind} {x : Str} : ∀ {binds : List (Str × Value)} {m : Str → Option Value}, (∀ v, (x, v) ∉ binds) → bindL kindOf binds m x = m x
  | [], _, _ => rfl
  | (n, v) :: r, m, h => by
    unfold bindL
    rw [bindL_out fun w hw => h w (List.mem_cons_of_mem _ hw)]
    split
    · have : x ≠ n := by rintro rfl; exact h v List.mem_cons_self
      simp [this]
    · rfl
theorem bindC_out {kindOf : Str → Option NameKind} {x : Str} : ∀ {binds : List (Str × Value)} {m : Str → Option Value}, (∀ v, (x, v) ∉ binds) → bindC kindOf binds m x = m x
  | [], _, _ => rfl
  | (n, v) :: r, m, h => by
    unfold bindC
    rw [bindC_out fun w hw => h w (List.mem_cons_of_mem _ hw)]
    split
    · rfl
    · have : x ≠ n := by rintro rfl; exact h v List.mem_cons_self
      simp [this]
theorem bindL_get {kindOf : Str → Option NameKind} {x : Str} {v : Value} : ∀ {P : List Str} {vs : List Value} {i : Nat} {m : Str → Option Value}, P.Nodup → P[i]? = some x → vs[i]? = some v → kindOf x = some .local →
    bindL kindOf (P.zip vs) m x = some v
  | [], _, _, _, _, h, _, _ => by simp at h
  | _ :: _, [], _, _, _, _, h, _ => by simp at h
  | p :: P, w :: vs, 0, m, nd, h1, h2, hk => by
    simp at h1 h2; subst h1; subst h2
    show bindL kindOf ((p, w) :: P.zip vs) m p = _
    unfold bindL
    rw [bindL_out fun v hv => (List.nodup_cons.mp nd).1 (List.of_mem_zip hv).1, if_pos hk]
    simp
  | p :: P, w :: vs, i + 1, m, nd, h1, h2, hk => by
    show bindL kindOf ((p, w) :: P.zip vs) m x = _
    unfold bindL
    exact bindL_get (i := i) (List.nodup_cons.mp nd).2 (by simpa using h1) (by simpa using h2) hk
theorem bindC_get {kindOf : Str → Option NameKind} {x : Str} {v : Value} : ∀ {P : List Str} {vs : List Value} {i : Nat} {m : Str → Option Value}, P.Nodup → P[i]? = some x → vs[i]? = some v → kindOf x ≠ some .local →
    bindC kindOf (P.zip vs) m x = some v
  | [], _, _, _, _, h, _, _ => by simp at h
  | _ :: _, [], _, _, _, _, h, _ => by simp at h
  | p :: P, w :: vs, 0, m, nd, h1, h2, hk => by
    simp at h1 h2; subst h1; subst h2
    show bindC kindOf ((p, w) :: P.zip vs) m p = _
    unfold bindC
    rw [bindC_out fun v hv => (List.nodup_cons.mp nd).1 (List.of_mem_zip hv).1, if_neg hk]
    simp
  | p :: P, w :: vs, i + 1, m, nd, h1, h2, hk => by
    show bindC kindOf ((p, w) :: P.zip vs) m x = _
    unfold bindC
    exact bindC_get (i := i) (List.nodup_cons.mp nd).2 (by simpa using h1) (by simpa using h2) hk
/-- the names' values at the entry -/
def start (N : List Str) (vs : List V) : St := vs.map some ++ List.replicate (N.length - vs.length) none
/-- the context of a def's body, at its entry; an exception leaves the frame, then lies as CX says -/
def cxOf (CX : CXT) (P : Program) (w : World) (K : PySem.W.Frag) (mg : Str → Option Value) (base : Heap) (N : List Str) (qual : Str) (scope : Scope) (f : Addr) (cd : Value) (A : Around) (outer : List Env) (s : Shared) (H : Hp) (E : XK) : Cx where
  prog := P
  w := w
  K := K
  mg := mg
  base := base
  A := A.deeper (envOfC qual scope s.heap.objs.size f cd)
  N := N
  s₀ := s
  H₀ := H
  env := envOfC qual scope s.heap.objs.size f cd
  outer := outer
  stack := envOfC qual scope s.heap.objs.size f cd :: outer
  ex := []
  calm := true
  fn := fun _ => true
  pn := []
  xe := fun e s' => wpAny (model P w) (A.deeper (envOfC qual scope s.heap.objs.size f cd)) (leaving (envOfC qual scope s.heap.objs.size f cd) e) (fun _ s'' => CX outer H s E e s'') (fun e' s'' => CX outer H s E e' s'') s'
theorem cell_has {sc : Scope} {n : Nat} {x : Str} (h : sc.names.lookup x = some .cell) : ∃ c, (cellsFrom n sc.names []).lookup x = some c := by
  have q := PySem.W.cellsFrom_some sc.names n [] (.inl h)
  exact Option.isSome_iff_exists.mp q
theorem inv_start {CX : CXT} {P : Program} {w : World} {K : PySem.W.Frag} {mg : Str → Option Value} {base : Heap} {N ps : List Str} {qual : Str} {scope : Scope} {f : Addr} {cd : Value} {A : Around} {outer : List Env} {s s1 : Shared} {H : Hp} {E : XK} {us : List Value} {vs : List V}
    (S : FnScope N ps scope) (hd : A.handled = none) (e0 : Env0 P w K mg base A outer s H) (hl : vs.length = ps.length) (r : Vals vs us)
    (x : InCallC s s.heap.objs.size (bindL (envOfC qual scope s.heap.objs.size f cd).kindOf (ps.zip us) fun _ => none) (cellsFrom (s.heap.objs.size + 1) scope.names []) (bindC (envOfC qual scope s.heap.objs.size f cd).kindOf (ps.zip us) fun _ => none) s1) :
    Inv (cxOf CX P w K mg base N qual scope f cd A outer s H E) [] (start N vs) H s1 := by
  have hpl : ps.length ≤ N.length := by have := congrArg List.length S.pre; rw [List.length_take] at this; omega
  obtain ⟨h1, tk, rfl, hk⟩ := x.done
  have noA : ∀ b : Addr, b ∉ (cxOf CX P w K mg base N qual scope f cd A outer s H E).ex := fun b z => absurd (show b ∈ ([] : List Addr) from z) (by simp)
  refine ⟨⟨e0.mod, S.kind, rfl, rfl, Nat.le_refl _, fun y z c h1 h2 => ?_, fun y hy => ?_, fun y c _ h => ?_, fun _ => hd, Around.frames_deeper e0.frames, .inr ⟨rfl, rfl⟩, fun b z => absurd z (noA b), e0.bs, e0.bsz, fun b _ _ => noA b, fun b z => absurd z (noA b), e0.funs, e0.frf⟩,
    rfl, e0.bare, Un.kept hk, ⟨_, x.toInCall.ns, fun i y v h1 h2 h3 => ?_⟩, fun y c h => ⟨_, x.cell y c h⟩, e0.hok.fresh (Nat.le_refl _), fun y c h => ?_, fun p hp => absurd (show p ∈ ([] : List (Addr × Obj)) from hp) (by simp), e0.hok.kept hk, ?_⟩
  · exact name_of_addr x.apart (PySem.mem_of_lookup h1) (PySem.mem_of_lookup h2)
  · have hy : scope.names.lookup y = some .cell ∨ scope.names.lookup y = some .free := hy
    rcases hy with hy | hy
    · exact cell_has hy
    · exact absurd rfl (S.nofree _ (PySem.mem_of_lookup hy))
  · exact Nat.le_of_lt (x.above y c (PySem.mem_of_lookup h))
  · have hi : i < vs.length := by
      unfold start at h2
      by_cases hi : i < vs.length
      · exact hi
      · rw [List.getElem?_append_right (by simpa using hi)] at h2
        rw [List.getElem?_replicate] at h2
        split at h2 <;> cases h2
    have ha : vs[i]? = some v := by
      unfold start at h2
      rw [List.getElem?_append_left (by simpa using hi), List.getElem?_map] at h2
      cases e : vs[i]? with
      | none => rw [e] at h2; cases h2
      | some a => rw [e] at h2; cases h2; rfl
    obtain ⟨u, hu, rv⟩ := r.get ha
    have hp : ps[i]? = some y := by
      rw [← S.pre, List.getElem?_take_of_lt (by omega)]; exact h1
    have ndP : ps.Nodup := by rw [← S.pre]; exact S.nd.sublist (List.take_sublist _ _)
    refine ⟨u, rv, ?_⟩
    rcases S.par y (List.mem_of_getElem? hp) with k | k
    · exact .inl ⟨k, bindL_get ndP hp hu k⟩
    · obtain ⟨c, e⟩ := cell_has (n := s.heap.objs.size + 1) k
      refine .inr ⟨.inl k, c, e, ?_⟩
      have q := x.cell y c e
      rw [bindC_get ndP hp hu (by show scope.names.lookup y ≠ _; rw [k]; decide)] at q
      exact q
  · exact e0.hok.fresh (Nat.le_of_lt (x.above y c (PySem.mem_of_lookup h)))
  · unfold start
    show _ = N.length
    rw [List.length_append, List.length_map, List.length_replicate]
    omega
/-- THE RULE: a def (or a method) of the text, by its body. The body's reading t is chosen for each entry; it is run at the parameters' values -/
theorem fn_of {CX : CXT} {P : Program} {w : World} {K : PySem.W.Frag} {mg : Str → Option Value} {base : Heap} {k : Nat} {f : Addr} {name qual : Str} {params : Arguments} {body : List Stmt} {scope : Scope} {dV kV doc pm cdv ct oc : Value} {an od : Option Addr}
    {osl : Array (Option Value)} {N ps : List Str} {sp : Sp} (lk : K.lookup f = some ⟨oc, od, .func (PySem.W.fnOf name qual params body scope dV kV doc pm an cdv ct), osl⟩) (hcd : PySem.W.codeIn K cdv qual = true) (S : FnScope N ps scope)
    (len : ∀ vs H Q E, sp vs H Q E → vs.length = ps.length)
    (hbody : ∀ (A : Around) (outer : List Env) (s : Shared) (H : Hp) (vs : List V) (Q : VK) (E : XK), Room k (A.deeper (envOfC qual scope s.heap.objs.size f cdv)) → sp vs H Q E →
      ∃ t, PSs (cxOf CX P w K mg base N qual scope f cdv A outer s H E) body t ∧ t { nx := fun _ H' => Q .non H', rt := Q } (start N vs) H) :
    FnOk P w K mg base CX (k + 1) f (PySem.W.fnOf name qual params body scope dV kV doc pm an cdv ct) ps sp := by
  refine ⟨len, fun A outer s H args us vs Q E hr e0 hb r hsp => ?_⟩
  have hl := len _ _ _ _ hsp
  have KX : K.In s.heap := e0.mod.kin.keeps fun b o e => (e0.bs b o e).1
  have lim : s.heap.NoLimit := e0.mod.nolimit.keeps fun b o e => (e0.bs b o e).1
  have hkind : ∀ y ∈ ps.zip us, scope.names.lookup y.1 = some .local ∨ (scope.names.lookup y.1 = some .cell ∧ ((cellsFrom (s.heap.objs.size + 1) scope.names []).lookup y.1).isSome = true) := fun ⟨n, v⟩ hy => by
    rcases S.par n (List.of_mem_zip hy).1 with q | q
    · exact .inl q
    · exact .inr ⟨q, PySem.W.cellsFrom_some _ _ _ (.inl q)⟩
  refine codeAny_call_function hr.depth (KX _ _ lk) rfl S.co S.gen rfl (PySem.W.codeRec_of KX hcd) (hb _ _ _ _ ?_)
  refine wpAny_newFunctionEnv_cells S.kind hkind fun env he s1 x => ?_
  subst he
  refine ⟨lim.keeps x.toInCall.keep, codeAny_func ?_⟩
  obtain ⟨t, ht, hq⟩ := hbody A outer s H vs Q E (hr.deeper _) hsp
  have I : Inv (cxOf CX P w K mg base N qual scope f cdv A outer s H E) [] (start N vs) H s1 := inv_start S hr.hd e0 hl r x
  refine wpAny_mono (ht [] s1 (start N vs) H _ I hq) (fun fl s' hs => ?_) fun e s' hs => hs
  have fin : ∀ {σ' : St} {H' : Hp} {v : V} {u : Value}, Inv (cxOf CX P w K mg base N qual scope f cdv A outer s H E) [] σ' H' s' → RelV v u → Q v H' → CE outer P w H s Q u s' :=
    fun {σ' H' v u} J rv q => ⟨v, H', J.os, J.bare, J.base, J.hok, rv, q⟩
  cases fl with
  | ret u =>
    obtain ⟨v, σ', H', J, rv, q⟩ := hs
    exact fin J rv q
  | next =>
    obtain ⟨σ', H', J, q⟩ := hs
    exact fin (v := V.non) (u := Value.none) J rfl q
  | brk =>
    obtain ⟨_, _, _, q⟩ := hs
    exact False.elim q
  | cont =>
    obtain ⟨_, _, _, q⟩ := hs
    exact False.elim q
end L2
namespace L2
open PySem PySem.Spec PyProof.Rows
section
variable {X : Cx} {x : Str} {p pos : Pos} {e : Expr} {es : List Expr} {t : TA} {id T : String} {r : List V → Hp → VK → Prop}
def tCB (r : List V → Hp → VK → Prop) (t : TA) : TE := fun σ H Q => t σ H fun vs H1 => r vs H1 Q
/-- f(e, ..), f a built-in function -/
theorem pe_callB (hc : CallR X (.builtin id) r) (hg : Gl X x) (hm : X.mg x = none) (hv : bootBuiltins x = some (.builtin id)) (ha : PA X (e :: es) t) (hn : x ≠ "__name__" := by decide) (hdb : (x == ("__debug__" : Str)) = false := by decide)
    (he : starEach (e :: es) X.env = (false, eval e X.env) :: starEach es X.env := by rfl) (hpl : (backTo pos (starEach es X.env)).any (·.1) = false := by rfl) : PE X (.Call (.Name x p) (e :: es) [] pos) (tCB r t) := by
  intro pins s σ H Q I h
  refine wpAny_Call_Name_kw (ld_blt I hg hm hv ?_ hn hdb)
  exact PyProof.Rows.callWith_builtin1 (thn (ha pos pins s σ H _ I h) fun us s1 ⟨vs, H1, I1, r1, q1⟩ => hc pins s1 σ H1 vs us Q I1 r1 q1) he hpl
/-- T(e, ..), T a built-in type -/
theorem pe_callTy (hc : CallR X (.type T) r) (hg : Gl X x) (hm : X.mg x = none) (hv : bootBuiltins x = some (.type T)) (ha : PA X (e :: es) t) (hn : x ≠ "__name__" := by decide) (hdb : (x == ("__debug__" : Str)) = false := by decide)
    (he : starEach (e :: es) X.env = (false, eval e X.env) :: starEach es X.env := by rfl) (hpl : (backTo pos (starEach es X.env)).any (·.1) = false := by rfl) : PE X (.Call (.Name x p) (e :: es) [] pos) (tCB r t) := by
  intro pins s σ H Q I h
  refine wpAny_Call_Name_kw (ld_blt I hg hm hv ?_ hn hdb)
  exact PyProof.Rows.callWith_type1 (thn (ha pos pins s σ H _ I h) fun us s1 ⟨vs, H1, I1, r1, q1⟩ => hc pins s1 σ H1 vs us Q I1 r1 q1) he hpl
end
end L2
namespace HT
open PySem PyProof.Rows
section
variable {prog : Program} {w : World} {A : Around} {E : Value → Shared → Prop} {s : Shared}
/-- t + u, t not empty -/
theorem cat_tup {t b : Addr} {vs ws : List Value} {Q : Value → Shared → Prop} (ht : IsTup s.heap t vs.toArray) (hb : IsTup s.heap b ws.toArray) (hv : vs ≠ [])
    (h1 : ws = [] → Q (.ref t) s) (h2 : ws ≠ [] → Q (.ref s.heap.objs.size) { s with heap := s.heap.push { cls := .type "tuple", data := .seq (vs ++ ws).toArray } })
    (hsz : vs.length + ws.length ≤ sizeLine) : wpAny (model prog w) A (binaryOp .Add (.ref t) (.ref b)) Q E s := by
  obtain ⟨⟨cls, dd, data, sl⟩, ho, hc, n, hd⟩ := id ht
  obtain ⟨⟨cls2, dd2, data2, sl2⟩, ho2, hc2, n2, hd2⟩ := id hb
  simp only at hc hd hc2 hd2
  subst hc hd hc2 hd2
  have e : vs.toArray ++ ws.toArray = (vs ++ ws).toArray := by simp
  by_cases hw : ws = []
  · exact concat_meets ⟨_, ho, rfl⟩ ⟨_, ho2, rfl⟩ noFill_tuple_add seq_tuple_add PySem.F.slot_tuple_add PySem.F.entry_tuple_add (PySem.F.args_tuple_add_2 _ _)
      (tuple_addW1 t b vs.toArray ws.toArray n n2 dd dd2 sl sl2 (by simpa using hv) (by simp [hw])) ⟨ho, ho2, h1 hw⟩
  · refine concat_meets ⟨_, ho, rfl⟩ ⟨_, ho2, rfl⟩ noFill_tuple_add seq_tuple_add PySem.F.slot_tuple_add PySem.F.entry_tuple_add (PySem.F.args_tuple_add_2 _ _)
      (tuple_addW2 t b vs.toArray ws.toArray n n2 dd dd2 sl sl2 (by simpa using hv) (by simpa using hw) (by rw [List.size_toArray, List.size_toArray]; exact hsz)) ⟨ho, ho2, ?_⟩
    rw [e]
    exact h2 hw
/-- a slice's bound as a place among n (d where it is left out) -/
def sIx (n d : Nat) : Option Int → Nat
  | none => d
  | some v => if v < 0 then (v + (n : Int)).toNat else min v.toNat n
theorem sIx_le (n d : Nat) (hd : d ≤ n) (o : Option Int) : sIx n d o ≤ n := by
  cases o with
  | none => exact hd
  | some v =>
    show (if v < 0 then (v + (n : Int)).toNat else min v.toNat n) ≤ n
    by_cases hv : v < 0
    · rw [if_pos hv]; omega
    · rw [if_neg hv]; exact Nat.min_le_right _ _
theorem clip_eq (v : Int) (n d : Nat) : (if v < 0 then max (v + (n : Int)) 0 else min v (n : Int)) = ((sIx n d (some v) : Nat) : Int) := by
  show (if v < 0 then max (v + (n : Int)) 0 else min v (n : Int)) = (((if v < 0 then (v + (n : Int)).toNat else min v.toNat n) : Nat) : Int)
  by_cases hv : v < 0
  · simp only [if_pos hv]; omega
  · simp only [if_neg hv]; omega
theorem adjust_gen (lo hi : Option Int) (n : Nat) : Builtin.Slice.sliceAdjust lo hi 1 (n : Int) = (((sIx n 0 lo : Nat) : Int), ((sIx n n hi : Nat) : Int)) := by
  have h1 : ¬ ((1 : Int) < 0) := by omega
  unfold Builtin.Slice.sliceAdjust
  simp only [h1, if_false]
  refine Prod.ext ?_ ?_
  · cases lo with
    | none => rfl
    | some v => exact clip_eq v n 0
  · cases hi with
    | none => rfl
    | some v => exact clip_eq v n n
theorem places_gen (i j : Nat) : Builtin.Slice.slicePlaces (i : Int) (j : Int) 1 = j - i := by
  unfold Builtin.Slice.slicePlaces
  have h1 : (1 : Int) > 0 := by omega
  simp only [h1, if_true, Int.ediv_one]
  split <;> omega
theorem slicePart_ {v : Value} {o : Option Int} {Q : Option Int → Shared → Prop} (p : IsPart v o) (h : Q o s) : wpAny (model prog w) A (Builtin.Slice.slicePartIndex v) Q E s := by
  cases p with
  | none => exact slicePart_none h
  | int i t => exact slicePart_int h
theorem sliceApplied_gen {sl : Addr} {vl vu : Value} {lo hi : Option Int} {n : Nat} {Q : Int × Int × Nat → Shared → Prop} (hs : s.heap.IsSliceOf sl vl vu .none) (pl : IsPart vl lo) (pu : IsPart vu hi)
    (h : Q (((sIx n 0 lo : Nat) : Int), 1, sIx n n hi - sIx n 0 lo) s) : wpAny (model prog w) A (Builtin.Slice.sliceApplied (.ref sl) (pure (n : Int))) Q E s := by
  obtain ⟨os, hos, hcs, hds⟩ := id hs
  unfold Builtin.Slice.sliceApplied Builtin.Slice.sliceFields
  refine wpAny_bind (wpAny_bind (wpAny_field hos hds (x := vl) rfl (wpAny_bind (wpAny_field hos hds (x := vu) rfl (wpAny_bind (wpAny_field hos hds (x := .none) rfl (wpAny_pure ?_)))))))
  refine wpAny_bind (slicePart_none ?_)
  show wpAny _ _ (if ((1 : Int) == 0) = true then _ else _) _ _ s
  rw [if_neg (by decide)]
  refine wpAny_bind (slicePart_ pl (wpAny_bind (slicePart_ pu (wpAny_bind (wpAny_pure ?_)))))
  show wpAny _ _ (match Builtin.Slice.sliceAdjust lo hi 1 (n : Int) with | (lo, hi) => pure (lo, (1 : Int), Builtin.Slice.slicePlaces lo hi 1)) _ _ s
  rw [adjust_gen lo hi n]
  show wpAny _ _ (pure (((sIx n 0 lo : Nat) : Int), (1 : Int), Builtin.Slice.slicePlaces ((sIx n 0 lo : Nat) : Int) ((sIx n n hi : Nat) : Int) 1)) _ _ s
  rw [places_gen]
  exact wpAny_pure h
theorem pick_gen (xs : Array Value) (i k : Nat) : ((List.range k).filterMap fun (m : Nat) => xs[((i : Int) + (m : Int) * 1).toNat]?).toArray = ((xs.toList.drop i).take k).toArray := by
  have e : (fun (m : Nat) => xs[((i : Int) + (m : Int) * 1).toNat]?) = fun m => xs[i + m]? := by
    funext m
    have : ((i : Int) + (m : Int) * 1).toNat = i + m := by omega
    rw [this]
  rw [e]
  have := pick_run xs i k
  rw [List.filterMap_map] at this
  have e2 : ((fun x => xs[x]?) ∘ fun x => i + x) = fun m => xs[i + m]? := rfl
  rw [e2] at this
  rw [this]
theorem getItem_tuple_cut {t sl : Addr} {items : Array Value} {vl vu : Value} {lo hi : Option Int} {Q : Value → Shared → Prop} (ht : IsTup s.heap t items) (hs : s.heap.IsSliceOf sl vl vu .none) (pl : IsPart vl lo) (pu : IsPart vu hi)
    (hw : ¬ (sIx items.size 0 lo = 0 ∧ sIx items.size items.size hi = items.size))
    (h : Q (.ref s.heap.objs.size) { s with heap := s.heap.push { cls := .type "tuple", data := .seq ((items.toList.drop (sIx items.size 0 lo)).take (sIx items.size items.size hi - sIx items.size 0 lo)).toArray } })
    (hsz : items.size ≤ sizeLine) : wpAny (model prog w) A (getItem (.ref t) (.ref sl)) Q E s := by
  have htake : sizeOk (.seq ((items.toList.drop (sIx items.size 0 lo)).take (sIx items.size items.size hi - sIx items.size 0 lo)).toArray) := by
    show ((items.toList.drop (sIx items.size 0 lo)).take (sIx items.size items.size hi - sIx items.size 0 lo)).toArray.size ≤ sizeLine
    rw [List.size_toArray, List.length_take, List.length_drop, Array.length_toList]
    omega
  have hj : sIx items.size items.size hi ≤ items.size := sIx_le _ _ (Nat.le_refl _) hi
  obtain ⟨os, hos, hcs, hds⟩ := id hs
  have hTs : s.TypeIs (.ref sl) "slice" := ⟨os, hos, hcs⟩
  unfold getItem
  try with_reducible refine wpAny_holding ?_
  first | refine wpAny_bind (wpAny_pure ?_) | skip
  refine wpAny_bind (wpAny_sequenceKey ht.typeIs (by decide) ?_)
  refine wpAny_bind (wpAny_callSpecial?_slot (name := Str.ofString "__getitem__") ht.typeIs PyProof.Rows.slot_tuple_getitem
    (wpAny_call_entry PyProof.Rows.slot_tuple_getitem ht.typeIs entry_tuple_getitem ?_ (args_tuple_getitem _ _)))
  show wpAny _ _ (Builtin.Tuple.tupleItemsOf (.ref t) >>= _) _ _ s
  refine wpAny_bind (tupleItemsOf_ ht ?_)
  refine wpAny_bind (wpAny_typeOf hTs ?_)
  rw [if_pos (by decide)]
  refine wpAny_bind (sliceApplied_gen hs pl pu ?_)
  have hno : ¬ ((((sIx items.size 0 lo : Nat) : Int) == 0 && (1 : Int) == 1 && (sIx items.size items.size hi - sIx items.size 0 lo) == items.size) = true) := by
    intro q
    rw [Bool.and_eq_true, Bool.and_eq_true] at q
    have q1 : ((sIx items.size 0 lo : Nat) : Int) = 0 := eq_of_beq q.1.1
    have q2 : sIx items.size items.size hi - sIx items.size 0 lo = items.size := eq_of_beq q.2
    exact hw ⟨by omega, by omega⟩
  show wpAny _ _ (if (((sIx items.size 0 lo : Nat) : Int) == 0 && (1 : Int) == 1 && (sIx items.size items.size hi - sIx items.size 0 lo) == items.size) = true then _ else _) _ _ s
  rw [if_neg hno, pick_gen]
  first
    | exact wpAny_bind (m := Builtin.Tuple.tupleExact _) (wpAny_newObj_type (wpAny_pure ⟨_, rfl, wpAny_pure h⟩) htake)
    | exact wpAny_bind (m := Builtin.Tuple.tupleExact _) (wpAny_newObj_type (wpAny_bind (wpAny_pure (wpAny_pure ⟨_, rfl, wpAny_pure h⟩))) htake)
    | exact wpAny_bind (wpAny_bind (m := Builtin.Tuple.tupleExact _) (wpAny_newObj_type (wpAny_pure (wpAny_pure ⟨_, rfl, wpAny_pure h⟩)) htake))
    | exact wpAny_bind (wpAny_bind (m := Builtin.Tuple.tupleExact _) (wpAny_newObj_type (wpAny_pure ⟨_, rfl, wpAny_pure h⟩) htake))
end
end HT
namespace L2
open PySem PySem.Spec PyProof.Rows
abbrev TO := St → Hp → (Option Int → Hp → Prop) → Prop
/-- a slice's part (left out, or an int) -/
def PO (X : Cx) (e : Option Expr) (t : TO) : Prop :=
  ∀ (pins : List (Addr × Obj)) (s : Shared) (σ : St) (H : Hp) (Q : Option Int → Hp → Prop), Inv X pins σ H s → t σ H Q →
    wpAny (model X.prog X.w) X.A (evalPart e X.env) (fun u s' => ∃ o H', Inv X pins σ H' s' ∧ IsPart u o ∧ Q o H') X.xe s
def tNoPart : TO := fun _ H Q => Q none H
def tPart (t : TE) : TO := fun σ H Q => t σ H fun x H1 => ∃ i, x = .int i ∧ Q (some i) H1
section
variable {X : Cx} {e : Expr} {te : TE} {lo hi : Option Expr} {tl th : TO} {pos p2 : Pos}
theorem po_none : PO X none tNoPart := by
  intro pins s σ H Q I h
  rw [evalPart_none]
  exact wpAny_pure ⟨none, H, I, .none, h⟩
theorem po_some (h : PE X e te) : PO X (some e) (tPart te) := by
  intro pins s σ H Q I hw
  rw [evalPart_some]
  refine thn (h pins s σ H _ I hw) fun u s1 ⟨x, H1, I1, r1, q1⟩ => ?_
  obtain ⟨i, rfl, q⟩ := q1
  obtain ⟨t, rfl⟩ := r1
  exact ⟨some i, H1, I1, .int i t, q⟩
/-- what a slice of a value is, by values: the slice object stands at sl -/
def SlR (X : Cx) (r : V → Option Int → Option Int → Hp → VK → Prop) : Prop :=
  ∀ (pins : List (Addr × Obj)) (s : Shared) (σ : St) (H : Hp) (x : V) (v vl vu : Value) (lo hi : Option Int) (sl : Addr) (Q : VK), Inv X pins σ H s → RelV x v → s.heap.IsSliceOf sl vl vu .none → IsPart vl lo → IsPart vu hi → r x lo hi H Q →
    ∃ T id, typeLookup (.type T) "__getitem__" = pure (some (.builtin id)) ∧ s.TypeIs v T ∧ wpAny (model X.prog X.w) X.A (getItem v (.ref sl)) (EP X pins σ Q) X.xe s
def tSl (r : V → Option Int → Option Int → Hp → VK → Prop) (te : TE) (tl th : TO) : TE := fun σ H Q => te σ H fun x H1 => tl σ H1 fun l H2 => th σ H2 fun u H3 => r x l u H3 Q
/-- a[lo:hi], any a -/
theorem pe_slice {r : V → Option Int → Option Int → Hp → VK → Prop} (hr : SlR X r) (he : PE X e te) (hl : PO X lo tl) (hu : PO X hi th) : PE X (.Subscript e (.Slice lo hi none p2) pos) (tSl r te tl th) := by
  intro pins s σ H Q I h
  refine Subscript_ (thn (he pins s σ H _ I h) fun v s1 ⟨x, H1, I1, r1, q1⟩ => ?_)
  refine wpAny_Slice (thn (hl pins s1 σ H1 _ I1 q1) fun vl s2 ⟨l, H2, I2, pl, q2⟩ => thn (hu pins s2 σ H2 _ I2 q2) fun vu s3 ⟨u, H3, I3, pu, q3⟩ => ?_)
  rw [evalPart_none]
  refine wpAny_pure ?_
  have I4 : Inv X pins σ H3 { s3 with heap := s3.heap.push { cls := .type "slice", data := .fields #[vl, vu, .none] } } := I3.kept (t' := s3.toks) fun b ob q => Heap.get?_push_of_some _ q
  obtain ⟨T, id, hT, ht, hg⟩ := hr pins { s3 with heap := s3.heap.push { cls := .type "slice", data := .fields #[vl, vu, .none] } } σ H3 x v vl vu l u s3.heap.objs.size Q I4 r1 (Heap.IsSliceOf.new ..) pl pu q3
  show wpAny (model X.prog X.w) X.A (subscriptTail e (.Slice lo hi none p2) v (.ref s3.heap.objs.size)) (EP X pins σ Q) X.xe { s3 with heap := s3.heap.push { cls := .type "slice", data := .fields #[vl, vu, .none] } }
  exact tail_any (ops := [.ref s3.heap.objs.size, v]) ht hT hg (by with_unfolding_all rfl)
/-- the items of xs[lo:hi] -/
def cutV (xs : List V) (lo hi : Option Int) : List V := (xs.drop (HT.sIx xs.length 0 lo)).take (HT.sIx xs.length xs.length hi - HT.sIx xs.length 0 lo)
theorem cutV_length (xs : List V) (lo hi : Option Int) : (cutV xs lo hi).length ≤ xs.length := by
  unfold cutV
  rw [List.length_take, List.length_drop]
  omega
/-- t[lo:hi], not the whole of it (the whole would be t itself) -/
def rSlT (K : PySem.W.Frag) : V → Option Int → Option Int → Hp → VK → Prop := fun x lo hi H Q => ∃ a xs, x = .ref a ∧ SqT K H a xs ∧
  ¬ (HT.sIx xs.length 0 lo = 0 ∧ HT.sIx xs.length xs.length hi = xs.length) ∧ ∀ p, H p = none → Q (.ref p) (upd H p (.tup (cutV xs lo hi)))
theorem sl_tup : SlR X (rSlT X.K) := by
  intro pins s σ H x v vl vu lo hi sl Q I rx hs pl pu h
  obtain ⟨a, xs, rfl, hx, hw, q⟩ := h
  cases rx
  obtain ⟨its, r, ht, hz⟩ := I.tuple hx
  have hlen : its.toArray.size = xs.length := by rw [List.size_toArray]; exact r.length.symm
  refine ⟨"tuple", _, PyProof.Rows.slot_tuple_getitem.lookup, ht.typeIs, ?_⟩
  refine HT.getItem_tuple_cut ht hs pl pu (by rw [hlen]; exact hw) ?_ (by rw [hlen]; exact hz)
  rw [hlen]
  refine ⟨.ref s.heap.objs.size, _, I.laid (t' := s.toks) (o := .tup (cutV xs lo hi)) (fun b ob q => Heap.get?_push_of_some _ q) (Nat.le_refl _) ?_, rfl, q _ (I.hok.fresh (Nat.le_refl _))⟩
  exact ⟨Nat.le_trans (cutV_length xs lo hi) hz, _, (r.drop (HT.sIx xs.length 0 lo)).take (HT.sIx xs.length xs.length hi - HT.sIx xs.length 0 lo), IsTup.new _ _⟩
/-- t + u, t not empty: u empty gives t itself -/
def rCatT (K : PySem.W.Frag) : R2 := fun x y H Q => ∃ a b xs ys, x = .ref a ∧ y = .ref b ∧ SqT K H a xs ∧ SqT K H b ys ∧ xs ≠ [] ∧ xs.length + ys.length ≤ sizeLine ∧
  (ys = [] → Q (.ref a) H) ∧ (ys ≠ [] → ∀ p, H p = none → Q (.ref p) (upd H p (.tup (xs ++ ys))))
theorem Vals.nil_iff {xs : List V} {us : List Value} (r : Vals xs us) : us = [] ↔ xs = [] := by
  cases r with
  | nil => simp
  | cons _ _ => simp
theorem op_catT : OpR X (binaryOp .Add) (rCatT X.K) := by
  intro pins s σ H x y v u Q I rx ry h
  obtain ⟨a, b, xs, ys, rfl, rfl, ha, hb, hx, hz, q1, q2⟩ := h
  cases rx
  cases ry
  obtain ⟨its, r1, p1, _⟩ := I.tuple ha
  obtain ⟨its2, r2, p2, _⟩ := I.tuple hb
  refine HT.cat_tup p1 p2 (fun z => hx (r1.nil_iff.mp z)) (fun z => ⟨.ref a, H, I, rfl, q1 (r2.nil_iff.mp z)⟩) (fun z => ?_) (by rw [← r1.length, ← r2.length]; exact hz)
  refine ⟨.ref s.heap.objs.size, _, I.laid (t' := s.toks) (o := .tup (xs ++ ys)) (fun b ob q => Heap.get?_push_of_some _ q) (Nat.le_refl _) ?_, rfl, q2 (fun w => z (r2.nil_iff.mpr w)) _ (I.hok.fresh (Nat.le_refl _))⟩
  exact ⟨by rw [List.length_append]; exact hz, _, r1.append r2, IsTup.new _ _⟩
end
end L2
namespace L2
open PySem PySem.Spec PyProof.Rows
/-- the place that an index of any sign means -/
def ixN (n : Nat) (i : Int) : Option Nat := if 0 ≤ i then (if i < n then some i.toNat else none) else if -(n : Int) ≤ i then some (i + n).toNat else none
def atI {α : Type} (xs : List α) (i : Int) : Option α := (ixN xs.length i).bind fun j => xs[j]?
theorem ixN_seq {n : Nat} {i : Int} {j : Nat} (h : ixN n i = some j) : seqIndex? i n = some j ∧ j < n ∧ -(n : Int) ≤ i ∧ i < n := by
  unfold ixN at h
  by_cases h0 : 0 ≤ i
  · rw [if_pos h0] at h
    by_cases h1 : i < n
    · rw [if_pos h1] at h
      have e : i.toNat = j := Option.some.inj h
      exact ⟨by rw [seqIndex_of h0 h1, e], by omega, by omega, h1⟩
    · rw [if_neg h1] at h; cases h
  · rw [if_neg h0] at h
    by_cases h1 : -(n : Int) ≤ i
    · rw [if_pos h1] at h
      have e : (i + n).toNat = j := Option.some.inj h
      exact ⟨by rw [seqIndex_neg (by omega) h1, e], by omega, h1, by omega⟩
    · rw [if_neg h1] at h; cases h
theorem atI_get {α : Type} {xs : List α} {i : Int} {v : α} (h : atI xs i = some v) : ∃ j, seqIndex? i xs.length = some j ∧ xs[j]? = some v ∧ j < xs.length ∧ -(xs.length : Int) ≤ i ∧ i < xs.length := by
  unfold atI at h
  cases e : ixN xs.length i with
  | none => rw [e] at h; cases h
  | some j =>
    rw [e] at h
    obtain ⟨h1, h2, h3, h4⟩ := ixN_seq e
    exact ⟨j, h1, h, h2, h3, h4⟩
/-- what stands as an index of a plain subscript -/
def PlainIx (b : Expr) : Prop := ∀ o i, subscripted b false o i = operate [o, i] (getItem o i)
/-- a subscript by values -/
def IxR (X : Cx) (r : R2) : Prop :=
  ∀ (value slice : Expr) (pins : List (Addr × Obj)) (s : Shared) (σ : St) (H : Hp) (x y : V) (v u : Value) (Q : VK), Inv X pins σ H s → RelV x v → RelV y u → r x y H Q →
    subscripted slice false v u = operate [v, u] (getItem v u) → wpAny (model X.prog X.w) X.A (subscriptTail value slice v u) (EP X pins σ Q) X.xe s
/-- a call of a builtin's method by values: the receiver, the arguments -/
def MtR (X : Cx) (id : String) (r : V → List V → Hp → VK → Prop) : Prop :=
  ∀ (pins : List (Addr × Obj)) (s : Shared) (σ : St) (H : Hp) (x : V) (xs : List V) (v : Value) (us : List Value) (Q : VK), Inv X pins σ H s → RelV x v → Vals xs us → r x xs H Q →
    wpAny (model X.prog X.w) X.A (call (.builtin id) (v :: us)) (EP X pins σ Q) X.xe s
section
variable {X : Cx} {a b : Expr} {ta tb : TE} {pos : Pos}
/-- a[b] -/
theorem pe_ix {r : R2} (hr : IxR X r) (ha : PE X a ta) (hb : PE X b tb) (hs : PlainIx b) : PE X (.Subscript a b pos) (tOp r ta tb) := by
  intro pins s σ H Q I h
  exact Subscript_ (binT ha hb I h fun v u s2 x y H2 I2 rx ry q => hr a b pins s2 σ H2 x y v u Q I2 rx ry q (hs _ _))
def rIxL (K : PySem.W.Frag) : R2 := fun x y H Q => ∃ p xs i v, x = .ref p ∧ y = .int i ∧ SqL K H p xs ∧ atI xs i = some v ∧ Q v H
def rIxT (K : PySem.W.Frag) : R2 := fun x y H Q => ∃ p xs i v, x = .ref p ∧ y = .int i ∧ SqT K H p xs ∧ atI xs i = some v ∧ Q v H
def rIxS : R2 := fun x y H Q => ∃ z i c, x = .str z ∧ y = .int i ∧ z.length ≤ sizeLine ∧ atI z.cps.toList i = some c ∧ Q (.str ⟨#[c]⟩) H
theorem ix_list : IxR X (rIxL X.K) := by
  intro value slice pins s σ H x y v u Q I rx ry h hs
  obtain ⟨p, xs, i, z, rfl, rfl, hq, he, q⟩ := h
  cases rx
  obtain ⟨t, rfl⟩ := ry
  obtain ⟨its, r, pl, hz⟩ := I.list hq
  obtain ⟨j, h1, h2, h3, h4, h5⟩ := atI_get he
  obtain ⟨w, ew, rw'⟩ := r.get h2
  have hl := r.length
  have hn := line63
  have fin : EP X pins σ Q w s := ⟨z, H, I, rw', q⟩
  by_cases h0 : 0 ≤ i
  · have hj : i.toNat = j := by
      rw [seqIndex_of h0 h5] at h1
      exact Option.some.inj h1
    exact item_listR pl.isList h0 (by omega) (by rw [hj]; simpa using ew) fin hs
  · have hj : (i + (its.toArray.size : Int)).toNat = j := by
      rw [seqIndex_neg (by omega) h4] at h1
      rw [List.size_toArray, ← hl]
      exact Option.some.inj h1
    exact subscriptTail_builtinR (x := w) pl.isList.typeIs slot_list_getitem.lookup
      (wpAny_getItem_list_neg (Q := fun r s' => r = w ∧ EP X pins σ Q r s') pl.isList (by omega) (by rw [List.size_toArray] <;> omega) (by omega) (by rw [hj]; simpa using ew) ⟨rfl, fin⟩) hs
theorem ix_tup : IxR X (rIxT X.K) := by
  intro value slice pins s σ H x y v u Q I rx ry h hs
  obtain ⟨p, xs, i, z, rfl, rfl, hq, he, q⟩ := h
  cases rx
  obtain ⟨t, rfl⟩ := ry
  obtain ⟨its, r, pl, hz⟩ := I.tuple hq
  obtain ⟨j, h1, h2, h3, h4, h5⟩ := atI_get he
  obtain ⟨w, ew, rw'⟩ := r.get h2
  have hl := r.length
  have hn := line63
  have fin : EP X pins σ Q w s := ⟨z, H, I, rw', q⟩
  exact subscriptTail_builtinR (x := w) pl.typeIs slot_tuple_getitem.lookup
    (getItem_tuple (j := j) (Q := fun r s' => r = w ∧ EP X pins σ Q r s') pl (by omega) (by omega) (by rw [List.size_toArray, ← hl]; exact h1) (by simpa using ew) ⟨rfl, fin⟩) hs
theorem ix_str : IxR X rIxS := by
  intro value slice pins s σ H x y v u Q I rx ry h hs
  obtain ⟨z, i, c, rfl, rfl, hz, he, q⟩ := h
  obtain ⟨t, rfl⟩ := rx
  obtain ⟨t', rfl⟩ := ry
  obtain ⟨j, h1, h2, h3, h4, h5⟩ := atI_get he
  have hl : z.cps.toList.length = z.length := by simp [Str.length]
  rw [hl] at h1 h4 h5
  have hn := line63
  exact tail_any (typeIs_str s z t) slot_str_getitem.lookup (getItem_str (c := c) (by
    have e1 : decide (i < -(2 ^ 63 : Int)) = false := decide_eq_false (by omega)
    have e2 : decide (i ≥ 2 ^ 63) = false := decide_eq_false (by omega)
    rw [e1, e2, Bool.or_false]) (by rw [h1]; simpa using h2) ⟨.str ⟨#[c]⟩, H, I.tok _, ⟨_, rfl⟩, q⟩) hs
/-- the list's object behind a store -/
theorem mapSeq_set (its : List Value) (n j : Nat) (u : Value) : Obj.mapSeq (·.setIfInBounds j u) { cls := .type "list", data := .seq its.toArray n } = { cls := .type "list", data := .seq (its.set j u).toArray n } := by
  simp [Obj.mapSeq]
theorem Inv.lst {pins : List (Addr × Obj)} {σ : St} {H : Hp} {s : Shared} {p : Addr} {xs : List V} (I : Inv X pins σ H s) (h : H p = some (.lst xs)) :
    ∃ (its : List Value) (n : Nat), Vals xs its ∧ s.heap.get? p = some { cls := .type "list", data := .seq its.toArray n } ∧ xs.length ≤ sizeLine := by
  obtain ⟨z, its, n, r, e⟩ := I.hok p _ h
  exact ⟨its, n, r, e, z⟩
/-- the list at p is written by an update of its object -/
theorem Inv.lstUpd {pins : List (Addr × Obj)} {σ : St} {H : Hp} {s : Shared} {p : Addr} {xs ys : List V} {its its' : List Value} {n n' : Nat} {f : Obj → Obj} (I : Inv X pins σ H s) (h : H p = some (.lst xs))
    (ho : s.heap.get? p = some { cls := .type "list", data := .seq its.toArray n }) (hf : f { cls := .type "list", data := .seq its.toArray n } = { cls := .type "list", data := .seq its'.toArray n' }) (r : Vals ys its') (hz : ys.length ≤ sizeLine) (t : Nat) :
    Inv X pins σ (upd H p (.lst ys)) { s with heap := s.heap.update p f, toks := t } := by
  have e : (s.heap.update p f).get? p = some { cls := .type "list", data := .seq its'.toArray n' } := by
    rw [Heap.get?_update_self f ho (by rw [hf] <;> rfl), hf]
  refine I.write (x := p) (e := p) (by rw [h]; trivial) (.inl rfl) (fun b u hb q => (Heap.get?_update_other _ _ (Ne.symm hb)).trans q) ⟨_, e⟩ ?_
  exact ⟨hz, its', n', r, e⟩
def rSetL : V → V → V → Hp → (Hp → Prop) → Prop := fun o i v H Q => ∃ p xs k j, o = .ref p ∧ i = .int k ∧ H p = some (.lst xs) ∧ ixN xs.length k = some j ∧ Q (upd H p (.lst (xs.set j v)))
theorem set_list : PSet X rSetL := by
  intro pins s σ H o i v ov iv u Q I ro ri rv h
  obtain ⟨p, xs, k, j, rfl, rfl, hp, hj, q⟩ := h
  cases ro
  obtain ⟨t, rfl⟩ := ri
  obtain ⟨its, n, r, ho, hz⟩ := I.lst hp
  obtain ⟨h1, h2, h3, h4⟩ := ixN_seq hj
  have hl := r.length
  have hn := line63
  have I' : Inv X pins σ (upd H p (.lst (xs.set j v))) { s with heap := s.heap.update p (Obj.mapSeq (·.setIfInBounds j u)) } :=
    I.lstUpd hp ho (mapSeq_set its n j u) (r.set rv j) (by rw [List.length_set]; exact hz) s.toks
  by_cases h0 : 0 ≤ k
  · have hk : k.toNat = j := by
      rw [seqIndex_of h0 h4] at h1
      exact Option.some.inj h1
    exact PySem.W.ki_setAt ho h0 (by omega) (by rw [List.size_toArray, ← hl]; exact h4) (by rw [hk]; exact ⟨_, I', q⟩)
  · have hk : (k + (its.toArray.size : Int)).toNat = j := by
      rw [seqIndex_neg (by omega) h3] at h1
      rw [List.size_toArray, ← hl]
      exact Option.some.inj h1
    exact PySem.W.ki_setBack ho (by omega) (by rw [List.size_toArray, ← hl]; exact h3) (by omega) (by rw [hk]; exact ⟨_, I', q⟩)
theorem slice_bounds (lo hi : Option Int) (n : Nat) : (sliceBounds lo hi none n).1 = ((HT.sIx n 0 lo : Nat) : Int) ∧ (sliceBounds lo hi none n).2.1 = ((HT.sIx n n hi : Nat) : Int) ∧ (sliceBounds lo hi none n).2.2 = 1 := by
  refine ⟨?_, ?_, rfl⟩
  · cases lo with
    | none => simp [sliceBounds, HT.sIx]
    | some i =>
      simp only [sliceBounds, HT.sIx, Option.getD_none, show (1 : Int) > 0 by decide, if_true]
      by_cases h : i < 0
      · simp only [h, if_true] <;> omega
      · simp only [h, if_false] <;> omega
  · cases hi with
    | none => simp [sliceBounds, HT.sIx]
    | some i =>
      simp only [sliceBounds, HT.sIx, Option.getD_none, show (1 : Int) > 0 by decide, if_true]
      by_cases h : i < 0
      · simp only [h, if_true] <;> omega
      · simp only [h, if_false] <;> omega
theorem slicePick_cut (its : List Value) (lo hi : Option Int) : slicePick its.toArray lo hi none = ((its.drop (HT.sIx its.length 0 lo)).take (HT.sIx its.length its.length hi - HT.sIx its.length 0 lo)).toArray := by
  obtain ⟨h1, h2, h3⟩ := slice_bounds lo hi its.toArray.size
  unfold slicePick
  rw [h1, h2, h3]
  simp only [sliceRange_one, pick_run, List.size_toArray] <;> rfl
/-- xs[lo:hi] of a list: a new list -/
def rSlL (K : PySem.W.Frag) : V → Option Int → Option Int → Hp → VK → Prop := fun x lo hi H Q => ∃ a xs, x = .ref a ∧ SqL K H a xs ∧ ∀ p, H p = none → Q (.ref p) (upd H p (.lst (cutV xs lo hi)))
theorem sl_list : SlR X (rSlL X.K) := by
  intro pins s σ H x v vl vu lo hi sl Q I rx hs pl pu h
  obtain ⟨a, xs, rfl, hx, q⟩ := h
  cases rx
  obtain ⟨its, r, ht, hz⟩ := I.list hx
  have hlen := r.length
  refine ⟨"list", _, slot_list_getitem.lookup, ht.isList.typeIs, ?_⟩
  refine wpAny_getItem_list_slice ht.isList hs pl pu .none (by simp) ?_ (by rw [List.size_toArray] <;> omega)
  rw [slicePick_cut, ← hlen]
  refine ⟨.ref s.heap.objs.size, _, I.laid (t' := s.toks) (o := .lst (cutV xs lo hi)) (fun b ob q => Heap.get?_push_of_some _ q) (Nat.le_refl _) ?_, rfl, q _ (I.hok.fresh (Nat.le_refl _))⟩
  exact ⟨Nat.le_trans (cutV_length xs lo hi) hz, _, 0, (r.drop (HT.sIx xs.length 0 lo)).take (HT.sIx xs.length xs.length hi - HT.sIx xs.length 0 lo), Heap.get?_push_size _ rfl⟩
def flatV : V → Bool
  | .non => true
  | .bl _ => true
  | .int _ => true
  | .str _ => true
  | _ => false
/-- == of flat values -/
def eqV : V → V → Bool
  | .non, .non => true
  | .bl a, .bl b => a == b
  | .bl a, .int b => (if a then 1 else 0) == b
  | .int a, .bl b => a == (if b then 1 else 0)
  | .int a, .int b => a == b
  | .str a, .str b => a == b
  | _, _ => false
theorem eqAt_V {A : Around} {s : Shared} {y x : V} {u v : Value} (ry : RelV y u) (rx : RelV x v) (fy : flatV y = true) (fx : flatV x = true) : SeqAt.EqAt A s u v (eqV y x) := by
  cases y with
  | non =>
    cases ry
    cases x with
    | non => cases rx; exact SeqAt.EqAt.same _
    | bl b => cases rx; exact SeqAt.EqAt.none_bool b
    | int b => obtain ⟨t, rfl⟩ := rx; exact SeqAt.EqAt.none_int b t
    | str b => obtain ⟨t, rfl⟩ := rx; exact SeqAt.EqAt.none_str b t
    | _ => exact absurd (show false = true from fx) Bool.false_ne_true
  | bl a =>
    cases ry
    cases x with
    | non => cases rx; exact SeqAt.EqAt.bool_none a
    | bl b => cases rx; exact SeqAt.EqAt.bool_bool a b
    | int b => obtain ⟨t, rfl⟩ := rx; exact SeqAt.EqAt.bool_int a b t
    | str b => obtain ⟨t, rfl⟩ := rx; exact SeqAt.EqAt.bool_str a b t
    | _ => exact absurd (show false = true from fx) Bool.false_ne_true
  | int a =>
    obtain ⟨t', rfl⟩ := ry
    cases x with
    | non => cases rx; exact SeqAt.EqAt.int_none a t'
    | bl b => cases rx; exact SeqAt.EqAt.int_bool a t' b
    | int b => obtain ⟨t, rfl⟩ := rx; exact SeqAt.EqAt.int_int a t' b t
    | str b => obtain ⟨t, rfl⟩ := rx; exact SeqAt.EqAt.int_str a t' b t
    | _ => exact absurd (show false = true from fx) Bool.false_ne_true
  | str a =>
    obtain ⟨t', rfl⟩ := ry
    cases x with
    | non => cases rx; exact SeqAt.EqAt.str_none a t'
    | bl b => cases rx; exact SeqAt.EqAt.str_bool a t' b
    | int b => obtain ⟨t, rfl⟩ := rx; exact SeqAt.EqAt.str_int a t' b t
    | str b => obtain ⟨t, rfl⟩ := rx; exact SeqAt.EqAt.str_str a t' b t
    | _ => exact absurd (show false = true from fx) Bool.false_ne_true
  | _ => exact absurd (show false = true from fy) Bool.false_ne_true
/-- the items' answers, read off the values (a value's own answer does not lean on its token) -/
def eqU (x : V) (u : Value) : Bool := match u with
  | .none => eqV .non x
  | .bool b => eqV (.bl b) x
  | .int i _ => eqV (.int i) x
  | .str z _ => eqV (.str z) x
  | _ => false
theorem eqU_of {x y : V} {u : Value} (r : RelV y u) (f : flatV y = true) : eqU x u = eqV y x := by
  cases y with
  | non => cases r; rfl
  | bl b => cases r; rfl
  | int i => obtain ⟨t, rfl⟩ := r; rfl
  | str z => obtain ⟨t, rfl⟩ := r; rfl
  | _ => exact absurd (show false = true from f) Bool.false_ne_true
theorem any_eqU {x : V} : ∀ {xs : List V} {us : List Value}, Vals xs us → xs.all flatV = true → us.any (eqU x) = xs.any fun y => eqV y x
  | _, _, .nil, _ => rfl
  | y :: xs, u :: us, .cons r t, f => by
    rw [List.all_cons, Bool.and_eq_true] at f
    rw [List.any_cons, List.any_cons, eqU_of r f.1, any_eqU t f.2]
theorem mem_eqAt {A : Around} {s : Shared} {x : V} {v : Value} (rx : RelV x v) (fx : flatV x = true) : ∀ {xs : List V} {us : List Value}, Vals xs us → xs.all flatV = true → ∀ u ∈ us, SeqAt.EqAt A s u v (eqU x u)
  | _, _, .nil, _ => fun u hu => by cases hu
  | y :: xs, u :: us, .cons r t, f => fun u' hu => by
    rw [List.all_cons, Bool.and_eq_true] at f
    rcases List.mem_cons.mp hu with rfl | hu
    · rw [eqU_of r f.1]; exact eqAt_V r rx f.1 fx
    · exact mem_eqAt rx fx t f.2 u' hu
def inV (x : V) (xs : List V) : Bool := xs.any fun y => eqV y x
/-- x in a list or tuple of flat items -/
def rIn (K : PySem.W.Frag) (neg : Bool) : R2 := fun x y H Q => ∃ p xs, y = .ref p ∧ (SqL K H p xs ∨ SqT K H p xs) ∧ flatV x = true ∧ xs.all flatV = true ∧ Q (.bl (if neg then !inV x xs else inV x xs)) H
theorem op_in_seq : OpR X (compareOp .In) (rIn X.K false) := by
  intro pins s σ H x y v u Q I rx ry h
  obtain ⟨p, xs, rfl, hq, fx, fs, q⟩ := h
  cases ry
  rcases hq with hq | hq
  · obtain ⟨its, r, pl, hz⟩ := I.list hq
    refine SeqAt.in_listAt (eqU x) pl.isList (fun w hw => mem_eqAt rx fx r fs w (by simpa using hw)) ⟨.bl _, H, I, rfl, ?_⟩
    rw [show its.toArray.any (eqU x) = its.any (eqU x) by simp, any_eqU r fs]
    exact q
  · obtain ⟨its, r, pl, hz⟩ := I.tuple hq
    refine SeqAt.in_tupleAt (eqU x) pl (fun w hw => mem_eqAt rx fx r fs w (by simpa using hw)) ⟨.bl _, H, I, rfl, ?_⟩
    rw [show its.toArray.any (eqU x) = its.any (eqU x) by simp, any_eqU r fs]
    exact q
theorem op_notIn_seq : OpR X (compareOp .NotIn) (rIn X.K true) := by
  intro pins s σ H x y v u Q I rx ry h
  obtain ⟨p, xs, rfl, hq, fx, fs, q⟩ := h
  cases ry
  rcases hq with hq | hq
  · obtain ⟨its, r, pl, hz⟩ := I.list hq
    refine SeqAt.notIn_listAt (eqU x) pl.isList (fun w hw => mem_eqAt rx fx r fs w (by simpa using hw)) ⟨.bl _, H, I, rfl, ?_⟩
    rw [show its.toArray.any (eqU x) = its.any (eqU x) by simp, any_eqU r fs]
    exact q
  · obtain ⟨its, r, pl, hz⟩ := I.tuple hq
    refine SeqAt.notIn_tupleAt (eqU x) pl (fun w hw => mem_eqAt rx fx r fs w (by simpa using hw)) ⟨.bl _, H, I, rfl, ?_⟩
    rw [show its.toArray.any (eqU x) = its.any (eqU x) by simp, any_eqU r fs]
    exact q
theorem call_len_seq : CallR X (.builtin "len") (fun xs H Q => ∃ p ys, xs = [.ref p] ∧ (SqL X.K H p ys ∨ SqT X.K H p ys) ∧ Q (.int ys.length) H) := by
  intro pins s σ H xs us Q I r h
  obtain ⟨p, ys, rfl, hq, q⟩ := h
  obtain ⟨u, rfl, rx⟩ := vals1 r
  cases rx
  have hn := line63
  rcases hq with hq | hq
  · obtain ⟨its, r', pl, hz⟩ := I.list hq
    have hlen := r'.length
    exact Calls.call_len_list pl.isList (by simp only [List.size_toArray] <;> omega) ⟨.int ys.length, H, I.tok _, ⟨s.toks + 1, by rw [List.size_toArray, hlen]⟩, q⟩
  · obtain ⟨its, r', pl, hz⟩ := I.tuple hq
    have hlen := r'.length
    exact len_tuple pl (by simp only [List.size_toArray] <;> omega) ⟨.int ys.length, H, I.tok _, ⟨s.toks + 1, by rw [List.size_toArray, hlen]⟩, q⟩
theorem call_len_str : CallR X (.builtin "len") (fun xs H Q => ∃ z, xs = [.str z] ∧ z.length ≤ sizeLine ∧ Q (.int z.length) H) := by
  intro pins s σ H xs us Q I r h
  obtain ⟨z, rfl, hz, q⟩ := h
  obtain ⟨u, rfl, t, rfl⟩ := vals1 r
  have hn := line63
  exact len_str (by omega) ⟨.int z.length, H, I.tok _, ⟨_, rfl⟩, q⟩
theorem call_tuple_of : CallR X (.type "tuple") (fun xs H Q => ∃ p ys, xs = [.ref p] ∧ ((SqL X.K H p ys ∧ ∀ l, H l = none → Q (.ref l) (upd H l (.tup ys))) ∨ (SqT X.K H p ys ∧ Q (.ref p) H))) := by
  intro pins s σ H xs us Q I r h
  obtain ⟨p, ys, rfl, h⟩ := h
  obtain ⟨u, rfl, rx⟩ := vals1 r
  cases rx
  rcases h with ⟨hq, q⟩ | ⟨hq, q⟩
  · obtain ⟨its, r', pl, hz⟩ := I.list hq
    have hlen := r'.length
    refine call_tuple_list pl.isList (fun h' kp => ?_) (by simp only [List.size_toArray] <;> omega)
    have I1 : Inv X pins σ H { s with heap := h' } := I.kept (t' := s.toks) kp
    have I2 : Inv X pins σ (upd H h'.objs.size (.tup ys)) { s with heap := h'.push { cls := .type "tuple", data := .seq its.toArray } } :=
      I1.laid (t' := s.toks) (fun b o e => Heap.get?_push_of_some _ e) (Nat.le_refl _) (show ObjOk X.prog X.w _ _ _ (.tup ys) from ⟨hz, its, r', IsTup.new _ _⟩)
    exact ⟨.ref h'.objs.size, _, I2, rfl, q _ (I1.hok.fresh (Nat.le_refl _))⟩
  · obtain ⟨its, r', pl, hz⟩ := I.tuple hq
    exact call_tuple_same pl ⟨.ref p, H, I, rfl, q⟩
/-- the value is of that builtin type -/
def tyV (K : PySem.W.Frag) (T : String) (x : V) (H : Hp) : Prop := match x with
  | .str _ => T = "str"
  | .int _ => T = "int"
  | .ref p => (T = "list" ∧ ∃ xs, SqL K H p xs) ∨ (T = "tuple" ∧ ∃ o, K.lookup p = some o ∧ o.cls = .type "tuple" ∧ o.dict = none) ∨
      (T = "dict" ∧ ((∃ kvs, H p = some (.dK kvs)) ∨ ∃ kvs, H p = some (.dT kvs))) ∨ (T = "set" ∧ ∃ S n, H p = some (.set S n))
  | _ => False
theorem tyV_is {pins : List (Addr × Obj)} {σ : St} {H : Hp} {s : Shared} {T : String} {x : V} {v : Value} (I : Inv X pins σ H s) (r : RelV x v) (ty : tyV X.K T x H) :
    s.TypeIs v T ∧ ∀ a, v = .ref a → ∃ ob, s.heap.get? a = some ob ∧ ob.dict = none := by
  cases x with
  | str z =>
    obtain ⟨t, rfl⟩ := r
    cases (show T = "str" from ty)
    exact ⟨typeIs_str s z t, fun _ e => nomatch e⟩
  | int i =>
    obtain ⟨t, rfl⟩ := r
    cases (show T = "int" from ty)
    exact ⟨typeIs_int s i t, fun _ e => nomatch e⟩
  | ref p =>
    cases r
    rcases ty with ⟨rfl, xs, hq⟩ | ⟨rfl, o, hk, hc, hd⟩ | ⟨rfl, hk⟩ | ⟨rfl, S, n, hk⟩
    · obtain ⟨its, _, pl, _⟩ := I.list hq
      refine ⟨pl.isList.typeIs, fun a e => ?_⟩
      cases e
      obtain ⟨o, n, e, c, hd, _⟩ := pl
      exact ⟨o, e, hd⟩
    · refine ⟨⟨o, I.kIn p o hk, hc⟩, fun a e => ?_⟩
      cases e
      exact ⟨o, I.kIn _ o hk, hd⟩
    · have z : ∃ o, s.heap.get? p = some o ∧ o.ExactDict := by
        rcases hk with ⟨kvs, hk⟩ | ⟨kvs, hk⟩
        · obtain ⟨_, _, _, _, o, _, _, e, ex, _⟩ := I.hok p _ hk
          exact ⟨o, e, ex⟩
        · obtain ⟨_, _, _, _, o, _, _, e, ex, _⟩ := I.hok p _ hk
          exact ⟨o, e, ex⟩
      obtain ⟨o, e, ex⟩ := z
      refine ⟨⟨o, e, ex.1⟩, fun a e2 => ?_⟩
      cases e2
      exact ⟨o, e, ex.2.1⟩
    · obtain ⟨o, _, _, _, e, ex, _⟩ := I.hok p _ hk
      refine ⟨⟨o, e, ex.1⟩, fun a e2 => ?_⟩
      cases e2
      exact ⟨o, e, ex.2.1⟩
  | _ => exact False.elim ty
def tBM (K : PySem.W.Frag) (T : String) (r : V → List V → Hp → VK → Prop) (to : TE) (t : TA) : TE := fun σ H Q => to σ H fun x H1 => tyV K T x H1 ∧ t σ H1 fun xs H2 => r x xs H2 Q
variable {o e : Expr} {es : List Expr} {to : TE} {t : TA} {name : Str} {apos cpos : Pos} {T id : String} {r : V → List V → Hp → VK → Prop}
theorem pe_bm (pa : PlainAttrs T) (slot : Slot T name id) (hty : typeOf (.builtin id) = pure (.type "method_descriptor")) (hm : MtR X id r) (ho : PE X o to) (ha : PA X (e :: es) t)
    (hbase : attributeBase o name X.env (eval o X.env) = eval o X.env := by rfl)
    (hfew : ((backTo cpos (starEach (e :: es) X.env)).all (fun x => !x.1) && (backToKw cpos (keywordEach [] X.env)).all (fun x => x.1.isSome)
      && decide ((e :: es).length + ([] : List Keyword).length + (if ([] : List Keyword).isEmpty then 0 else 1) < 30)) = true := by rfl)
    (hline : (apos.endLine == cpos.line) = true := by rfl) (hs : starEach (e :: es) X.env = (false, eval e X.env) :: starEach es X.env := by rfl) (hplain : (backTo cpos (starEach es X.env)).any (·.1) = false := by rfl) :
    PE X (.Call (.Attribute o name apos) (e :: es) [] cpos) (tBM X.K T r to t) := by
  intro pins s σ H Q I h
  refine wpAny_Call_method_late hbase hfew hline rfl (thn (ho pins s σ H _ I h) fun v s1 ⟨x, H1, I1, r1, ty, q1⟩ => ?_)
  obtain ⟨h1, h2⟩ := tyV_is I1 r1 ty
  refine ⟨T, id, pa, slot, hty, h1, h2, ?_⟩
  have hA := ha cpos pins s1 σ H1 _ I1 q1
  rw [hs] at hA ⊢
  refine Calls.callWith_builtin (by show (false || (backTo cpos (starEach es X.env)).any (·.1)) = false; rw [hplain] <;> rfl) (Calls.evalArgs_plain ?_)
  exact thn hA fun us s2 ⟨vs, H2, I2, r2, q2⟩ => hm pins s2 σ H2 x vs v us Q I2 r1 r2 q2
end
end L2
namespace L2
open PySem PySem.Spec PyProof.Rows
def MtM (X : Cx) (id : String) (r : V → List V → Hp → VK → Prop) : Prop :=
  ∀ (pins : List (Addr × Obj)) (s : Shared) (σ : St) (H : Hp) (x : V) (xs : List V) (v : Value) (us : List Value) (Q : VK), Inv X pins σ H s → RelV x v → Vals xs us → r x xs H Q →
    wpAny (model X.prog X.w) X.A (call (.builtin id) (v :: us)) (EP X pins σ Q) X.xe s
theorem Vals.one : ∀ {x : V} {us : List Value}, Vals [x] us → ∃ u, us = [u] ∧ RelV x u
  | _, _, .cons r .nil => ⟨_, rfl, r⟩
theorem Vals.two : ∀ {x y : V} {us : List Value}, Vals [x, y] us → ∃ u v, us = [u, v] ∧ RelV x u ∧ RelV y v
  | _, _, _, .cons r (.cons q .nil) => ⟨_, _, rfl, r, q⟩
theorem Vals.rep {xs : List V} {us : List Value} (h : Vals xs us) : ∀ k : Nat, Vals (List.replicate k xs).flatten (List.replicate k us).flatten
  | 0 => .nil
  | k + 1 => by
    rw [List.replicate_succ, List.replicate_succ, List.flatten_cons, List.flatten_cons]
    exact Vals.append h (Vals.rep h k)
theorem foldl_rep (its : List Value) : ∀ (k : Nat) (acc : List Value),
    List.foldl (fun x1 x2 => x1 ++ x2) acc.toArray (List.replicate k its.toArray) = (acc ++ (List.replicate k its).flatten).toArray
  | 0, acc => by simp
  | k + 1, acc => by
    have e : acc.toArray ++ its.toArray = (acc ++ its).toArray := by simp
    have e2 : (acc ++ its) ++ (List.replicate k its).flatten = acc ++ (List.replicate (k + 1) its).flatten := by
      rw [List.replicate_succ, List.flatten_cons, List.append_assoc]
    rw [← e2, ← foldl_rep its k (acc ++ its), ← e, List.replicate_succ, List.foldl_cons]
section
variable {X : Cx} {pins : List (Addr × Obj)} {σ : St} {H : Hp} {s : Shared} {l b : Addr} {xs ys zs : List V}
theorem Inv.lset {its its' : List Value} {n : Nat} {f : Array Value → Array Value} {t' : Nat} (I : Inv X pins σ H s) (hH : H l = some (.lst xs))
    (e : s.heap.get? l = some { cls := .type "list", data := .seq its.toArray n }) (hf : f its.toArray = its'.toArray) (hv : Vals ys its') (hz : ys.length ≤ sizeLine) :
    Inv X pins σ (upd H l (.lst ys)) { s with heap := s.heap.update l (Obj.mapSeq f), toks := t' } := by
  have q := PySem.IsL.update e f
  rw [hf] at q
  refine I.write (x := l) (e := l) (by rw [hH]; exact trivial) (.inl rfl) (fun b' u hb hu => (Heap.get?_update_other s.heap (Obj.mapSeq f) (Ne.symm hb)).trans hu) ⟨_, q⟩ ?_
  exact ⟨hz, its', _, hv, q⟩
theorem Inv.lnew {its : List Value} {t' : Nat} (I : Inv X pins σ H s) (hv : Vals ys its) (hz : ys.length ≤ sizeLine) :
    Inv X pins σ (upd H s.heap.objs.size (.lst ys)) { s with heap := s.heap.push { cls := .type "list", data := .seq its.toArray }, toks := t' } :=
  I.laid (fun _ _ q => Heap.get?_push_of_some _ q) (Nat.le_refl _) ⟨hz, its, 0, hv, Heap.get?_push_size _ rfl⟩
theorem Inv.fresh (I : Inv X pins σ H s) : H s.heap.objs.size = none := I.hok.fresh (Nat.le_refl _)
theorem Inv.lstM (I : Inv X pins σ H s) (hH : H l = some (.lst xs)) : xs.length ≤ sizeLine ∧ ∃ (its : List Value) (n : Nat), Vals xs its ∧ xs.length = its.length ∧ s.heap.get? l = some { cls := .type "list", data := .seq its.toArray n } := by
  obtain ⟨z, its, n, r, e⟩ := I.hok l _ hH
  exact ⟨z, its, n, r, r.length, e⟩
theorem notLongL {n : Nat} (h : n ≤ sizeLine) : Builtin.List.listTooLong n = false := by
  unfold Builtin.List.listTooLong
  exact decide_eq_false (by omega)
end
section
variable {X : Cx}
def rAppend : V → List V → Hp → VK → Prop := fun x vs H Q => ∃ l xs y, x = .ref l ∧ vs = [y] ∧ H l = some (.lst xs) ∧ xs.length < sizeLine ∧ Q .non (upd H l (.lst (xs ++ [y])))
theorem mt_append : MtM X "list.append" rAppend := by
  intro pins s σ H x vs v us Q I rx rv h
  obtain ⟨l, xs, y, rfl, rfl, hH, hz, q⟩ := h
  cases rx
  obtain ⟨u, rfl, ru⟩ := rv.one
  obtain ⟨z, its, n, r, hl, e⟩ := I.lstM hH
  refine call_meets F.slot_list_append ⟨_, e, rfl⟩ F.entry_list_append (F.args_list_append_2 _ _) (PySem.list_append l its.toArray n u (by rw [List.size_toArray]; omega)) ⟨e, ?_⟩
  refine ⟨.non, _, I.lset (its' := its ++ [u]) hH e (by simp) (r.append (.cons ru .nil)) ?_, rfl, q⟩
  rw [List.length_append, List.length_singleton]
  omega
theorem len_rep {α : Type} (xs : List α) (k : Nat) : (List.replicate k xs).flatten.length = k * xs.length := by
  induction k with
  | zero => simp
  | succ k ih => rw [List.replicate_succ, List.flatten_cons, List.length_append, ih, Nat.succ_mul, Nat.add_comm]
end
end L2
namespace Att
open PySem PySem.W PySem.Calls PyProof.Rows
theorem ints_of_wellAll {P : Params} {h : Heap} : ∀ (ns : List Int) (vs : List Value), WellAll P h vs (ns.map WData.int) → IntsAre vs ns := by
  intro ns
  induction ns with
  | nil =>
    intro vs w
    rw [List.map_nil] at w
    cases w
    exact .nil
  | cons n ns ih =>
    intro vs w
    rw [List.map_cons] at w
    cases w with
    | cons a b =>
      cases a
      exact .cons _ _ (ih _ b)
theorem script_of {l : OpenLaw} {n : Nat} (hn : l.most = some n) {P : Params} {h : Heap} {args : List WData} {vals : List Value}
    (hpre : l.row.toRowW.claim.pre args = true) (hwl : WellAll P h vals args) :
    ∃ a vs ns, vals = [Value.ref a] ∧ args = [WData.list (ns.map WData.int)] ∧ h.get? a = some { cls := .type "list", data := .seq vs.toArray } ∧ IntsAre vs ns ∧ ns.length ≤ n := by
  have hsh : WShape.hasAll [] args [.list .int] = true := (pre_splitW hpre).1
  have hc : l.pre.holds [] { args := args } = true := (pre_splitW hpre).2
  obtain ⟨d, r, rfl, h1, h2⟩ := hasAllW_cons hsh
  obtain rfl := hasAllW_nil h2
  obtain ⟨xs, rfl, h3⟩ := hasW_list h1
  obtain ⟨ns, rfl⟩ := items_int h3
  have hlen : ns.length ≤ n := by
    unfold OpenLaw.pre at hc
    have h4 : (WTm.not (.lt (.lit (.int (n : Int))) (.len (.arg 0)))).holds [] { args := [.list (ns.map .int)] } = true := by
      have h4 := (holds_andW hc).1
      rw [hn] at h4
      exact h4
    have h5 := condW_of h4 (w_not (w_lt w_lit (w_len_list (w_arg rfl))))
    rw [List.length_map] at h5
    refine Nat.le_of_not_lt fun q => ?_
    have q' : (n : Int) < ((ns.length : Nat) : Int) := by omega
    first
      | (rw [decide_eq_true q'] at h5; exact absurd h5 (by decide))
      | (simp at h5; omega)
  cases hwl with
  | cons w1 w2 =>
    cases w2
    cases w1 with
    | list ho hall => exact ⟨_, _, ns, rfl, rfl, ho, ints_of_wellAll ns _ hall, hlen⟩
theorem post_true (l : OpenLaw) (args : List WData) : l.row.toRowW.claim.post args (.bool true) args = true :=
  postW_of (r := l.row.toRowW) (X := (true == true))
    (show WShape.has [] (.bool true) .bool = true by first | rfl | decide | simp [WShape.has, WShape.arms, WShape.armsAll])
    (show (WTm.eq .res (.lit (.bool true))).value [] { args := args, res := some (.bool true), after := args } = some (.bool (true == true)) from w_eq_bool (w_res rfl) w_lit) rfl
end Att
namespace L2
open PySem PySem.Spec PyProof.Rows
theorem vals_ints : ∀ {vs : List Value} {ns : List Int}, IntsAre vs ns → Vals (ns.map V.int) vs
  | _, _, .nil => .nil
  | _, _, .cons n t h => .cons ⟨t, rfl⟩ (vals_ints h)
/-- nothing is tracked but the script, known to the object (or it is an object of the module) -/
def Only (H : Hp) : Prop := ∀ b, H b = none ∨ ∃ o xs, H b = some (.frz o (.lst xs))
/-- THE HEAD: the law's promise, at the heap behind the top. F, the promise of the law's def, may use that base is part of the heap (so K.In base, base.Ns mainGlobals mg stand in Mod) -/
theorem law_call {P : Program} {w : World} {K : PySem.W.Frag} {mg mb : Str → Option Value} {CX : CXT} {k : Nat} {fa a : Addr} {fd : FuncData} {x : Str} {sp : Sp} {s₁ : Shared} {vs : List Value} {ns : List Int}
    (KX : K.In s₁.heap) (hns : s₁.heap.Ns mainGlobals mg) (hb : s₁.heap.Ns builtinsNs mb) (hbb : ∀ x : Str, x ≠ "__name__" → mb x = bootBuiltins x) (hlim : s₁.heap.NoLimit) (hg : s₁.gens = #[])
    (ha : s₁.heap.get? a = some { cls := .type "list", data := .seq vs.toArray }) (hi : IntsAre vs ns) (hl : ns.length ≤ sizeLine) (hr : Room k callerA)
    (F : ∀ base : Heap, K.In base → base.Ns mainGlobals mg → FnOk P w K mg base CX k fa fd [x] sp) (hbind : ∀ (s : Shared) (u : Value), BindsTo s fd ⟨[u], []⟩ [(x, u)])
    (hsp : ∀ H : Hp, Only H → SqL K H a (ns.map V.int) → sp [.ref a] H (fun v _ => v = .bl true) fun _ _ _ => False)
    (hCX : ∀ H e s', CX [] H s₁ (fun _ _ _ => False) e s' → False) :
    codeAny (model P w) callerA (.call (.ref fa) ⟨[.ref a], []⟩) (fun r s' => r = .ok (.ret (.bool true)) ∧ OldK s₁.heap s'.heap ∧ s'.os = s₁.os ∧ AllBare s'.gens) s₁ := by
  have rv := vals_ints hi
  have lenV := hi.length
  -- from an abstract heap in which nothing but the script may be tracked
  have core : ∀ H : Hp, Only H → SqL K H a (ns.map V.int) → HOk P w H s₁.heap → (∀ b, H b ≠ none → b = a) → (H a ≠ none → K.lookup a = none) →
      codeAny (model P w) callerA (.call (.ref fa) ⟨[.ref a], []⟩) (fun r s' => r = .ok (.ret (.bool true)) ∧ OldK s₁.heap s'.heap ∧ s'.os = s₁.os ∧ AllBare s'.gens) s₁ := by
    intro H hO hS hok hA hK
    have base_of : ∀ {b : Addr} {o : Obj}, s₁.heap.get? b = some o → H b = none → (hidT s₁.heap H).get? b = some o := fun e n => hidT_get e n
    have noA : ∀ {b : Addr} {o : Obj} {es : Array DictEntry} {ep : Nat}, s₁.heap.get? b = some o → o.data = .dict es ep → H b = none := fun {b o es ep} e d => by
      cases q : H b with
      | none => rfl
      | some u =>
        have e' : b = a := hA b (by rw [q]; simp)
        subst e'
        rw [ha] at e; cases e
        have d' : Data.seq vs.toArray _ = Data.dict es ep := d
        cases d'
    have nsK : ∀ {b : Addr} {m : Str → Option Value}, s₁.heap.Ns b m → (hidT s₁.heap H).Ns b m := fun {b m} ⟨o, es, ep, e, d, r⟩ => ⟨o, es, ep, base_of e (noA e d), d, r⟩
    have hKb : K.In (hidT s₁.heap H) := fun b o e => base_of (KX b o e) (by
      cases q : H b with
      | none => rfl
      | some u =>
        have e' : b = a := hA b (by rw [q]; simp)
        subst e'
        rw [hK (by rw [q]; simp)] at e; cases e)
    have hM : Mod K mg (hidT s₁.heap H) := ⟨hKb, nsK hns, ⟨mb, nsK hb, hbb⟩, let ⟨mc, h1, h2⟩ := hlim; ⟨mc, nsK h1, h2⟩⟩
    have e0 : Env0 P w K mg (hidT s₁.heap H) callerA [] s₁ H := ⟨rfl, hM, fun b o e => of_hidT e, Nat.le_of_eq (hidT_size _ _), trivial, fun b hb => absurd (show b ∈ ([] : List Addr) from hb) (by simp), hok, .of_eq hg⟩
    refine codeAny_mono ((F _ hKb (nsK hns)).run callerA [] s₁ H ⟨[.ref a], []⟩ [.ref a] [.ref a] _ _ hr e0 (hbind s₁ (.ref a)) (.cons rfl .nil) (hsp H hO hS)) fun r s' h => ?_
    cases r with
    | error e => exact (hCX H e s' h).elim
    | ok fl =>
      cases fl with
      | next => exact False.elim h
      | brk => exact False.elim h
      | cont => exact False.elim h
      | ret u =>
        obtain ⟨v, H', os, bare, un, hok', r', q⟩ := h
        have q' : v = .bl true := q
        subst q'
        obtain rfl : u = Value.bool true := r'
        refine ⟨rfl, OldK.of_keep fun b o e => ?_, os, bare⟩
        cases q : H b with
        | none => exact un.keep b o e q (by intro z; exact absurd (show b ∈ ([] : List Addr) from z) (by simp)) (by simp)
        | some u =>
          rcases hO b with z | ⟨ob, xs, z⟩
          · rw [q] at z; cases z
          · have z2 := un.frzs b ob _ z
            obtain ⟨e1, _⟩ := hok b _ z
            obtain ⟨e2, _⟩ := hok' b _ z2
            rw [e] at e1; cases e1
            exact e2
  cases hk : K.lookup a with
  | some o =>
    -- the script is one of the module's own objects
    have e := KX a o hk
    rw [ha] at e
    cases e
    refine core (fun _ => none) (fun _ => .inl rfl) (.inr ⟨_, vs.toArray, _, hk, rfl, rfl, rfl, by rw [List.size_toArray, lenV]; exact hl, by simpa using rv⟩) (fun b u z => by have z' : (none : Option HO) = some u := z; cases z') (fun b z => absurd rfl z) fun z => absurd rfl z
  | none =>
    refine core (fun b => if b = a then some (.frz { cls := .type "list", data := .seq vs.toArray } (.lst (ns.map V.int))) else none) (fun b => ?_) (.inl (.inr ⟨{ cls := .type "list", data := .seq vs.toArray }, if_pos rfl⟩)) (fun b u z => ?_) (fun b z => ?_) fun _ => hk
    · by_cases hb : b = a
      · exact .inr ⟨_, _, if_pos hb⟩
      · exact .inl (if_neg hb)
    · by_cases hb : b = a
      · have z' := (if_pos hb).symm.trans z
        cases z'
        subst hb
        exact ⟨ha, by rw [List.length_map]; exact hl, vs, _, rv, ha⟩
      · have z' := (if_neg hb).symm.trans z
        cases z'
    · by_cases hb : b = a
      · exact hb
      · exact absurd (if_neg hb) z
end L2
namespace L2
open PySem PySem.Spec PyProof.Rows
end L2
namespace L2
open PySem PySem.Spec PyProof.Rows
def defArgs (s : Stmt) : Arguments := match s with
  | .FunctionDef _ a _ _ _ _ _ _ _ _ => a
  | _ => { posonlyargs := [], args := [], vararg := none, kwonlyargs := [], kw_defaults := [], kwarg := none, defaults := [] }
def defBody (s : Stmt) : List Stmt := match s with
  | .FunctionDef _ _ b _ _ _ _ _ _ _ => b
  | _ => []
def defScope (s : Stmt) : Scope := match s with
  | .FunctionDef _ _ _ _ _ _ sc _ _ _ => sc
  | _ => { kind := .function, names := [], isGenerator := false, isCoroutine := false }
abbrev CX0 : CXT := fun _ _ _ _ _ _ => False
abbrev E0 : XK := fun _ _ _ => False
theorem pass0 {X : Cx} : Passes CX0 X E0 := fun _ _ _ _ _ _ _ h => h.elim
structure Fun (K : PySem.W.Frag) (x qual : Str) (st : Stmt) (f : Addr) (fd : FuncData) : Prop where
  ex : ∃ (oc : Value) (od : Option Addr) (kV doc pm : Value) (an : Option Addr) (cdv ct : Value) (osl : Array (Option Value)),
    fd = PySem.W.fnOf x qual (defArgs st) (defBody st) (defScope st) .none kV doc pm an cdv ct ∧ K.lookup f = some ⟨oc, od, .func fd, osl⟩ ∧ PySem.W.codeIn K cdv qual = true
  kp : PySem.W.keepIn K (.ref f) = true
section
variable {P : Program} {w : World} {K : PySem.W.Frag} {mg : Str → Option Value} {base : Heap}
/-- THE RULE for a def: its body as a term of rules, and the reading of that term -/
theorem Fun.ok {x qual : Str} {st : Stmt} {f : Addr} {fd : FuncData} {N ps : List Str} {k : Nat} {sp : Sp} (F : Fun K x qual st f fd) (S : FnScope N ps (defScope st)) (len : ∀ vs H Q E, sp vs H Q E → vs.length = ps.length)
    (hbody : ∀ (cdv : Value) (A : Around) (outer : List Env) (s : Shared) (H : Hp) (vs : List V) (Q : VK) (E : XK), Room k (A.deeper (envOfC qual (defScope st) s.heap.objs.size f cdv)) → sp vs H Q E →
      ∃ t, PSs (cxOf CX0 P w K mg base N qual (defScope st) f cdv A outer s H E).nox (defBody st) t ∧ t { nx := fun _ H' => Q .non H', rt := Q } (start N vs) H) : FnOk P w K mg base CX0 (k + 1) f fd ps sp := by
  obtain ⟨oc, od, kV, doc, pm, an, cdv, ct, osl, rfl, lk, hcd⟩ := F.ex
  refine fn_of lk hcd S len fun A outer s H vs Q E hr hsp => ?_
  obtain ⟨t, h, q⟩ := hbody cdv A outer s H vs Q E hr hsp
  exact ⟨t, h.nox, q⟩
/-- how its arguments bind (no defaults): h is «fun _ _ _ _ _ _ us hl => match us, hl with | [_, _], _ => rfl», one _ a parameter -/
theorem Fun.binds {x qual : Str} {st : Stmt} {f : Addr} {fd : FuncData} {ps : List Str} (F : Fun K x qual st f fd)
    (h : ∀ (kV doc pm : Value) (an : Option Addr) (cdv ct : Value) (us : List Value), us.length = ps.length → bindArgs (PySem.W.fnOf x qual (defArgs st) (defBody st) (defScope st) .none kV doc pm an cdv ct) ⟨us, []⟩ = pure (ps.zip us)) : Binds K fd ps [] := by
  obtain ⟨oc, od, kV, doc, pm, an, cdv, ct, osl, rfl, lk, hcd⟩ := F.ex
  exact .all (h kV doc pm an cdv ct)
theorem fun_mk {x qual : Str} {st : Stmt} {f : Addr} {oc : Value} {od an : Option Addr} {osl : Array (Option Value)} {kV doc pm cdv ct : Value} (l : K.lookup f = some ⟨oc, od, .func (PySem.W.fnOf x qual (defArgs st) (defBody st) (defScope st) .none kV doc pm an cdv ct), osl⟩)
    (c : PySem.W.codeIn K cdv qual = true) (k : PySem.W.keepIn K (.ref f) = true) : Fun K x qual st f (PySem.W.fnOf x qual (defArgs st) (defBody st) (defScope st) .none kV doc pm an cdv ct) := ⟨⟨oc, od, kV, doc, pm, an, cdv, ct, osl, rfl, l, c⟩, k⟩
end
theorem iteF {A B : Prop} (h : B) : if false = true then A else B := by
  rw [if_neg Bool.false_ne_true]
  exact h
theorem iteT {A B : Prop} (h : A) : if true = true then A else B := by
  rw [if_pos rfl]
  exact h
/-- all that was tracked is as it was -/
def Same (H H' : Hp) : Prop := ∀ b o, H b = some o → H' b = some o
theorem Same.refl (H : Hp) : Same H H := fun _ _ h => h
theorem Same.trans {H H1 H2 : Hp} (a : Same H H1) (b : Same H1 H2) : Same H H2 := fun c o h => b c o (a c o h)
theorem Same.free {H H' : Hp} (e : Same H H') {l : Addr} (h : H' l = Option.none) : H l = Option.none := by
  cases q : H l with
  | none => rfl
  | some o =>
    rw [e l o q] at h
    cases h
theorem Same.seq {K : PySem.W.Frag} {H H' : Hp} {a : Addr} {xs : List V} (e : Same H H') (h : SqL K H a xs) : SqL K H' a xs := by
  rcases h with (h | ⟨o, h⟩) | h
  · exact .inl (.inl (e _ _ h))
  · exact .inl (.inr ⟨o, e _ _ h⟩)
  · exact .inr h
end L2
namespace L2
open PySem PySem.Spec PyProof.Rows
section
variable {prog : Program} {w : World} {A : Around} {R : Result → Shared → Prop} {s : Shared}
/-- a comprehension's loop, whatever its target -/
theorem compLoop_any {elt target iter : Expr} {ifs : List Expr} {scope : Scope} {pos : Pos} {it acc : Value} {env : Env} (J : Nat → Shared → Prop)
    (turn : ∀ n s, J n s → wpAny (model prog w) A (pyNext it) (fun r s1 => match r with
      | none => R (.ok .next) s1
      | some v => wpAny (model prog w) A (letOwnedTupleGo target it v) (fun _ s1' => wpAny (model prog w) A (assign target env v) (fun _ s2 =>
          wpAny (model prog w) A (forIn ifs true fun c r => if r = true then do let ok ← isTrue c env (eval c env); pure (ForInStep.yield ok) else pure (ForInStep.yield r)) (fun ok s3 =>
            if ok = true then wpAny (model prog w) A (eval elt env) (fun x s4 =>
              wpAny (model prog w) A (call (.builtin "list.append") [acc, x]) (fun _ s5 => ∃ m, m < n ∧ J m s5) (fun _ _ => False) s4) (fun _ _ => False) s3
            else ∃ m, m < n ∧ J m s3) (fun _ _ => False) s2) (fun _ _ => False) s1') (fun _ _ => False) s1) (fun _ _ => False) s)
    (n : Nat) (h : J n s) : codeAny (model prog w) A (.compLoop (.ListComp elt [⟨target, iter, ifs, 0⟩] scope pos) 0 it acc env) R s := by
  refine codeAny_loop rfl J (fun n s hI => ?_) n h
  show wpAny _ A ((compTurn (.ListComp elt [⟨target, iter, ifs, 0⟩] scope pos) 0 it acc env).onRaise (fun x => do noteFrame x env; theTreesLotGoes x)) _ _ s
  refine wpAny_noted ?_
  rw [compTurn_list]
  refine wpAny_bind (wpAny_standAt (wpAny_bind (wpAny_mono (turn n s hI) (fun r s1 h1 => ?_) fun _ _ h' => h'.elim)))
  cases r with
  | none => exact wpAny_pure h1
  | some v =>
    refine wpAny_bind (wpAny_mono h1 (fun _ s1' h1' => ?_) fun _ _ h' => h'.elim)
    refine wpAny_bind (wpAny_mono h1' (fun _ s2 h2 => wpAny_bind (wpAny_mono h2 (fun ok s3 h3 => ?_) fun _ _ h' => h'.elim)) fun _ _ h' => h'.elim)
    cases ok with
    | false => exact wpAny_pure ⟨rfl, h3⟩
    | true =>
      exact wpAny_bind (wpAny_bind (wpAny_mono h3 (fun x s4 h4 => wpAny_bind (wpAny_mono h4 (fun _ s5 h5 => wpAny_pure (wpAny_pure ⟨rfl, h5⟩)) fun _ _ h' => h'.elim)) fun _ _ h' => h'.elim))
end
def clOf (cells : List (Str × Addr)) : List (Str × NameKind) → List (Str × Addr) → List (Str × Addr)
  | [], acc => acc
  | (n, k) :: r, acc => if k == .free then clOf cells r ((n, (cells.lookup n).getD 0) :: acc) else clOf cells r acc
theorem closure_is {scope : Scope} {env : Env} (h : ∀ y ∈ scope.names, y.2 = .free → ∃ c, env.cells.lookup y.1 = some c) : closureFor scope env = pure (clOf env.cells scope.names []) := by
  have all : ∀ (l : List (Str × NameKind)) (acc : List (Str × Addr)), (∀ y ∈ l, y.2 = .free → ∃ c, env.cells.lookup y.1 = some c) →
      (forIn l acc (fun (x : Str × NameKind) (r : List (Str × Addr)) => match x with | (name, kind) => (if (kind == .free) = true then (do let c ← cellOf env name; pure (ForInStep.yield ((name, c) :: r))) else pure (ForInStep.yield r) : Sem _))) = (pure (clOf env.cells l acc) : Sem _) := by
    intro l
    induction l with
    | nil => intro acc _; rfl
    | cons y l ih =>
      intro acc hl
      obtain ⟨n, k⟩ := y
      rw [List.forIn_cons]
      unfold clOf
      by_cases hk : (k == NameKind.free) = true
      · obtain ⟨c, hc⟩ := hl (n, k) List.mem_cons_self (by simpa using hk)
        have hc' : cellOf env n = pure c := by unfold cellOf; rw [show env.cells.lookup n = some c from hc]
        have hc2 : env.cells.lookup n = some c := hc
        simp only [hk, if_true, hc', hc2, pure_bind, Option.getD_some]
        exact ih _ fun y hy => hl y (List.mem_cons_of_mem _ hy)
      · simp only [hk, if_false, pure_bind]
        exact ih _ fun y hy => hl y (List.mem_cons_of_mem _ hy)
  unfold closureFor
  have := all scope.names [] h
  first
    | (rw [this]; rfl)
    | (simp only [bind_pure]; exact this)
theorem clOf_sub {cells : List (Str × Addr)} : ∀ {l : List (Str × NameKind)} {acc : List (Str × Addr)}, (∀ y ∈ l, y.2 = .free → ∃ c, cells.lookup y.1 = some c) → (∀ x c, acc.lookup x = some c → cells.lookup x = some c) → ∀ x c, (clOf cells l acc).lookup x = some c → cells.lookup x = some c
  | [], _, _, ha, x, c, e => ha x c e
  | (n, k) :: r, acc, hl, ha, x, c, e => by
    unfold clOf at e
    split at e
    · refine clOf_sub (fun y hy => hl y (List.mem_cons_of_mem _ hy)) (fun z d q => ?_) x c e
      rw [List.lookup_cons] at q
      split at q
      · rename_i hk _ hz
        obtain ⟨d', hd⟩ := hl (n, k) List.mem_cons_self (by simpa using hk)
        have hd : cells.lookup n = some d' := hd
        rw [hd] at q
        have hz' : z = n := by simpa using hz
        rw [hz', hd]
        exact q
      · exact ha z d q
    · exact clOf_sub (fun y hy => hl y (List.mem_cons_of_mem _ hy)) ha x c e
theorem clOf_has {cells : List (Str × Addr)} : ∀ {l : List (Str × NameKind)} {acc : List (Str × Addr)} {x : Str}, ((∃ c, acc.lookup x = some c) ∨ (x, NameKind.free) ∈ l) → ∃ c, (clOf cells l acc).lookup x = some c
  | [], _, _, h => by
    rcases h with h | h
    · exact h
    · simp at h
  | (n, k) :: r, acc, x, h => by
    unfold clOf
    split
    · rename_i hk
      refine clOf_has ?_
      rcases h with ⟨c, h⟩ | h
      · refine .inl ?_
        rw [List.lookup_cons]
        split
        · exact ⟨_, rfl⟩
        · exact ⟨c, h⟩
      · rcases List.mem_cons.mp h with e | h
        · refine .inl ?_
          cases e
          rw [List.lookup_cons]
          simp
        · exact .inr h
    · rename_i hk
      refine clOf_has ?_
      rcases h with h | h
      · exact .inl h
      · rcases List.mem_cons.mp h with e | h
        · cases e
          exact absurd (by rfl) hk
        · exact .inr h
/-- what relabel makes of a name's kind -/
theorem relabel_of {scope : Scope} {env : Env} {x : Str} : ∀ {l : List (Str × NameKind)} {k : NameKind}, (l.map fun (n, k) => if (k == NameKind.free && env.scope.kind == .function && env.kindOf n == some .cell) then (n, NameKind.cell) else (n, k)).lookup x = some k →
    l.lookup x = some k ∨ (k = .cell ∧ l.lookup x = some .free)
  | [], _, h => by simp at h
  | (n, j) :: r, k, h => by
    simp only [List.map_cons] at h
    by_cases hx : x = n
    · subst hx
      by_cases hc : (j == NameKind.free && env.scope.kind == .function && env.kindOf x == some .cell) = true
      · rw [if_pos hc] at h
        simp at h
        have hj : j = .free := by
          simp only [Bool.and_eq_true] at hc
          simpa using hc.1.1
        exact .inr ⟨h.symm, by simp [hj]⟩
      · rw [if_neg hc] at h
        simp at h
        exact .inl (by simp [h])
    · have hb : (x == n) = false := by simpa using hx
      by_cases hc : (j == NameKind.free && env.scope.kind == .function && env.kindOf n == some .cell) = true
      · rw [if_pos hc] at h
        simp only [List.lookup_cons, hb] at h ⊢
        exact relabel_of (scope := scope) h
      · rw [if_neg hc] at h
        simp only [List.lookup_cons, hb] at h ⊢
        exact relabel_of (scope := scope) h
theorem relabel_free {env : Env} {x : Str} : ∀ {l : List (Str × NameKind)}, l.lookup x = some .free →
    (l.map fun (n, k) => if (k == NameKind.free && env.scope.kind == .function && env.kindOf n == some .cell) then (n, NameKind.cell) else (n, k)).lookup x = some .cell ∨
    (l.map fun (n, k) => if (k == NameKind.free && env.scope.kind == .function && env.kindOf n == some .cell) then (n, NameKind.cell) else (n, k)).lookup x = some .free
  | [], h => by simp at h
  | (n, j) :: r, h => by
    simp only [List.map_cons]
    by_cases hx : x = n
    · subst hx
      simp at h
      subst h
      by_cases hc : (NameKind.free == NameKind.free && env.scope.kind == .function && env.kindOf x == some .cell) = true
      · rw [if_pos hc]; simp
      · rw [if_neg hc]; simp
    · have hb : (x == n) = false := by simpa using hx
      simp only [List.lookup_cons, hb] at h
      have ih := relabel_free (env := env) h
      by_cases hc : (j == NameKind.free && env.scope.kind == .function && env.kindOf n == some .cell) = true
      · rw [if_pos hc]; simp only [List.lookup_cons, hb]; exact ih
      · rw [if_neg hc]; simp only [List.lookup_cons, hb]; exact ih
/-- a comprehension's scope: O its own names, F the captured ones, cap their slots in the def -/
structure CmpScope (N : List Str) (sc : Scope) (O F : List Str) (cap : List Nat) (scope : Scope) : Prop where
  kind : scope.kind = .function
  nocell : ∀ y ∈ scope.names, y.2 ≠ .cell
  names : ∀ y ∈ scope.names, y.2 = .local → scope.names.lookup y.1 = some .local
  frees : ∀ y ∈ scope.names, y.2 = .free → sc.names.lookup y.1 = some .cell ∨ sc.names.lookup y.1 = some .free
  caps : F.map some = cap.map (fun j => N[j]?)
  capf : ∀ x ∈ F, scope.names.lookup x = some .free
def cxComp (X : Cx) (N : List Str) (scope : Scope) (cl : List (Str × Addr)) (C : Addr) (ex : List Addr) (s : Shared) (H : Hp) : Cx :=
  { X with N := N, s₀ := s, H₀ := H, env := compEnvC scope cl C X.env, outer := X.stack, ex := ex, fn := fun _ => false, pn := [], xe := fun _ _ => False }
/-- the slots of a comprehension's block at the start of a turn -/
def cmpSt (O : List Str) (cap : List Nat) (σ : St) : St := O.map (fun _ => none) ++ cap.map (fun j => (σ[j]?).getD none)
/-- the tests of a comprehension -/
def PTs (X : Cx) (ifs : List Expr) (t : TT) : Prop :=
  ∀ (pins : List (Addr × Obj)) (s : Shared) (σ : St) (H : Hp) (Q : Bool → Hp → Prop), Inv X pins σ H s → t σ H Q →
    wpAny (model X.prog X.w) X.A (forIn ifs true fun c r => if r = true then do let ok ← isTrue c X.env (eval c X.env); pure (ForInStep.yield ok) else pure (ForInStep.yield r)) (TP X pins σ Q) X.xe s
def tTrue : TT := fun _ H Q => Q true H
theorem pts_nil {X : Cx} : PTs X [] tTrue := fun _ _ _ H _ I h => wpAny_tests_nil ⟨H, I, h⟩
theorem pts_one {X : Cx} {c : Expr} {t : TT} (h : PT X c t) : PTs X [c] t := fun pins s σ H Q I q => wpAny_tests_one (h pins s σ H Q I q)
/-- W: the invariant by the turn, a measure, what was made; -/
def tComp (wi : TI) (O : List Str) (cap : List Nat) (g : TG) (tt : TT) (te : TE) : TE := fun σ H Q => wi σ H fun J H1 => ∃ W : Nat → Nat → List V → Hp → Prop, (∃ m, W 0 m [] H1) ∧ ∀ i m ys H, W i m ys H → ys.length ≤ sizeLine ∧
  ((J.stop i H ∧ ∀ l, H l = none → Q (.ref l) (upd H l (.lst ys))) ∨
   (J.go i H ∧ ∃ N : List V → Hp → Prop, (∀ ys' H', N ys' H' → ∃ m', m' < m ∧ W (i + 1) m' ys' H') ∧ ∀ x H', J.yld i H x H' → g x (cmpSt O cap σ) H' fun σ2 H2 => tt σ2 H2 fun b H3 => if b = true then te σ2 H3 fun y H4 => N (ys ++ [y]) H4 else N ys H3))
end L2
namespace L2
open PySem PySem.Spec PyProof.Rows
section
variable {X : Cx} {tg iter elt : Expr} {ifs : List Expr} {scope : Scope} {pos : Pos} {wi : TI} {g : TG} {tt : TT} {te : TE} {O F : List Str} {cap : List Nat}
/-- the block's entry -/
theorem Inv.comp {pins : List (Addr × Obj)} {σ : St} {H : Hp} {s : Shared} {fp : List Addr} {h1 : Heap} {tk : Nat} (S : CmpScope X.N X.env.scope O F cap scope) (I : Inv X pins σ H s)
    (hf : ∀ b ∈ fp, FpOk X pins H b) (ho : ∀ b ∈ fp, ∃ o, s.heap.get? b = some o ∧ ∀ v, o.data ≠ .cell v) (hs : s.heap.objs.size ≤ C) (D : Addr) (hD : s.heap.objs.size ≤ D) (hDC : D < C) {h0 : Heap} (h0s : h0.objs.size = C)
    (k0 : ∀ b o, s.heap.get? b = some o → h0.get? b = some o) (k1 : ∀ b o, h0.get? b = some o → h1.get? b = some o) (hn : h1.Ns C fun _ => none) :
    Inv (cxComp X (O ++ F) scope (clOf X.env.cells scope.names []) C (D :: fp) { s with heap := h0 } H) [] (cmpSt O cap σ) H { s with heap := h1, toks := tk } := by
  have hfr : ∀ y ∈ scope.names, y.2 = .free → ∃ c, X.env.cells.lookup y.1 = some c := fun y hy e => I.ok.has y.1 (S.frees y hy e)
  have sub : ∀ x c, (clOf X.env.cells scope.names []).lookup x = some c → X.env.cells.lookup x = some c := clOf_sub hfr (fun x c e => by simp at e)
  have clt : ∀ x c, X.env.cells.lookup x = some c → c < s.heap.objs.size := fun x c e => by
    obtain ⟨v, q⟩ := I.cell x c e
    exact q.lt
  have flt : ∀ b ∈ fp, b < s.heap.objs.size := fun b hb => by
    obtain ⟨o, e, _⟩ := ho b hb
    exact Heap.lt_size e
  have bsz : X.base.objs.size ≤ s.heap.objs.size := Nat.le_trans I.ok.bsz I.sz
  have blt : ∀ b o, X.base.get? b = some o → b < X.s₀.heap.objs.size := fun b o e => Heap.lt_size (I.ok.bs b o e).1
  have k : ∀ b o, s.heap.get? b = some o → h1.get? b = some o := fun b o e => k1 b o (k0 b o e)
  refine ⟨⟨I.ok.mod, S.kind, I.ok.glob, I.ok.blt, ?_, fun x y c e1 e2 => I.ok.inj x y c (sub x c e1) (sub y c e2), fun x hx => ?_, fun x c e _ => ?_, I.ok.hd, I.ok.frames, .inl rfl, fun b hb => ?_, fun b o e => ?_, ?_, fun b o e hb => ?_, fun b hb => ?_, ?_, I.stkFree⟩,
    rfl, I.bare, Un.kept k1, ⟨_, hn, fun i x v e1 e2 e3 => ?_⟩, fun x c e => ?_, I.hok.fresh hs, fun x c e => I.freeC x c (sub x c e), fun p hp => ?_, I.hok.kept k, ?_⟩
  · show h0.objs.size ≤ C
    exact Nat.le_of_eq h0s
  · have hx : (relabel scope X.env).names.lookup x = some .cell ∨ (relabel scope X.env).names.lookup x = some .free := hx
    have hx' : scope.names.lookup x = some .free := by
      rcases hx with hx | hx
      · rcases relabel_of (scope := scope) hx with e | ⟨_, e⟩
        · exact absurd rfl (S.nocell _ (PySem.mem_of_lookup e))
        · exact e
      · rcases relabel_of (scope := scope) hx with e | ⟨e, _⟩
        · exact e
        · cases e
    exact clOf_has (.inr (PySem.mem_of_lookup hx'))
  · exact absurd (show false = true from e) Bool.false_ne_true
  · rcases List.mem_cons.mp hb with e | hb
    · subst e
      exact ⟨Nat.ne_of_lt hDC, fun x c e => Nat.ne_of_lt (Nat.lt_of_lt_of_le (clt x c (sub x c e)) hD)⟩
    · exact ⟨Nat.ne_of_lt (Nat.lt_of_lt_of_le (flt b hb) hs), fun x c e => (hf b hb).2.2.2.2.1 x c (sub x c e)⟩
  · exact ⟨k0 b o (I.bs b o e).1, (I.bs b o e).2⟩
  · show X.base.objs.size ≤ h0.objs.size
    rw [h0s]
    exact Nat.le_trans bsz hs
  · rcases List.mem_cons.mp hb with q | hb
    · subst q
      exact absurd (Nat.lt_of_lt_of_le (Heap.lt_size (I.bk b o e)) hD) (Nat.lt_irrefl _)
    · rcases (hf b hb).2.2.2.1 with q | q
      · exact I.ok.noex b o e q
      · exact absurd (Nat.lt_of_lt_of_le (blt b o e) q) (Nat.lt_irrefl _)
  · intro hb2
    have hb3 : b ∈ X.env.locals :: X.fs := I.stkSub b hb2
    rcases List.mem_cons.mp hb with q | hb
    · subst q
      rcases List.mem_cons.mp hb3 with q | q
      · exact absurd I.lt (by rw [← q]; exact Nat.not_lt.mpr hD)
      · exact I.nofs hD q
    · rcases List.mem_cons.mp hb3 with q | q
      · exact (hf b hb).2.1 q
      · exact (hf b hb).2.2.1 q
  · exact I.stack.of_keeps fun b o e _ => ⟨o, k0 b o e, rfl⟩
  · -- the captured names
    have e1 : (O ++ F)[i]? = some x := e1
    have e2 : (cmpSt O cap σ)[i]? = some (some v) := e2
    unfold cmpSt at e2
    have hi : ¬ i < O.length := fun hi => by
      rw [List.getElem?_append_left (by simpa using hi)] at e2
      rw [List.getElem?_map] at e2
      cases q : O[i]? with
      | none => rw [q] at e2; cases e2
      | some z => rw [q] at e2; cases e2
    have hi' : O.length ≤ i := Nat.not_lt.mp hi
    rw [List.getElem?_append_right hi'] at e1
    rw [List.getElem?_append_right (by simpa using hi'), List.length_map, List.getElem?_map] at e2
    have hc := congrArg (fun l => l[i - O.length]?) S.caps
    simp only [List.getElem?_map, e1, Option.map_some] at hc
    cases q : cap[i - O.length]? with
    | none => rw [q] at e2; cases e2
    | some j =>
      rw [q] at e2 hc
      simp only [Option.map_some, Option.some.injEq] at e2 hc
      have hj : X.N[j]? = some x := hc.symm
      have hv : σ[j]? = some (some v) := by
        cases z : σ[j]? with
        | none => rw [z] at e2; cases e2
        | some y => rw [z] at e2; simp at e2; rw [e2]
      have hxf : scope.names.lookup x = some .free := S.capf x (List.mem_of_getElem? e1)
      have hxs := S.frees _ (PySem.mem_of_lookup hxf) rfl
      obtain ⟨m, hm, hl⟩ := I.loc
      obtain ⟨u, ru, l⟩ := hl j x v hj hv (hxs.elim (fun z => .inr (.inl z)) fun z => .inr (.inr z))
      refine ⟨u, ru, .inr ⟨relabel_free hxf, ?_⟩⟩
      rcases l with ⟨l, _⟩ | ⟨_, c, ec, z⟩
      · have l : X.env.scope.names.lookup x = some .local := l
        rcases hxs with q | q
        · rw [q] at l; cases l
        · rw [q] at l; cases l
      · obtain ⟨c', hc'⟩ := clOf_has (cells := X.env.cells) (l := scope.names) (acc := []) (.inr (PySem.mem_of_lookup hxf))
        have e' := sub x c' hc'
        rw [ec] at e'
        cases e'
        obtain ⟨o, ho, hd⟩ := z
        exact ⟨c, hc', o, k c o ho, hd⟩
  · obtain ⟨v, o, ho, hd⟩ := I.cell x c (sub x c e)
    exact ⟨v, o, k c o ho, hd⟩
  · exact absurd (show p ∈ ([] : List (Addr × Obj)) from hp) (by simp)
  · show (cmpSt O cap σ).length = (O ++ F).length
    have := congrArg List.length S.caps
    simp only [List.length_map] at this
    unfold cmpSt
    simp [this]
/-- behind the block -/
theorem Inv.uncomp {pins : List (Addr × Obj)} {σ σ' : St} {H H' : Hp} {s s4 : Shared} {N : List Str} {cl : List (Str × Addr)} {fp : List Addr} {C D : Addr} {h0 h' : Heap} {ys : List V} {us : List Value} {n : Nat} (I : Inv X pins σ H s)
    (hf : ∀ b ∈ fp, FpOk X pins H b) (hs : s.heap.objs.size ≤ C) (hD : s.heap.objs.size ≤ D) (hDC : D < C)
    (k0 : ∀ b o, s.heap.get? b = some o → h0.get? b = some o)
    (I4 : Inv (cxComp X N scope cl C (D :: fp) { s with heap := h0 } H) [] σ' H' s4) (fD : H' D = none) (oD : s4.heap.get? D = some { cls := .type "list", data := .seq us.toArray n }) (rv : Vals ys us) (hz : ys.length ≤ sizeLine)
    (sb : Heap.SameBut C s4.heap h') : Inv X pins σ (upd H' D (.lst ys)) { s4 with heap := h' } := by
  have kC : ∀ b o, b ≠ C → s4.heap.get? b = some o → h'.get? b = some o := fun b o hb e => (sb.2 b hb).trans e
  have lt : ∀ b o, s.heap.get? b = some o → b < s.heap.objs.size := fun b o e => Heap.lt_size e
  have neD : ∀ b o, s.heap.get? b = some o → b ≠ D := fun b o e => Nat.ne_of_lt (Nat.lt_of_lt_of_le (lt b o e) hD)
  have neC : ∀ b o, s.heap.get? b = some o → b ≠ C := fun b o e => Nat.ne_of_lt (Nat.lt_of_lt_of_le (lt b o e) hs)
  have nin : ∀ b o, s.heap.get? b = some o → b ∉ fp → b ∉ D :: fp := fun b o e h hb => (List.mem_cons.mp hb).elim (neD b o e) h
  have HD : H D = none := I.hok.fresh hD
  have neDH : ∀ b u, H b = some u → b ≠ D := fun b u e => ne_of_none e HD
  have fC : H' C = none := I4.free
  have un : Un (frs X.stack) (D :: fp) H H' h0 s4.heap := I4.base
  refine I.call' (ch := fp) (s' := { s4 with heap := h' }) (H' := upd H' D (.lst ys)) I4.os ⟨fun b o e n hb hx => ?_, fun b o e n hb hx => ?_, fun b o e n hx => ?_, fun b o e hx => ?_, fun b xs e => ?_, fun b o u e => ?_, fun b ps e => ?_⟩ (fun b u e => ?_) I4.bare (fun b hb => ?_)
  · exact kC b o (neC b o e) (un.keep b o (k0 b o e) n hb (nin b o e hx))
  · obtain ⟨sl, q⟩ := un.slot b o (k0 b o e) n hb (nin b o e hx)
    exact ⟨sl, kC b _ (neC b o e) q⟩
  · rw [upd_ne (neD b o e)]
    exact un.free b o (k0 b o e) n (nin b o e hx)
  · obtain ⟨o', q⟩ := un.there b o (k0 b o e) (nin b o e hx)
    exact ⟨o', kC b _ (neC b o e) q⟩
  · rw [upd_ne (neDH b _ e)]
    exact un.tups b xs e
  · rw [upd_ne (neDH b _ e)]
    exact un.frzs b o u e
  · rw [upd_ne (neDH b _ e)]
    exact un.tbls b ps e
  · by_cases hb : b = D
    · subst hb
      rw [upd_same] at e
      cases e
      exact ⟨hz, us, n, rv, kC b _ (Nat.ne_of_lt hDC) oD⟩
    · rw [upd_ne hb] at e
      refine (I4.hok b u e).stay (fun c v hc q => kC c v ?_ q) (fun c q => by rw [upd_ne (ne_of_none q fD)]; exact q) fun c xs q => by rw [upd_ne (ne_of_none q fD)]; exact q
      rcases hc with q | q
      · rw [q]; exact ne_of_none e fC
      · exact ne_of_none q fC
  · obtain ⟨_, h1, _, h2, h3, h4⟩ := hf b hb
    exact ⟨h2, h1, h3, h4⟩
/-- a target that stores in the slots below n alone -/
def Own (n : Nat) (g : TG) : Prop := ∀ x σ H Q, g x σ H Q → g x σ H fun σ2 H2 => (σ2.length = σ.length ∧ ∀ j, n ≤ j → σ2[j]? = σ[j]?) ∧ Q σ2 H2
theorem own_name {n i : Nat} (h : i < n) : Own n (gName i) := fun x σ H Q q => ⟨⟨by simp, fun j hj => by rw [List.getElem?_set_ne (by omega)]⟩, q⟩
/-- [elt for tg in iter if ..] -/
theorem pe_comp (hc : X.calm = true) (S : CmpScope X.N X.env.scope O F cap scope) (hi : PI X tg iter wi)
    (hg : ∀ cl C ex s H, PG (cxComp X (O ++ F) scope cl C ex s H) tg g) (ht : ∀ cl C ex s H, PTs (cxComp X (O ++ F) scope cl C ex s H) ifs tt) (he : ∀ cl C ex s H, PE (cxComp X (O ++ F) scope cl C ex s H) elt te)
    (ho : Own O.length g) (hs : ∀ x, foldedSetIterable iter X.env x = pure x := by intro _; rfl) : PE X (.ListComp elt [⟨tg, iter, ifs, 0⟩] scope pos) (tComp wi O cap g tt te) := by
  intro pins s σ H Q I h
  have hfr : ∀ y ∈ scope.names, y.2 = .free → ∃ c, X.env.cells.lookup y.1 = some c := fun y hy e => I.ok.has y.1 (S.frees y hy e)
  rw [eval_ListComp]
  refine wpAny_comprehension_free (use := none) rfl hs (closure_is hfr) S.kind S.names (thn (hi pins s σ H _ I h) fun v s1 h1 => thn h1 fun itv s2 h2 => ?_)
  obtain ⟨it, fp, tn, J, H2, e, I2, T, st2, f2, W, ⟨m0, w0⟩, turn⟩ := h2
  subst e
  refine wpAny_newObj_type (wpAny_newFunctionEnv S.nocell (by intro y hy; simp at hy) (fun h1 hns1 hsb1 => ?_) S.kind)
  dsimp only at hns1 hsb1 ⊢
  generalize hH0 : s2.heap.push { cls := .type "list", dict := none, data := .seq ([] : List Value).toArray } = h0 at hns1 hsb1 ⊢
  have h0s : h0.objs.size = s2.heap.objs.size + 1 := by rw [← hH0, Heap.size_push]
  have k0 : ∀ b o, s2.heap.get? b = some o → h0.get? b = some o := fun b o e => hH0 ▸ Heap.get?_push_of_some _ e
  have k1 : ∀ b o, h0.get? b = some o → h1.get? b = some o := fun b o e => hsb1.extBut b o (Nat.ne_of_lt (Heap.lt_size e)) (Heap.get?_push_of_some _ e)
  have oD0 : h0.get? s2.heap.objs.size = some { cls := .type "list", data := .seq ([] : List Value).toArray } := hH0 ▸ Heap.get?_push_size _ rfl
  have hDC : s2.heap.objs.size < h0.objs.size := by rw [h0s]; exact Nat.lt_succ_self _
  have hsC : s2.heap.objs.size ≤ h0.objs.size := Nat.le_of_lt hDC
  have flt : ∀ b ∈ fp, b < s2.heap.objs.size := fun b hb => by
    obtain ⟨o, e, _⟩ := T.obj _ _ st2 b hb
    exact Heap.lt_size e
  have Dfp : s2.heap.objs.size ∉ fp := fun z => Nat.lt_irrefl _ (flt _ z)
  have I3 : Inv (cxComp X (O ++ F) scope (clOf X.env.cells scope.names []) h0.objs.size (s2.heap.objs.size :: fp) { s2 with heap := h0 } H2) [] (cmpSt O cap σ) H2 { s2 with heap := h1, toks := s2.toks + ([] : List (Str × Value)).length } :=
    I2.comp S f2 (T.obj _ _ st2) hsC s2.heap.objs.size (Nat.le_refl _) hDC rfl k0 k1 hns1
  generalize hX' : cxComp X (O ++ F) scope (clOf X.env.cells scope.names []) h0.objs.size (s2.heap.objs.size :: fp) { s2 with heap := h0 } H2 = X' at I3
  have hg' : PG X' tg g := hX' ▸ hg _ _ _ _ _
  have ht' : PTs X' ifs tt := hX' ▸ ht _ _ _ _ _
  have he' : PE X' elt te := hX' ▸ he _ _ _ _ _
  have fpok : ∀ {H' : Hp}, (∀ b ∈ s2.heap.objs.size :: fp, H' b = none) → ∀ b ∈ s2.heap.objs.size :: fp, FpOk X' [] H' b := fun {H'} hn b hb => by
    have hex : b ∈ X'.ex := by rw [← hX']; exact hb
    refine ⟨hn b hb, (I3.ok.exf b hex).1, I3.ok.exfs b hex, .inl hex, (I3.ok.exf b hex).2, fun p hp => ?_⟩
    rw [← hX'] at hp
    exact absurd (show p ∈ ([] : List (Addr × Obj)) from hp) (by simp)
  have eP : X'.prog = X.prog := by rw [← hX']; rfl
  have eW : X'.w = X.w := by rw [← hX']; rfl
  have eK : X'.K = X.K := by rw [← hX']; rfl
  have eA : X'.A = X.A := by rw [← hX']; rfl
  have eC : X'.calm = true := by rw [← hX']; exact hc
  have eE : X'.env = compEnvC scope (clOf X.env.cells scope.names []) h0.objs.size X.env := by rw [← hX']; rfl
  have eX : X'.xe = fun _ _ => False := by rw [← hX']; rfl
  have loop : ∀ s3 : Shared, s3 = { s2 with heap := h1, toks := s2.toks + ([] : List (Str × Value)).length } →
      codeAny (model X.prog X.w) X.A (.compLoop (.ListComp elt [⟨tg, iter, ifs, 0⟩] scope pos) 0 (.ref it) (.ref s2.heap.objs.size) (compEnvC scope (clOf X.env.cells scope.names []) h0.objs.size X.env))
        (compPost (model X.prog X.w) X.A X.xe none (EP X pins σ Q) (.ref s2.heap.objs.size) h0.objs.size) s3 := by
    rintro s3 rfl
    refine compLoop_any (fun n s' => ∃ i ys us k H', Inv X' [] (cmpSt O cap σ) H' s' ∧ tn i s'.heap ∧ (∀ b ∈ s2.heap.objs.size :: fp, H' b = none) ∧ s'.heap.get? s2.heap.objs.size = some { cls := .type "list", data := .seq us.toArray k } ∧ Vals ys us ∧ W i n ys H') ?_ m0
      ⟨0, [], [], _, H2, I3, T.keep _ _ _ st2 (fun b _ o e => k1 b o (k0 b o e)), fun b hb => ?_, k1 _ _ oD0, .nil, w0⟩
    · rintro n s3 ⟨i, ys, us, k, H3, I3', st3, fr3, o3, rv3, w3⟩
      obtain ⟨hz, step⟩ := turn i n ys H3 w3
      have fpI : ∀ b ∈ fp, FpOk X' [] H3 b := fun b hb => fpok fr3 b (List.mem_cons_of_mem _ hb)
      rcases step with ⟨stop, q⟩ | ⟨go, NN, hNN, step⟩
      · have := T.done X' eP eW eK eC i [] s3 (cmpSt O cap σ) H3 (fun _ _ => False) I3' fpI st3 stop
        rw [eA] at this
        have hk : ∀ {s4 : Shared}, Inv X' [] (cmpSt O cap σ) H3 s4 → s4.heap.get? s2.heap.objs.size = some { cls := .type "list", data := .seq us.toArray k } → compPost (model X.prog X.w) X.A X.xe none (EP X pins σ Q) (.ref s2.heap.objs.size) h0.objs.size (.ok .next) s4 := fun {s4} I4 o4 => by
          obtain ⟨m, hm, _⟩ := id I4.loc
          rw [eE] at hm
          refine ⟨m, hm, fun h' sb => ⟨.ref s2.heap.objs.size, upd H3 s2.heap.objs.size (.lst ys), ?_, rfl, q _ (fr3 _ List.mem_cons_self)⟩⟩
          rw [← hX'] at I4
          exact I2.uncomp f2 hsC (Nat.le_refl _) hDC k0 I4 (fr3 _ List.mem_cons_self) o4 rv3 hz sb
        -- the accumulator is pinned while the iterator ends
        have J3 : Inv X' [(s2.heap.objs.size, { cls := .type "list", data := .seq us.toArray k })] (cmpSt O cap σ) H3 s3 := I3'.pins_of fun p hp => by
          have : p = (s2.heap.objs.size, { cls := .type "list", data := .seq us.toArray k }) := by simpa using hp
          subst this
          obtain ⟨f0, f1, f2', _⟩ := fpok fr3 s2.heap.objs.size List.mem_cons_self
          exact ⟨o3, f0, f1, f2', fun v z => by cases z⟩
        have fpJ : ∀ b ∈ fp, FpOk X' [(s2.heap.objs.size, { cls := .type "list", data := .seq us.toArray k })] H3 b := fun b hb => by
          obtain ⟨f0, f1, f3, f4, f5, f6⟩ := fpI b hb
          refine ⟨f0, f1, f3, f4, f5, fun p hp => ?_⟩
          rcases List.mem_append.mp hp with z | z
          · exact f6 p (List.mem_append_left _ z)
          · have : p = (s2.heap.objs.size, { cls := .type "list", data := .seq us.toArray k }) := by simpa using z
            subst this
            intro e
            exact Dfp (by rw [show s2.heap.objs.size = b from e]; exact hb)
        have fin := T.done X' eP eW eK eC i _ s3 (cmpSt O cap σ) H3 (fun _ _ => False) J3 fpJ st3 stop
        rw [eA] at fin
        refine thn fin fun r s4 ⟨hr, J4⟩ => ?_
        subst hr
        exact hk (J4.pins_of fun p hp => absurd hp (by simp)) (J4.pin (s2.heap.objs.size, { cls := .type "list", data := .seq us.toArray k }) (List.mem_append_right _ (List.mem_singleton.mpr rfl))).1
      · have J3 : Inv X' (pinsAt [s2.heap.objs.size] s3.heap) (cmpSt O cap σ) H3 s3 := by
          have := I3'.pinned (fp := [s2.heap.objs.size]) (fun b hb => fpok fr3 b (by simp at hb; simp [hb])) (fun b hb => by
            have e : b = s2.heap.objs.size := by simpa using hb
            subst e
            exact ⟨_, o3, fun v z => by cases z⟩)
          simpa using this
        have fpJ : ∀ b ∈ fp, FpOk X' (pinsAt [s2.heap.objs.size] s3.heap) H3 b := fun b hb => by
          obtain ⟨f0, f1, f3, f4, f5, f6⟩ := fpI b hb
          refine ⟨f0, f1, f3, f4, f5, fun p hp => ?_⟩
          rcases List.mem_append.mp hp with z | z
          · exact f6 p (List.mem_append_left _ z)
          · have := (of_pinsAt z).1
            have e' : p.1 = s2.heap.objs.size := by simpa using this
            intro e
            exact Dfp (by rw [← e', e]; exact hb)
        have it3 := T.item X' eP eW eK eC i _ s3 (cmpSt O cap σ) H3 (fun _ _ => False) J3 fpJ st3 go
        rw [eA] at it3
        refine thn it3 fun r s4 ⟨u, hr, h4⟩ => ?_
        subst hr
        refine thn h4 fun _ s5 ⟨x, H5, I5, r5, y5, st5, fr5⟩ => ?_
        have o5 : s5.heap.get? s2.heap.objs.size = some { cls := .type "list", data := .seq us.toArray k } := (I5.pin (_, _) (List.mem_append_right _ (mem_pinsAt (by simp) o3))).1
        have d5 : H5 s2.heap.objs.size = none := (I5.pin (_, _) (List.mem_append_right _ (mem_pinsAt (by simp) o3))).2.1
        have fr5' : ∀ b ∈ s2.heap.objs.size :: fp, H5 b = none := fun b hb => (List.mem_cons.mp hb).elim (fun z => by rw [z]; exact d5) (fr5 b)
        have I5' : Inv X' (pinsAt (s2.heap.objs.size :: fp) s5.heap) (cmpSt O cap σ) H5 s5 := by
          have := (I5.pins_of (pins' := []) fun p hp => absurd hp (by simp)).pinned (fp := s2.heap.objs.size :: fp) (fpok fr5') (fun b hb => by
            rcases List.mem_cons.mp hb with e | hb
            · subst e
              exact ⟨_, o5, fun v z => by cases z⟩
            · exact T.obj _ _ st5 b hb)
          simpa using this
        have a5 := hg' _ s5 (cmpSt O cap σ) H5 x u _ I5' r5 (ho _ _ _ _ (step x H5 y5))
        rw [eP, eW, eA, eE, eX] at a5
        refine thn a5 fun _ s6 ⟨σ6, H6, I6, ⟨l6, w6⟩, q6⟩ => ?_
        have t6 := ht' _ s6 σ6 H6 _ I6 q6
        rw [eP, eW, eA, eE, eX] at t6
        refine thn t6 fun ok s7 ⟨H7, I7, q7⟩ => ?_
        -- behind the turn
        have back : ∀ {σ8 : St} {H8 : Hp} {s8 : Shared}, σ8.length = (cmpSt O cap σ).length → Inv X' (pinsAt (s2.heap.objs.size :: fp) s5.heap) σ8 H8 s8 → (∀ (j : Nat) v, (cmpSt O cap σ)[j]? = some (some v) → σ8[j]? = some (some v)) →
            Inv X' [] (cmpSt O cap σ) H8 s8 ∧ tn (i + 1) s8.heap ∧ (∀ b ∈ s2.heap.objs.size :: fp, H8 b = none) ∧ s8.heap.get? s2.heap.objs.size = some { cls := .type "list", data := .seq us.toArray k } := fun {σ8 H8 s8} hl I8 hw => by
          have pin8 : ∀ b ∈ s2.heap.objs.size :: fp, ∀ o, s5.heap.get? b = some o → s8.heap.get? b = some o ∧ H8 b = none := fun b hb o e => by
            have := I8.pin (b, o) (List.mem_append_right _ (mem_pinsAt hb e))
            exact ⟨this.1, this.2.1⟩
          refine ⟨(I8.pins_of fun p hp => absurd hp (by simp)).weak hl.symm hw, T.keep _ _ _ st5 fun b hb o e => (pin8 b (List.mem_cons_of_mem _ hb) o e).1, fun b hb => ?_, (pin8 _ List.mem_cons_self _ o5).1⟩
          rcases List.mem_cons.mp hb with e | hb'
          · exact (pin8 b hb _ (by rw [e]; exact o5)).2
          · obtain ⟨o, e, _⟩ := T.obj _ _ st5 b hb'
            exact (pin8 b hb o e).2
        have w6' : ∀ (j : Nat) v, (cmpSt O cap σ)[j]? = some (some v) → σ6[j]? = some (some v) := fun j v e => by
          by_cases hj : O.length ≤ j
          · rw [w6 j hj]; exact e
          · exfalso
            unfold cmpSt at e
            rw [List.getElem?_append_left (by simpa using Nat.not_le.mp hj), List.getElem?_map] at e
            cases q : O[j]? with
            | none => rw [q] at e; cases e
            | some z => rw [q] at e; cases e
        cases ok with
        | false =>
          rw [if_neg Bool.false_ne_true] at q7 ⊢
          obtain ⟨m', hm, w7⟩ := hNN _ _ q7
          obtain ⟨b1, b2, b3, b4⟩ := back l6 I7 w6'
          exact ⟨m', hm, i + 1, ys, us, k, H7, b1, b2, b3, b4, rv3, w7⟩
        | true =>
          rw [if_pos rfl] at q7 ⊢
          have e7 := he' _ s7 σ6 H7 _ I7 q7
          rw [eP, eW, eA, eE, eX] at e7
          refine thn e7 fun y s8 ⟨z, H8, I8, r8, q8⟩ => ?_
          obtain ⟨m', hm, w8⟩ := hNN _ _ q8
          obtain ⟨b1, b2, b3, b4⟩ := back l6 I8 w6'
          have hzs : us.toArray.size ≤ sizeLine := by rw [List.size_toArray, ← rv3.length]; exact hz
          refine append_at (hsz := hzs) b4 fun h9 hs9 hD9 => ?_
          obtain ⟨f0, f1, f2', f3, f4, f5⟩ := fpok b3 s2.heap.objs.size List.mem_cons_self
          have I9 : Inv X' [] (cmpSt O cap σ) H8 { s8 with heap := h9 } := b1.turned (t' := s8.toks) (fun b o hb e => (hs9.2 b hb).trans e) f0 f1 f3 f4 f5
          refine ⟨m', hm, i + 1, ys ++ [z], us ++ [y], k + 1, H8, I9, T.keep _ _ _ b2 fun b hb o e => (hs9.2 b fun q => Dfp (by rw [← q]; exact hb)).trans e, b3, ?_, rv3.snoc r8, w8⟩
          rw [hD9, List.push_toArray]
    · rcases List.mem_cons.mp hb with e | hb
      · rw [e]; exact I2.hok.fresh (Nat.le_refl _)
      · exact (f2 b hb).1
  exact codeAny_compStart_list (loop _ rfl) (T.self _ 0 _ _ _ (T.keep _ _ _ st2 (fun b _ o e => k1 b o (k0 b o e))) (loop _ rfl))
end
end L2
namespace L2
open PySem PySem.Spec PyProof.Rows
def Its (x : Str) : It := ⟨fun i _ => i < x.cps.size, fun i H v H' => H' = H ∧ ∃ c, x.cps[i]? = some c ∧ v = .str ⟨#[c]⟩, fun i _ => x.cps.size ≤ i⟩
theorem turn_str {P : Program} {w : World} {K : PySem.W.Frag} {tg : Expr} (it : Addr) (x : Str) (t : Tok) (cl : String) (hc : cl = "str_ascii_iterator" ∨ cl = "str_iterator") : Turn P w K tg (Its x) [it] it (fun i h => h.IsStrIter it cl x t i) where
  mem := by simp
  obj := fun i h st b hb => by
    have e : b = it := by simpa using hb
    subst e
    obtain ⟨o, e, c, d⟩ := st
    exact ⟨o, e, fun v z => by rw [d] at z; cases z⟩
  keep := fun i h h' st k => by
    obtain ⟨o, e, r⟩ := st
    exact ⟨o, k it (by simp) o e, r⟩
  item := by
    intro X hP hw hK hcm i pins s σ H E I hf st hg
    subst hP hw hK
    obtain ⟨f0, f1, f2, f3, f4, f5⟩ := hf it (by simp)
    have hi : i < x.cps.size := hg
    have nm : ["enumerate", "zip", "dict_itemiterator", "dict_reverseitemiterator", "odict_iterator", "itertools.zip_longest", "itertools.pairwise"].contains cl = false := by
      rcases hc with rfl | rfl <;> decide
    have go : ∀ (h' : Heap) (st' : h'.IsStrIter it cl x t (i + 1)) (sb : ∀ b o, b ≠ it → s.heap.get? b = some o → h'.get? b = some o) (tk : Nat) (u : Tok), ∃ v, some (Value.str ⟨#[x.cps[i]]⟩ u) = some v ∧
        wpAny (model X.prog X.w) X.A (letOwnedTupleGo tg (.ref it) v) (fun _ s2 => ∃ y H', Inv X pins σ H' s2 ∧ RelV y v ∧ (Its x).yld i H y H' ∧ s2.heap.IsStrIter it cl x t (i + 1) ∧ ∀ b ∈ [it], H' b = none) E { s with heap := h', toks := tk } := fun h' st' sb tk u => by
      have I1 : Inv X pins σ H { s with heap := h', toks := tk } := I.turned (fun b o hb e => sb b o hb e) f0 f1 f3 f4 f5
      obtain ⟨o, e, c, d⟩ := id st'
      exact ⟨_, rfl, go_of (s := { s with heap := h', toks := tk }) e c d nm ⟨.str ⟨#[x.cps[i]]⟩, H, I1, ⟨_, rfl⟩, ⟨rfl, x.cps[i], by simp [hi], rfl⟩, st', fun b hb => (hf b hb).1⟩⟩
    rcases hc with rfl | rfl
    · exact wpAny_pyNext_ascii_item st (c := x.cps[i]) (by simp [hi]) fun h' st' sb => go h' st' (fun b o hb e => sb.extBut b o hb e) _ _
    · exact wpAny_pyNext_wide_item st (c := x.cps[i]) (by simp [hi]) fun h' st' sb => go h' st' (fun b o hb e => sb.extBut b o hb e) _ _
  done := by
    intro X hP hw hK hcm i pins s σ H E I hf st hg
    subst hP hw hK
    obtain ⟨f0, f1, f2, f3, f4, f5⟩ := hf it (by simp)
    have hi : x.cps.size ≤ i := hg
    rcases hc with rfl | rfl
    · exact wpAny_pyNext_ascii_end (I.ok.hd hcm) st (by simp [hi]) fun h' eb => ⟨rfl, I.turned (t' := s.toks) (fun b o hb e => eb b o hb e) f0 f1 f3 f4 f5⟩
    · exact wpAny_pyNext_wide_end (I.ok.hd hcm) st (by simp [hi]) fun h' eb => ⟨rfl, I.turned (t' := s.toks) (fun b o hb e => eb b o hb e) f0 f1 f3 f4 f5⟩
  self := fun _ _ _ _ _ st h => by
    rcases hc with rfl | rfl
    · exact wpAny_pyIter_striter_ascii st h
    · exact wpAny_pyIter_striter_wide st h
section
variable {X : Cx} {tg : Expr}
def iStr (tl : TE) : TI := fun σ H R => tl σ H fun v H1 => ∃ x, v = .str x ∧ R (Its x) H1
theorem pi_str {l : Expr} {tl : TE} (hl : PE X l tl) : PI X tg l (iStr tl) := by
  intro pins s σ H R I h
  refine thn (hl pins s σ H _ I h) fun v s1 ⟨y, H1, I1, r1, q1⟩ => ?_
  obtain ⟨x, e, q⟩ := q1
  subst e
  obtain ⟨t, rfl⟩ := r1
  have fin : ∀ (o : Obj) (cl : String), (cl = "str_ascii_iterator" ∨ cl = "str_iterator") → (s1.heap.push o).IsStrIter s1.heap.objs.size cl x t 0 → PIE X pins σ tg R (.ref s1.heap.objs.size) { s1 with heap := s1.heap.push o } := fun o cl hc st => by
    refine ⟨s1.heap.objs.size, [s1.heap.objs.size], _, _, H1, rfl, I1.kept (t' := s1.toks) fun b o e => Heap.get?_push_of_some _ e, turn_str _ x t cl hc, st, fun b hb => ?_, q⟩
    have e : b = s1.heap.objs.size := by simpa using hb
    subst e
    exact I1.fpOk (Nat.le_refl _) (I1.hok.fresh (Nat.le_refl _))
  cases ha : x.cps.all (· < 128)
  · exact wpAny_pyIter_wide ha (fin _ _ (.inr rfl) ⟨_, Heap.get?_push_size _ rfl, rfl, rfl⟩)
  · exact wpAny_pyIter_ascii ha (fin _ _ (.inl rfl) ⟨_, Heap.get?_push_size _ rfl, rfl, rfl⟩)
end
end L2
namespace L2
open PySem PySem.Spec PyProof.Rows
theorem boolsAre_of : ∀ {bs : List Bool} {us : List Value}, Vals (bs.map V.bl) us → LSm.BoolsAre us bs := by
  intro bs
  induction bs with
  | nil => intro us r; rw [List.map_nil] at r; cases r; exact .nil
  | cons b bs ih =>
    intro us r
    rw [List.map_cons] at r
    cases r with
    | cons r1 r2 =>
      cases r1
      exact .cons b (ih r2)
section
variable {X : Cx}
theorem call_all (hc : X.calm = true) : CallR X (.builtin "all") (fun xs H Q => ∃ (p : Addr) (bs : List Bool), xs = [.ref p] ∧ SqL X.K H p (bs.map V.bl) ∧ Q (.bl (bs.all id)) H) := by
  intro pins s σ H xs us Q I r h
  obtain ⟨p, bs, rfl, hq, q⟩ := h
  cases r with
  | cons r rr =>
    cases rr
    cases r
    obtain ⟨its, rv, pl, hz⟩ := I.list hq
    obtain ⟨m, F⟩ := I.fr
    have hb := boolsAre_of rv
    have hlt : p < s.heap.objs.size := by obtain ⟨_, e, _⟩ := pl.isList; exact Heap.lt_size e
    refine call_all_walk (wpAny_pyIter_list pl.isList ?_)
    refine ⟨s.heap.objs.size, [s.heap.objs.size, p], [s.heap.objs.size], its.toArray.size, _, _, fun i => (bs[i]?).getD true, rfl, Walks.list (A := X.A.in1) (I.ok.hd hc) _ p (Nat.ne_of_lt hlt) its.toArray,
      ⟨⟨_, Heap.get?_push_size _ rfl, rfl, rfl⟩, pl.isList.push _⟩, fun i v s' Q' E' hP hQ => ?_, fun h' tk hk => ?_⟩
    · obtain ⟨b, e, rfl⟩ := hb.get i v (by simpa using hP)
      simp only [e, Option.getD_some] at hQ
      exact wpAny_truthy_bool hQ
    · have e : ((List.range its.toArray.size).all fun i => (bs[i]?).getD true) = bs.all id := by
        rw [List.size_toArray, hb.length]; exact LSm.range_all bs
      rw [e]
      exact ⟨.bl (bs.all id), H, I.kept (LSm.kept_iter hk), rfl, q⟩
theorem Inv.big {pins : List (Addr × Obj)} {σ : St} {H : Hp} {s : Shared} (I : Inv X pins σ H s) : sysModules < s.heap.objs.size := by
  have h : mainGlobals < s.heap.objs.size := (I.mod.glob.keeps I.bk).lt
  exact Nat.lt_trans (by decide) h
end
end L2
namespace L2
open PySem PySem.Spec PyProof.Rows
end L2
namespace HT
open PySem PySem.Spec PyProof.Rows
section
variable {prog : Program} {w : World} {A : Around} {E : Value → Shared → Prop} {s : Shared}
/-- t[lo:hi], the whole of it: t itself -/
theorem getItem_tuple_all {t sl : Addr} {items : Array Value} {vl vu : Value} {lo hi : Option Int} {Q : Value → Shared → Prop} (ht : IsTup s.heap t items) (hs : s.heap.IsSliceOf sl vl vu .none) (pl : IsPart vl lo) (pu : IsPart vu hi)
    (hw : sIx items.size 0 lo = 0 ∧ sIx items.size items.size hi = items.size)
    (h : Q (.ref t) s) : wpAny (model prog w) A (getItem (.ref t) (.ref sl)) Q E s := by
  obtain ⟨os, hos, hcs, hds⟩ := id hs
  have hTs : s.TypeIs (.ref sl) "slice" := ⟨os, hos, hcs⟩
  unfold getItem
  try with_reducible refine wpAny_holding ?_
  first | refine wpAny_bind (wpAny_pure ?_) | skip
  refine wpAny_bind (wpAny_sequenceKey ht.typeIs (by decide) ?_)
  refine wpAny_bind (wpAny_callSpecial?_slot (name := Str.ofString "__getitem__") ht.typeIs PyProof.Rows.slot_tuple_getitem
    (wpAny_call_entry PyProof.Rows.slot_tuple_getitem ht.typeIs entry_tuple_getitem ?_ (args_tuple_getitem _ _)))
  show wpAny _ _ (Builtin.Tuple.tupleItemsOf (.ref t) >>= _) _ _ s
  refine wpAny_bind (tupleItemsOf_ ht ?_)
  refine wpAny_bind (wpAny_typeOf hTs ?_)
  rw [if_pos (by decide)]
  refine wpAny_bind (sliceApplied_gen hs pl pu ?_)
  have hno : ((((sIx items.size 0 lo : Nat) : Int) == 0 && (1 : Int) == 1 && (sIx items.size items.size hi - sIx items.size 0 lo) == items.size) = true) := by
    rw [hw.1, hw.2]
    simp
  show wpAny _ _ (if (((sIx items.size 0 lo : Nat) : Int) == 0 && (1 : Int) == 1 && (sIx items.size items.size hi - sIx items.size 0 lo) == items.size) = true then _ else _) _ _ s
  rw [if_pos hno]
  refine wpAny_bind ?_
  unfold Builtin.Tuple.tupleIsExact
  refine wpAny_bind (wpAny_typeOf ht.typeIs (wpAny_pure ?_))
  rw [if_pos (by decide)]
  refine wpAny_bind (wpAny_rule ?_)
  exact wpAny_pure ⟨_, rfl, wpAny_pure h⟩
/-- () + u: u itself -/
theorem cat_tup0 {t b : Addr} {vs ws : List Value} {Q : Value → Shared → Prop} (ht : IsTup s.heap t vs.toArray) (hb : IsTup s.heap b ws.toArray) (hv : vs = [])
    (h1 : Q (.ref b) s) : wpAny (model prog w) A (binaryOp .Add (.ref t) (.ref b)) Q E s := by
  obtain ⟨⟨cls, dd, data, sl⟩, ho, hc, n, hd⟩ := id ht
  obtain ⟨⟨cls2, dd2, data2, sl2⟩, ho2, hc2, n2, hd2⟩ := id hb
  simp only at hc hd hc2 hd2
  subst hc hd hc2 hd2
  exact concat_meets ⟨_, ho, rfl⟩ ⟨_, ho2, rfl⟩ noFill_tuple_add seq_tuple_add PySem.F.slot_tuple_add PySem.F.entry_tuple_add (PySem.F.args_tuple_add_2 _ _)
      (tuple_addW0 t b vs.toArray ws.toArray n n2 dd dd2 sl sl2 (by simp [hv])) ⟨ho, ho2, h1⟩
end
end HT
namespace L2
open PySem PySem.Spec PyProof.Rows
theorem cutV_all {xs : List V} {lo hi : Option Int} (h : HT.sIx xs.length 0 lo = 0 ∧ HT.sIx xs.length xs.length hi = xs.length) : cutV xs lo hi = xs := by
  unfold cutV
  rw [h.1, h.2]
  simp
end L2
namespace L2
open PySem PySem.Spec PyProof.Rows
section
variable {X : Cx} {tg iter elt : Expr} {ifs : List Expr} {scope : Scope} {pos : Pos} {wi : TI} {g : TG} {tt : TT} {te : TE} {O F : List Str} {cap : List Nat}
/-- a comprehension's block, whatever becomes of its list -/
theorem comp_core {use : Option (Value → Sem Unit)} {R : Value → Shared → Prop} {pins : List (Addr × Obj)} {s : Shared} {σ : St} {H : Hp} {Q : VK} {ps0 : Pos} (hc : X.calm = true) (S : CmpScope X.N X.env.scope O F cap scope) (hi : PI X tg iter wi)
    (hg : ∀ cl C ex s H, PG (cxComp X (O ++ F) scope cl C ex s H) tg g) (ht : ∀ cl C ex s H, PTs (cxComp X (O ++ F) scope cl C ex s H) ifs tt) (he : ∀ cl C ex s H, PE (cxComp X (O ++ F) scope cl C ex s H) elt te)
    (ho : Own O.length g) (hs : ∀ x, foldedSetIterable iter X.env x = pure x) (I : Inv X pins σ H s) (h : tComp wi O cap g tt te σ H Q)
    (post : ∀ (s4 : Shared) (D C : Addr) (H4 : Hp) (ys : List V), (∃ m, s4.heap.Ns C m) → D ≠ C → (∀ h', Heap.SameBut C s4.heap h' → Inv X pins σ (upd H4 D (.lst ys)) { s4 with heap := h' }) → FpOk X pins (upd H4 D (.lst ys)) C → Q (.ref D) (upd H4 D (.lst ys)) →
      compPost (model X.prog X.w) X.A X.xe use R (.ref D) C (.ok .next) s4) :
    wpAny (model X.prog X.w) X.A (comprehension (.ListComp elt [⟨tg, iter, ifs, 0⟩] scope pos) scope X.env ps0 (newList []) false (eval iter X.env) use) R X.xe s := by
  have hfr : ∀ y ∈ scope.names, y.2 = .free → ∃ c, X.env.cells.lookup y.1 = some c := fun y hy e => I.ok.has y.1 (S.frees y hy e)
  refine wpAny_comprehension_free (use := use) rfl hs (closure_is hfr) S.kind S.names (thn (hi pins s σ H _ I h) fun v s1 h1 => thn h1 fun itv s2 h2 => ?_)
  obtain ⟨it, fp, tn, J, H2, e, I2, T, st2, f2, W, ⟨m0, w0⟩, turn⟩ := h2
  subst e
  refine wpAny_newObj_type (wpAny_newFunctionEnv S.nocell (by intro y hy; simp at hy) (fun h1 hns1 hsb1 => ?_) S.kind)
  dsimp only at hns1 hsb1 ⊢
  generalize hH0 : s2.heap.push { cls := .type "list", dict := none, data := .seq ([] : List Value).toArray } = h0 at hns1 hsb1 ⊢
  have h0s : h0.objs.size = s2.heap.objs.size + 1 := by rw [← hH0, Heap.size_push]
  have k0 : ∀ b o, s2.heap.get? b = some o → h0.get? b = some o := fun b o e => hH0 ▸ Heap.get?_push_of_some _ e
  have k1 : ∀ b o, h0.get? b = some o → h1.get? b = some o := fun b o e => hsb1.extBut b o (Nat.ne_of_lt (Heap.lt_size e)) (Heap.get?_push_of_some _ e)
  have oD0 : h0.get? s2.heap.objs.size = some { cls := .type "list", data := .seq ([] : List Value).toArray } := hH0 ▸ Heap.get?_push_size _ rfl
  have hDC : s2.heap.objs.size < h0.objs.size := by rw [h0s]; exact Nat.lt_succ_self _
  have hsC : s2.heap.objs.size ≤ h0.objs.size := Nat.le_of_lt hDC
  have flt : ∀ b ∈ fp, b < s2.heap.objs.size := fun b hb => by
    obtain ⟨o, e, _⟩ := T.obj _ _ st2 b hb
    exact Heap.lt_size e
  have Dfp : s2.heap.objs.size ∉ fp := fun z => Nat.lt_irrefl _ (flt _ z)
  have I3 : Inv (cxComp X (O ++ F) scope (clOf X.env.cells scope.names []) h0.objs.size (s2.heap.objs.size :: fp) { s2 with heap := h0 } H2) [] (cmpSt O cap σ) H2 { s2 with heap := h1, toks := s2.toks + ([] : List (Str × Value)).length } :=
    I2.comp S f2 (T.obj _ _ st2) hsC s2.heap.objs.size (Nat.le_refl _) hDC rfl k0 k1 hns1
  generalize hX' : cxComp X (O ++ F) scope (clOf X.env.cells scope.names []) h0.objs.size (s2.heap.objs.size :: fp) { s2 with heap := h0 } H2 = X' at I3
  have hg' : PG X' tg g := hX' ▸ hg _ _ _ _ _
  have ht' : PTs X' ifs tt := hX' ▸ ht _ _ _ _ _
  have he' : PE X' elt te := hX' ▸ he _ _ _ _ _
  have fpok : ∀ {H' : Hp}, (∀ b ∈ s2.heap.objs.size :: fp, H' b = none) → ∀ b ∈ s2.heap.objs.size :: fp, FpOk X' [] H' b := fun {H'} hn b hb => by
    have hex : b ∈ X'.ex := by rw [← hX']; exact hb
    refine ⟨hn b hb, (I3.ok.exf b hex).1, I3.ok.exfs b hex, .inl hex, (I3.ok.exf b hex).2, fun p hp => ?_⟩
    rw [← hX'] at hp
    exact absurd (show p ∈ ([] : List (Addr × Obj)) from hp) (by simp)
  have eP : X'.prog = X.prog := by rw [← hX']; rfl
  have eW : X'.w = X.w := by rw [← hX']; rfl
  have eK : X'.K = X.K := by rw [← hX']; rfl
  have eA : X'.A = X.A := by rw [← hX']; rfl
  have eC : X'.calm = true := by rw [← hX']; exact hc
  have eE : X'.env = compEnvC scope (clOf X.env.cells scope.names []) h0.objs.size X.env := by rw [← hX']; rfl
  have eX : X'.xe = fun _ _ => False := by rw [← hX']; rfl
  have loop : ∀ s3 : Shared, s3 = { s2 with heap := h1, toks := s2.toks + ([] : List (Str × Value)).length } →
      codeAny (model X.prog X.w) X.A (.compLoop (.ListComp elt [⟨tg, iter, ifs, 0⟩] scope pos) 0 (.ref it) (.ref s2.heap.objs.size) (compEnvC scope (clOf X.env.cells scope.names []) h0.objs.size X.env))
        (compPost (model X.prog X.w) X.A X.xe use R (.ref s2.heap.objs.size) h0.objs.size) s3 := by
    rintro s3 rfl
    refine compLoop_any (fun n s' => ∃ i ys us k H', Inv X' [] (cmpSt O cap σ) H' s' ∧ tn i s'.heap ∧ (∀ b ∈ s2.heap.objs.size :: fp, H' b = none) ∧ s'.heap.get? s2.heap.objs.size = some { cls := .type "list", data := .seq us.toArray k } ∧ Vals ys us ∧ W i n ys H') ?_ m0
      ⟨0, [], [], _, H2, I3, T.keep _ _ _ st2 (fun b _ o e => k1 b o (k0 b o e)), fun b hb => ?_, k1 _ _ oD0, .nil, w0⟩
    · rintro n s3 ⟨i, ys, us, k, H3, I3', st3, fr3, o3, rv3, w3⟩
      obtain ⟨hz, step⟩ := turn i n ys H3 w3
      have fpI : ∀ b ∈ fp, FpOk X' [] H3 b := fun b hb => fpok fr3 b (List.mem_cons_of_mem _ hb)
      rcases step with ⟨stop, q⟩ | ⟨go, NN, hNN, step⟩
      · have := T.done X' eP eW eK eC i [] s3 (cmpSt O cap σ) H3 (fun _ _ => False) I3' fpI st3 stop
        rw [eA] at this
        have hk : ∀ {s4 : Shared}, Inv X' [] (cmpSt O cap σ) H3 s4 → s4.heap.get? s2.heap.objs.size = some { cls := .type "list", data := .seq us.toArray k } → compPost (model X.prog X.w) X.A X.xe use R (.ref s2.heap.objs.size) h0.objs.size (.ok .next) s4 := fun {s4} I4 o4 => by
          obtain ⟨m, hm, _⟩ := id I4.loc
          rw [eE] at hm
          have fC : H3 h0.objs.size = none := by
            have := I4.free
            rw [eE] at this
            exact this
          have nCD : h0.objs.size ≠ s2.heap.objs.size := Nat.ne_of_gt hDC
          refine post s4 s2.heap.objs.size h0.objs.size H3 ys ⟨m, hm⟩ (Ne.symm nCD) (fun h' sb => ?_) (I2.fpOk hsC (by rw [upd_ne nCD]; exact fC)) (q _ (fr3 _ List.mem_cons_self))
          rw [← hX'] at I4
          exact I2.uncomp f2 hsC (Nat.le_refl _) hDC k0 I4 (fr3 _ List.mem_cons_self) o4 rv3 hz sb
        -- the accumulator is pinned while the iterator ends
        have J3 : Inv X' [(s2.heap.objs.size, { cls := .type "list", data := .seq us.toArray k })] (cmpSt O cap σ) H3 s3 := I3'.pins_of fun p hp => by
          have : p = (s2.heap.objs.size, { cls := .type "list", data := .seq us.toArray k }) := by simpa using hp
          subst this
          obtain ⟨f0, f1, f2', _⟩ := fpok fr3 s2.heap.objs.size List.mem_cons_self
          exact ⟨o3, f0, f1, f2', fun v z => by cases z⟩
        have fpJ : ∀ b ∈ fp, FpOk X' [(s2.heap.objs.size, { cls := .type "list", data := .seq us.toArray k })] H3 b := fun b hb => by
          obtain ⟨f0, f1, f3, f4, f5, f6⟩ := fpI b hb
          refine ⟨f0, f1, f3, f4, f5, fun p hp => ?_⟩
          rcases List.mem_append.mp hp with z | z
          · exact f6 p (List.mem_append_left _ z)
          · have : p = (s2.heap.objs.size, { cls := .type "list", data := .seq us.toArray k }) := by simpa using z
            subst this
            intro e
            exact Dfp (by rw [show s2.heap.objs.size = b from e]; exact hb)
        have fin := T.done X' eP eW eK eC i _ s3 (cmpSt O cap σ) H3 (fun _ _ => False) J3 fpJ st3 stop
        rw [eA] at fin
        refine thn fin fun r s4 ⟨hr, J4⟩ => ?_
        subst hr
        exact hk (J4.pins_of fun p hp => absurd hp (by simp)) (J4.pin (s2.heap.objs.size, { cls := .type "list", data := .seq us.toArray k }) (List.mem_append_right _ (List.mem_singleton.mpr rfl))).1
      · have J3 : Inv X' (pinsAt [s2.heap.objs.size] s3.heap) (cmpSt O cap σ) H3 s3 := by
          have := I3'.pinned (fp := [s2.heap.objs.size]) (fun b hb => fpok fr3 b (by simp at hb; simp [hb])) (fun b hb => by
            have e : b = s2.heap.objs.size := by simpa using hb
            subst e
            exact ⟨_, o3, fun v z => by cases z⟩)
          simpa using this
        have fpJ : ∀ b ∈ fp, FpOk X' (pinsAt [s2.heap.objs.size] s3.heap) H3 b := fun b hb => by
          obtain ⟨f0, f1, f3, f4, f5, f6⟩ := fpI b hb
          refine ⟨f0, f1, f3, f4, f5, fun p hp => ?_⟩
          rcases List.mem_append.mp hp with z | z
          · exact f6 p (List.mem_append_left _ z)
          · have := (of_pinsAt z).1
            have e' : p.1 = s2.heap.objs.size := by simpa using this
            intro e
            exact Dfp (by rw [← e', e]; exact hb)
        have it3 := T.item X' eP eW eK eC i _ s3 (cmpSt O cap σ) H3 (fun _ _ => False) J3 fpJ st3 go
        rw [eA] at it3
        refine thn it3 fun r s4 ⟨u, hr, h4⟩ => ?_
        subst hr
        refine thn h4 fun _ s5 ⟨x, H5, I5, r5, y5, st5, fr5⟩ => ?_
        have o5 : s5.heap.get? s2.heap.objs.size = some { cls := .type "list", data := .seq us.toArray k } := (I5.pin (_, _) (List.mem_append_right _ (mem_pinsAt (by simp) o3))).1
        have d5 : H5 s2.heap.objs.size = none := (I5.pin (_, _) (List.mem_append_right _ (mem_pinsAt (by simp) o3))).2.1
        have fr5' : ∀ b ∈ s2.heap.objs.size :: fp, H5 b = none := fun b hb => (List.mem_cons.mp hb).elim (fun z => by rw [z]; exact d5) (fr5 b)
        have I5' : Inv X' (pinsAt (s2.heap.objs.size :: fp) s5.heap) (cmpSt O cap σ) H5 s5 := by
          have := (I5.pins_of (pins' := []) fun p hp => absurd hp (by simp)).pinned (fp := s2.heap.objs.size :: fp) (fpok fr5') (fun b hb => by
            rcases List.mem_cons.mp hb with e | hb
            · subst e
              exact ⟨_, o5, fun v z => by cases z⟩
            · exact T.obj _ _ st5 b hb)
          simpa using this
        have a5 := hg' _ s5 (cmpSt O cap σ) H5 x u _ I5' r5 (ho _ _ _ _ (step x H5 y5))
        rw [eP, eW, eA, eE, eX] at a5
        refine thn a5 fun _ s6 ⟨σ6, H6, I6, ⟨l6, w6⟩, q6⟩ => ?_
        have t6 := ht' _ s6 σ6 H6 _ I6 q6
        rw [eP, eW, eA, eE, eX] at t6
        refine thn t6 fun ok s7 ⟨H7, I7, q7⟩ => ?_
        -- behind the turn
        have back : ∀ {σ8 : St} {H8 : Hp} {s8 : Shared}, σ8.length = (cmpSt O cap σ).length → Inv X' (pinsAt (s2.heap.objs.size :: fp) s5.heap) σ8 H8 s8 → (∀ (j : Nat) v, (cmpSt O cap σ)[j]? = some (some v) → σ8[j]? = some (some v)) →
            Inv X' [] (cmpSt O cap σ) H8 s8 ∧ tn (i + 1) s8.heap ∧ (∀ b ∈ s2.heap.objs.size :: fp, H8 b = none) ∧ s8.heap.get? s2.heap.objs.size = some { cls := .type "list", data := .seq us.toArray k } := fun {σ8 H8 s8} hl I8 hw => by
          have pin8 : ∀ b ∈ s2.heap.objs.size :: fp, ∀ o, s5.heap.get? b = some o → s8.heap.get? b = some o ∧ H8 b = none := fun b hb o e => by
            have := I8.pin (b, o) (List.mem_append_right _ (mem_pinsAt hb e))
            exact ⟨this.1, this.2.1⟩
          refine ⟨(I8.pins_of fun p hp => absurd hp (by simp)).weak hl.symm hw, T.keep _ _ _ st5 fun b hb o e => (pin8 b (List.mem_cons_of_mem _ hb) o e).1, fun b hb => ?_, (pin8 _ List.mem_cons_self _ o5).1⟩
          rcases List.mem_cons.mp hb with e | hb'
          · exact (pin8 b hb _ (by rw [e]; exact o5)).2
          · obtain ⟨o, e, _⟩ := T.obj _ _ st5 b hb'
            exact (pin8 b hb o e).2
        have w6' : ∀ (j : Nat) v, (cmpSt O cap σ)[j]? = some (some v) → σ6[j]? = some (some v) := fun j v e => by
          by_cases hj : O.length ≤ j
          · rw [w6 j hj]; exact e
          · exfalso
            unfold cmpSt at e
            rw [List.getElem?_append_left (by simpa using Nat.not_le.mp hj), List.getElem?_map] at e
            cases q : O[j]? with
            | none => rw [q] at e; cases e
            | some z => rw [q] at e; cases e
        cases ok with
        | false =>
          rw [if_neg Bool.false_ne_true] at q7 ⊢
          obtain ⟨m', hm, w7⟩ := hNN _ _ q7
          obtain ⟨b1, b2, b3, b4⟩ := back l6 I7 w6'
          exact ⟨m', hm, i + 1, ys, us, k, H7, b1, b2, b3, b4, rv3, w7⟩
        | true =>
          rw [if_pos rfl] at q7 ⊢
          have e7 := he' _ s7 σ6 H7 _ I7 q7
          rw [eP, eW, eA, eE, eX] at e7
          refine thn e7 fun y s8 ⟨z, H8, I8, r8, q8⟩ => ?_
          obtain ⟨m', hm, w8⟩ := hNN _ _ q8
          obtain ⟨b1, b2, b3, b4⟩ := back l6 I8 w6'
          have hzs : us.toArray.size ≤ sizeLine := by rw [List.size_toArray, ← rv3.length]; exact hz
          refine append_at (hsz := hzs) b4 fun h9 hs9 hD9 => ?_
          obtain ⟨f0, f1, f2', f3, f4, f5⟩ := fpok b3 s2.heap.objs.size List.mem_cons_self
          have I9 : Inv X' [] (cmpSt O cap σ) H8 { s8 with heap := h9 } := b1.turned (t' := s8.toks) (fun b o hb e => (hs9.2 b hb).trans e) f0 f1 f3 f4 f5
          refine ⟨m', hm, i + 1, ys ++ [z], us ++ [y], k + 1, H8, I9, T.keep _ _ _ b2 fun b hb o e => (hs9.2 b fun q => Dfp (by rw [← q]; exact hb)).trans e, b3, ?_, rv3.snoc r8, w8⟩
          rw [hD9, List.push_toArray]
    · rcases List.mem_cons.mp hb with e | hb
      · rw [e]; exact I2.hok.fresh (Nat.le_refl _)
      · exact (f2 b hb).1
  exact codeAny_compStart_list (loop _ rfl) (T.self _ 0 _ _ _ (T.keep _ _ _ st2 (fun b _ o e => k1 b o (k0 b o e))) (loop _ rfl))
/-- x = [elt for tg in iter if ..] -/
theorem ps_setc {i : Nat} {x : Str} {pos' spos : Pos} (hN : X.N.Nodup) (hix : X.N[i]? = some x) (hx : Loc X.env.scope x) (hc : X.calm = true) (S : CmpScope X.N X.env.scope O F cap scope) (hi : PI X tg iter wi)
    (hg : ∀ cl C ex s H, PG (cxComp X (O ++ F) scope cl C ex s H) tg g) (ht : ∀ cl C ex s H, PTs (cxComp X (O ++ F) scope cl C ex s H) ifs tt) (he : ∀ cl C ex s H, PE (cxComp X (O ++ F) scope cl C ex s H) elt te)
    (ho : Own O.length g) (hsw : swapsWith (.ListComp elt [⟨tg, iter, ifs, 0⟩] scope pos) (some (.Name x pos')) spos.line X.env = pure true := by rfl) (hs : ∀ x, foldedSetIterable iter X.env x = pure x := by intro _; rfl)
    (hf : X.fn x = true ∨ X.env.scope.names.lookup x = some .local := by first | exact .inl rfl | exact .inr rfl | assumption) :
    PS X (.Assign [.Name x pos'] (.ListComp elt [⟨tg, iter, ifs, 0⟩] scope pos) spos) (tAsg (tComp wi O cap g tt te) (gName i)) := by
  intro pins s σ H D I h
  rw [exec_Assign_Name_used _ _ _ _ hsw]
  refine wpAny_bind (wpAny_standAt (wpAny_bind ?_))
  show wpAny _ X.A (do let _ ← comprehension (.ListComp elt [⟨tg, iter, ifs, 0⟩] scope pos) scope X.env _ (newList []) false (eval iter X.env) (some (assign (.Name x pos') X.env))) _ _ s
  refine wpAny_bind (wpAny_mono (comp_core (R := fun _ s' => SP X pins D .next s') hc S hi hg ht he ho hs I h ?_) (fun _ s' hq => wpAny_pure (wpAny_pure hq)) fun _ _ e => e)
  intro s4 D' C H4 ys ⟨m, hm⟩ hDC hI fp q
  show wpAny (model X.prog X.w) X.A (assign (.Name x pos') X.env (.ref D')) (fun _ s'' => ∃ m, s''.heap.Ns C m ∧ ∀ h', Heap.SameBut C s''.heap h' → SP X pins D .next { s'' with heap := h' }) X.xe s4
  obtain ⟨f0, f1, f2, f3, f4, f5⟩ := fp
  refine wpAny_assign_Name (store_ok2 (v := .ref D') (hI s4.heap ⟨rfl, fun _ _ => rfl⟩) hN hix hx rfl (fun s5 I5 z => ?_) hf)
  obtain ⟨a, sb, ha⟩ := z
  have hCa : C ≠ a := by
    rcases ha with e | e
    · rw [e]; exact f1
    · exact Ne.symm (f4 x a e)
  refine ⟨m, hm.sameBut sb hCa, fun h' sb' => ?_⟩
  exact ⟨_, upd H4 D' (.lst ys), I5.turned (t' := s5.toks) (fun b o hb e => (sb'.2 b hb).trans e) f0 f1 f3 f4 f5, q⟩
end
end L2
namespace L2
open PySem PySem.Spec PyProof.Rows
/-- data that == may be asked of -/
structure Dat (d : PyData) : Prop where
  lay : d.canLay0 = true
  dep : d.depth ≤ 64
end L2
namespace L2
open PySem PySem.Spec PyProof.Rows
end L2
namespace L2
open PySem PySem.Spec PyProof.Rows
section
variable {X : Cx} {a b c d : Expr} {ta tb tc td : TE} {pos : Pos}
def tChain3 (r1 r2 r3 : R2) (ta tb tc td : TE) : TE := fun σ H Q => ta σ H fun x H1 => tb σ H1 fun y H2 => r1 x y H2 fun z H3 => ∃ k, z = .bl k ∧
  (if k = true then tc σ H3 fun w' H4 => r2 y w' H4 fun z' H5 => ∃ k', z' = .bl k' ∧ (if k' = true then td σ H5 fun v H6 => r3 w' v H6 Q else Q (.bl false) H5) else Q (.bl false) H3)
theorem pe_chain3 {op op' op'' : CmpOp} {r1 r2 r3 : R2} (ho : OpR X (compareOp op) r1) (ho' : OpR X (compareOp op') r2) (ho'' : OpR X (compareOp op'') r3) (ha : PE X a ta) (hb : PE X b tb) (hc : PE X c tc) (hd : PE X d td)
    (hm : lastMarks [op, op', op''] [b, c, d] = false := by with_unfolding_all rfl) : PE X (.Compare a [op, op', op''] [b, c, d] pos) (tChain3 r1 r2 r3 ta tb tc td) := by
  intro pins s σ H Q I h
  refine Compare_chain (thn (ha pins s σ H _ I h) fun v s1 ⟨x, H1, I1, r1, q1⟩ => chain_link (thn (hb pins s1 σ H1 _ I1 q1) fun u s2 ⟨y, H2, I2, r2, q2⟩ =>
    thn (ho pins s2 σ H2 x y v u _ I2 r1 r2 q2) fun d s3 ⟨z, H3, I3, r3, k, e, q3⟩ => ?_)) hm
  subst e
  cases r3
  refine wpAny_truthy_bool ?_
  cases k with
  | false => exact ite_ff ⟨.bl false, H3, I3, rfl, q3⟩
  | true =>
    refine ite_tt (chain_link (thn (hc pins s3 σ H3 _ I3 q3) fun w' s4 ⟨z', H4, I4, r4, q4⟩ => thn (ho' pins s4 σ H4 y z' u w' _ I4 r2 r4 q4) fun d' s5 ⟨z2, H5, I5, r5, k2, e2, q5⟩ => ?_))
    subst e2
    cases r5
    refine wpAny_truthy_bool ?_
    cases k2 with
    | false => exact ite_ff ⟨.bl false, H5, I5, rfl, q5⟩
    | true => exact ite_tt (chain_last (thn (hd pins s5 σ H5 _ I5 q5) fun v' s6 ⟨z3, H6, I6, r6, q6⟩ => ho'' pins s6 σ H6 z' z3 w' v' Q I6 r4 r6 q6))
end
end L2
namespace L2
open PySem PySem.Spec PyProof.Rows PySem.W
theorem weight_ints : ∀ {ns : List Int} {n : Int}, n ∈ ns → Builtin.Int.intBits n ≤ WData.weightAll (ns.map WData.int)
  | m :: ns, n, h => by
    simp only [List.map_cons, WData.weightAll]
    rcases List.mem_cons.mp h with rfl | h
    · have : Builtin.Int.intBits n = WData.weight (.int n) := by simp [WData.weight, Builtin.Int.intBits]
      omega
    · have := weight_ints h
      omega
/-- the same, each number of the script with its bits -/
theorem walk_ofB {l : PySem.W.OpenLaw} {n k : Nat} {q : Program} {loose : List Str} {XP : (Str → Option Value) → Heap → Prop} {YP : World → Heap → Prop} {d : DefRec} {K : Params → PySem.W.Frag} {CX : World → CXT} {sp : World → Sp} {x : Str}
    (hn : l.most = some n) (hn2 : n ≤ sizeLine) (hdf : d.params.defaults = []) (hr : Room k callerA)
    (hY : ∀ (w : World) (h : Heap), YP w h → (K w.params).In h)
    (F : ∀ (w : World) (mg : Str → Option Value) (fa : Addr) (h : Heap), (K w.params).In h → h.Ns mainGlobals mg → mg d.name = some (.ref fa) →
      ∃ fd : FuncData, (∀ (s : Shared) (u : Value), BindsTo s fd ⟨[u], []⟩ [(x, u)]) ∧
        ∀ base : Heap, (K w.params).In base → base.Ns mainGlobals mg → FnOk l.prog w (K w.params) mg base (CX w) k fa fd [x] (sp w))
    (hsp : ∀ (w : World) (H : Hp) (a : Addr) (ns : List Int), ns.length ≤ n → (∀ m ∈ ns, Builtin.Int.intBits m ≤ 2 ^ 20) → Only H → SqL (K w.params) H a (ns.map V.int) → sp w [.ref a] H (fun v _ => v = .bl true) fun _ _ _ => False)
    (hCX : ∀ (w : World) (H : Hp) (s : Shared) (e : Value) (s' : Shared), CX w [] H s (fun _ _ _ => False) e s' → False) :
    PySem.W.WalkO q loose XP YP l.row.toRowW d [] (fun f vs => PySem.call f vs) := by
  intro w s₀ s₁ mg mb G Y fa o pm cd doc dV kV ho hd hcd hD hmg hg args vals as hpre hlay hrd hwl hlo
  obtain rfl : dV = .none := Dflts.none hD hdf
  obtain rfl : kV = .none := Dflts.noKw hD
  obtain ⟨a, vs, ns, rfl, rfl, hobj, hints, hlen⟩ := Att.script_of hn hpre hwl
  have KX := hY w _ Y
  obtain ⟨fd, hb, hF⟩ := F w mg fa _ KX G.T.g hmg
  have hbits : ∀ m ∈ ns, Builtin.Int.intBits m ≤ 2 ^ 20 := fun m hm => by
    have h1 := (layableW_iff.mp (layW_cons hlay).1).2.2
    have h2 := weight_ints hm
    have e : WData.weight (.list (ns.map WData.int)) = WData.weightAll (ns.map WData.int) := by simp [WData.weight]
    rw [e] at h1
    exact Nat.le_trans h2 h1
  refine PySem.W.enter_call (codeAny_mono (law_call KX G.T.g G.T.b G.T.builtins G.T.nolimit hg hobj hints (Nat.le_trans hlen hn2) hr hF hb (fun H hO hS => hsp w H a ns hlen hbits hO hS) fun H e s' => hCX w H s₁ e s') fun r s' hq => ?_)
  obtain ⟨rfl, h2, h3, h4⟩ := hq
  exact ⟨.inl ⟨.bool true, .bool true, [], rfl, fun _ => rfl, .bool true, Att.post_true l _, fun _ => ⟨List.Pairwise.nil, fun _ hm => (nomatch hm)⟩⟩, h2, h3, h4⟩
end L2
namespace L2
open PySem PySem.Spec PyProof.Rows
section
variable {α β : Type} {F G : α → β → Prop}
theorem pd_imp (h : ∀ a b, F a b → G a b) : ∀ {l : List α} {m : List β}, Paired F l m → Paired G l m
  | _, _, .nil => .nil
  | _, _, .cons a t => .cons (h _ _ a) (pd_imp h t)
theorem pd_get : ∀ {l : List α} {m : List β} {i : Nat} {a : α}, Paired F l m → l[i]? = some a → ∃ b, m[i]? = some b ∧ F a b
  | _, _, _, _, .nil, e => by simp at e
  | _, _, 0, _, .cons h _, e => by simp at e; subst e; exact ⟨_, rfl, h⟩
  | _, _, i + 1, a, .cons _ t, e => by
    obtain ⟨b, h1, h2⟩ := pd_get (i := i) (a := a) t (by simpa using e)
    exact ⟨b, by simpa using h1, h2⟩
theorem pd_getR : ∀ {l : List α} {m : List β} {i : Nat} {b : β}, Paired F l m → m[i]? = some b → ∃ a, l[i]? = some a ∧ F a b
  | _, _, _, _, .nil, e => by simp at e
  | _, _, 0, _, .cons h _, e => by simp at e; subst e; exact ⟨_, rfl, h⟩
  | _, _, i + 1, b, .cons _ t, e => by
    obtain ⟨a, h1, h2⟩ := pd_getR (i := i) (b := b) t (by simpa using e)
    exact ⟨a, by simpa using h1, h2⟩
theorem pd_len : ∀ {l : List α} {m : List β}, Paired F l m → l.length = m.length
  | _, _, .nil => rfl
  | _, _, .cons _ t => by simp [pd_len t]
theorem pd_app : ∀ {l l' : List α} {m m' : List β}, Paired F l m → Paired F l' m' → Paired F (l ++ l') (m ++ m')
  | _, _, _, _, .nil, s => s
  | _, _, _, _, .cons h t, s => .cons h (pd_app t s)
theorem pd_take : ∀ {l : List α} {m : List β} (n : Nat), Paired F l m → Paired F (l.take n) (m.take n)
  | _, _, 0, _ => .nil
  | _, _, _ + 1, .nil => .nil
  | _, _, n + 1, .cons r t => .cons r (pd_take n t)
theorem pd_drop : ∀ {l : List α} {m : List β} (n : Nat), Paired F l m → Paired F (l.drop n) (m.drop n)
  | _, _, 0, r => r
  | _, _, _ + 1, .nil => .nil
  | _, _, n + 1, .cons _ t => pd_drop n t
theorem pd_set {a : α} {b : β} (r : F a b) : ∀ {l : List α} {m : List β} (i : Nat), Paired F l m → Paired F (l.set i a) (m.set i b)
  | _, _, _, .nil => .nil
  | _, _, 0, .cons _ t => .cons r t
  | _, _, i + 1, .cons q t => .cons q (pd_set r i t)
theorem pd_map {γ : Type} {f : γ → α} {l : List γ} {m : List β} (h : Paired (fun c b => F (f c) b) l m) : Paired F (l.map f) m := by
  induction h with
  | nil => exact .nil
  | cons r _ ih => exact .cons r ih
theorem pd_unmap {γ : Type} {f : γ → α} : ∀ {l : List γ} {m : List β}, Paired F (l.map f) m → Paired (fun c b => F (f c) b) l m
  | [], _, .nil => .nil
  | _ :: _, _, .cons r t => .cons r (pd_unmap t)
end
mutual
inductive Rq (K : PySem.W.Frag) (F : Hp) : V → PyData → Prop
  | non : Rq K F .non .none
  | bl (b : Bool) : Rq K F (.bl b) (.bool b)
  | int (i : Int) : Rq K F (.int i) (.int i)
  | str (x : Str) : Rq K F (.str x) (.str x)
  | lst {a : Addr} {vs : List V} {ds : List PyData} : Rd F a (.lst vs) → Rqs K F vs ds → Rq K F (.ref a) (.list ds)
  | tup {a : Addr} {vs : List V} {ds : List PyData} : SqT K F a vs → Rqs K F vs ds → Rq K F (.ref a) (.tuple ds)
  | dct {a : Addr} {kvs : List (Key × V)} {xs : List (PyData × PyData)} : F a = some (.dK kvs) → kvs.isEmpty = xs.isEmpty → Rq K F (.ref a) (.dict xs)
inductive Rqs (K : PySem.W.Frag) (F : Hp) : List V → List PyData → Prop
  | nil : Rqs K F [] []
  | cons {v : V} {d : PyData} {vs : List V} {ds : List PyData} : Rq K F v d → Rqs K F vs ds → Rqs K F (v :: vs) (d :: ds)
end
theorem Same.rd {H H' : Hp} {a : Addr} {u : HO} (e : Same H H') (h : Rd H a u) : Rd H' a u := by
  rcases h with h | ⟨o, h⟩
  · exact .inl (e _ _ h)
  · exact .inr ⟨o, e _ _ h⟩
theorem Same.seqT {K : PySem.W.Frag} {H H' : Hp} {a : Addr} {xs : List V} (e : Same H H') (h : SqT K H a xs) : SqT K H' a xs := by
  rcases h with (h | ⟨o, h⟩) | h
  · exact .inl (.inl (e _ _ h))
  · exact .inl (.inr ⟨o, e _ _ h⟩)
  · exact .inr h
mutual
theorem Rq.same {K : PySem.W.Frag} {H H' : Hp} (s : Same H H') : ∀ (d : PyData) {v : V}, Rq K H v d → Rq K H' v d
  | .none, _, .non => .non
  | .bool _, _, .bl b => .bl b
  | .int _, _, .int i => .int i
  | .str _, _, .str x => .str x
  | .list ds, _, .lst e r => .lst (s.rd e) (Rqs.same s ds r)
  | .tuple ds, _, .tup e r => .tup (s.seqT e) (Rqs.same s ds r)
  | .dict _, _, .dct e h => .dct (s _ _ e) h
theorem Rqs.same {K : PySem.W.Frag} {H H' : Hp} (s : Same H H') : ∀ (ds : List PyData) {vs : List V}, Rqs K H vs ds → Rqs K H' vs ds
  | [], _, .nil => .nil
  | d :: ds, _, .cons r t => .cons (Rq.same s d r) (Rqs.same s ds t)
end
theorem Rqs.pd {K : PySem.W.Frag} {H : Hp} : ∀ {vs : List V} {ds : List PyData}, Rqs K H vs ds → Paired (fun d v => Rq K H v d) ds vs
  | _, _, .nil => .nil
  | _, _, .cons r t => .cons r (Rqs.pd t)
theorem Rqs.of {K : PySem.W.Frag} {H : Hp} : ∀ {ds : List PyData} {vs : List V}, Paired (fun d v => Rq K H v d) ds vs → Rqs K H vs ds
  | _, _, .nil => .nil
  | _, _, .cons r t => .cons r (Rqs.of t)
/-- a value that some data may be read of: a text ... -/
theorem Rq.of_str {K : PySem.W.Frag} {H : Hp} {v : V} {x : Str} (r : Rq K H v (.str x)) : v = .str x := by cases r; rfl
theorem Rq.of_int {K : PySem.W.Frag} {H : Hp} {v : V} {x : Int} (r : Rq K H v (.int x)) : v = .int x := by cases r; rfl
theorem Rq.of_bl {K : PySem.W.Frag} {H : Hp} {v : V} {x : Bool} (r : Rq K H v (.bool x)) : v = .bl x := by cases r; rfl
theorem Rq.of_tup {K : PySem.W.Frag} {H : Hp} {v : V} {ds : List PyData} (r : Rq K H v (.tuple ds)) : ∃ a vs, v = .ref a ∧ SqT K H a vs ∧ Paired (fun d v => Rq K H v d) ds vs := by
  cases r with
  | tup h t => exact ⟨_, _, rfl, h, t.pd⟩
theorem Rq.of_lst {K : PySem.W.Frag} {H : Hp} {v : V} {ds : List PyData} (r : Rq K H v (.list ds)) : ∃ a vs, v = .ref a ∧ Rd H a (.lst vs) ∧ Paired (fun d v => Rq K H v d) ds vs := by
  cases r with
  | lst h t => exact ⟨_, _, rfl, h, t.pd⟩
mutual
theorem Rq.reads {X : Cx} {pins : List (Addr × Obj)} {σ : St} {H : Hp} {s : Shared} (I : Inv X pins σ H s) : ∀ (d : PyData) {v : V} {u : Value}, d.canLay0 = true → Rq X.K H v d → RelV v u → ∃ as, Reads s.heap u d as
  | .none, _, _, _, .non, r => by cases r; exact ⟨_, .none⟩
  | .bool _, _, _, _, .bl b, r => by cases r; exact ⟨_, .bool b⟩
  | .int _, _, _, _, .int i, r => by obtain ⟨t, rfl⟩ := r; exact ⟨_, .int i t⟩
  | .str _, _, _, _, .str x, r => by obtain ⟨t, rfl⟩ := r; exact ⟨_, .str x t⟩
  | .list ds, _, _, c, .lst e q, r => by
    cases r
    obtain ⟨its, rv, ⟨o, n, ho, hc, _, hd⟩, _⟩ := I.list (.inl e)
    obtain ⟨as, h⟩ := Rqs.reads I ds (by simpa [PyData.canLay0] using c) q rv
    exact ⟨_, .list ho hc hd (by simpa using h)⟩
  | .tuple ds, _, _, c, .tup e q, r => by
    cases r
    obtain ⟨its, rv, ⟨o, ho, hc, n, hd⟩, _⟩ := I.tuple e
    obtain ⟨as, h⟩ := Rqs.reads I ds (by simpa [PyData.canLay0] using c) q rv
    exact ⟨_, .tuple ho hc hd (by simpa using h)⟩
  | .dict _, _, _, c, .dct e _, r => by simp [PyData.canLay0] at c
theorem Rqs.reads {X : Cx} {pins : List (Addr × Obj)} {σ : St} {H : Hp} {s : Shared} (I : Inv X pins σ H s) : ∀ (ds : List PyData) {vs : List V} {us : List Value}, PyData.canLayAll0 ds = true → Rqs X.K H vs ds → Vals vs us → ∃ as, ReadsAll s.heap us ds as
  | [], _, _, _, .nil, r => by cases r; exact ⟨_, .nil⟩
  | d :: ds, _, _, c, .cons q t, r => by
    cases r with
    | cons r1 r2 =>
      simp [PyData.canLayAll0] at c
      obtain ⟨as, h⟩ := Rq.reads I d c.1 q r1
      obtain ⟨bs, h'⟩ := Rqs.reads I ds c.2 t r2
      exact ⟨_, .cons h h'⟩
end
end L2
namespace L2
open PySem PySem.Spec PyProof.Rows
inductive El where
  | d (x : PyData)
  | o (k : Nat)
  /-- the script -/
  | s (ns : List Int)
  /-- an exception that is kept, of the class at C -/
  | x (C : Addr)
  /-- a tuple of numbers and texts that is made here: a key -/
  | p (ks : List Key)
  /-- a tuple of data and of objects that are changed -/
  | t (xs : List (Sum PyData Nat))
  /-- a def of the text, as a value -/
  | f (a : Addr)
inductive OD where
  | lst (xs : List El)
  | dK (kvs : List (Key × El))
  | dT (kvs : List (List Key × El))
  /-- such a dict while it is walked: nobody changes it -/
  | fT (o : Obj) (kvs : List (List Key × El))
  | fK (o : Obj) (kvs : List (Key × El))
  /-- any other thing: what is true of its address and its one object -/
  | x (φ : PySem.W.Frag → Hp → Addr → (Heap → Prop) → Prop)
abbrev Wl := List OD
abbrev Sl := List (Option El)
/-- an exception that is kept -/
def excO (a C : Addr) : HO := .ext fun h => ∃ o, h.get? a = some o ∧ o.cls = .ref C
/-- what stands in such a tuple -/
def TiR (K : PySem.W.Frag) (F : Hp) (A : List Addr) : Sum PyData Nat → V → Prop
  | .inl d, v => Rq K F v d
  | .inr k, v => ∃ a, A[k]? = some a ∧ v = .ref a
def ElR (K : PySem.W.Frag) (F : Hp) (A : List Addr) : El → V → Prop
  | .d x, v => Rq K F v x
  | .o k, v => ∃ a, A[k]? = some a ∧ v = .ref a
  | .s ns, v => ∃ a, v = .ref a ∧ SqL K F a (ns.map V.int)
  | .x C, v => ∃ a, v = .ref a ∧ F a = some (excO a C)
  | .p ks, v => ∃ a, v = .ref a ∧ F a = some (.tup (ks.map kV))
  | .f a, v => v = .ref a
  | .t xs, v => ∃ a vs, v = .ref a ∧ F a = some (.tup vs) ∧ Paired (TiR K F A) xs vs
theorem ElR.dd {K : PySem.W.Frag} {F : Hp} {A : List Addr} {x : PyData} {v : V} (h : Rq K F v x) : ElR K F A (.d x) v := h
theorem ElR.oo {K : PySem.W.Frag} {F : Hp} {A : List Addr} {k : Nat} {a : Addr} (h : A[k]? = some a) : ElR K F A (.o k) (.ref a) := ⟨a, h, rfl⟩
/-- the keys of the raw dict o, known tuples -/
def KeysIn (F : Hp) (o : Obj) (ks : List (List Key)) : Prop := ∃ es ep, o.ExactDict ∧ o.data = .dict es ep ∧ es.size = ks.length ∧ ∀ (i : Nat) k, ks[i]? = some k → ∃ en b, es[i]? = some en ∧ en.key = .ref b ∧ F b = some (.tup (k.map kV))
theorem KeysIn.same {F F' : Hp} {o : Obj} {ks : List (List Key)} (h : KeysIn F o ks) (s : Same F F') : KeysIn F' o ks := by
  obtain ⟨es, ep, h1, h2, h3, h4⟩ := h
  refine ⟨es, ep, h1, h2, h3, fun i k hk => ?_⟩
  obtain ⟨en, b, e1, e2, e3⟩ := h4 i k hk
  exact ⟨en, b, e1, e2, s _ _ e3⟩
def OdR (K : PySem.W.Frag) (F : Hp) (A : List Addr) (a : Addr) : OD → HO → Prop
  | .lst es, h => ∃ vs, h = .lst vs ∧ Paired (ElR K F A) es vs
  | .dK kvs, h => ∃ vs, h = .dK vs ∧ Paired (fun p q => p.1 = q.1 ∧ ElR K F A p.2 q.2) kvs vs
  | .dT kvs, h => ∃ vs, h = .dT vs ∧ Paired (fun p q => p.1 = q.1 ∧ ElR K F A p.2 q.2) kvs vs
  | .fT o kvs, h => ∃ vs, (h = .frz o (.dT vs) ∧ KeysIn F o (kvs.map (·.1))) ∧ Paired (fun p q => p.1 = q.1 ∧ ElR K F A p.2 q.2) kvs vs
  | .fK o kvs, h => ∃ vs, h = .frz o (.dK vs) ∧ Paired (fun p q => p.1 = q.1 ∧ ElR K F A p.2 q.2) kvs vs
  | .x φ, h => ∃ ψ, h = .ext ψ ∧ ∃ F0, Same F0 F ∧ φ K F0 a ψ
structure RW (K : PySem.W.Frag) (F : Hp) (A : List Addr) (W : Wl) (H : Hp) : Prop where
  sub : Same F H
  len : A.length = W.length
  nd : A.Nodup
  out : ∀ a ∈ A, F a = none
  obj : ∀ (k : Nat) a o, A[k]? = some a → W[k]? = some o → ∃ h, H a = some h ∧ OdR K F A a o h
structure SR (K : PySem.W.Frag) (F : Hp) (A : List Addr) (S : Sl) (σ : St) : Prop where
  len : S.length = σ.length
  get : ∀ (i : Nat) e, S[i]? = some (some e) → ∃ v, σ[i]? = some (some v) ∧ ElR K F A e v
structure Ext (F : Hp) (A : List Addr) (F' : Hp) (A' : List Addr) : Prop where
  same : Same F F'
  pre : A <+: A'
section
variable {K : PySem.W.Frag} {F F' F1 F2 : Hp} {A A' A1 A2 : List Addr} {W W' : Wl} {H H' : Hp}
theorem Ext.refl : Ext F A F A := ⟨.refl _, List.prefix_refl _⟩
theorem Ext.trans (a : Ext F A F1 A1) (b : Ext F1 A1 F2 A2) : Ext F A F2 A2 := ⟨a.same.trans b.same, a.pre.trans b.pre⟩
theorem pre_get {A A' : List Addr} (h : A <+: A') {k : Nat} {a : Addr} (e : A[k]? = some a) : A'[k]? = some a := by
  obtain ⟨r, rfl⟩ := h
  rw [List.getElem?_append_left (by obtain ⟨q, _⟩ := List.getElem?_eq_some_iff.mp e; exact q)]
  exact e
theorem TiR.ext (x : Ext F A F' A') : ∀ {e : Sum PyData Nat} {v : V}, TiR K F A e v → TiR K F' A' e v
  | .inl _, _, h => Rq.same x.same _ h
  | .inr _, _, ⟨a, h, r⟩ => ⟨a, pre_get x.pre h, r⟩
theorem ElR.ext (x : Ext F A F' A') : ∀ {e : El} {v : V}, ElR K F A e v → ElR K F' A' e v
  | .d _, _, h => Rq.same x.same _ h
  | .o _, _, ⟨a, h, r⟩ => ⟨a, pre_get x.pre h, r⟩
  | .s _, _, ⟨a, h, r⟩ => ⟨a, h, x.same.seq r⟩
  | .x _, _, ⟨a, h, r⟩ => ⟨a, h, x.same _ _ r⟩
  | .p _, _, ⟨a, h, r⟩ => ⟨a, h, x.same _ _ r⟩
  | .f _, _, h => h
  | .t _, _, ⟨a, vs, h, r, p⟩ => ⟨a, vs, h, x.same _ _ r, pd_imp (fun _ _ z => z.ext x) p⟩
theorem OdR.ext (x : Ext F A F' A') {a : Addr} : ∀ {o : OD} {h : HO}, OdR K F A a o h → OdR K F' A' a o h
  | .lst _, _, ⟨vs, e, p⟩ => ⟨vs, e, pd_imp (fun _ _ r => r.ext x) p⟩
  | .dK _, _, ⟨vs, e, p⟩ => ⟨vs, e, pd_imp (fun _ _ r => ⟨r.1, r.2.ext x⟩) p⟩
  | .dT _, _, ⟨vs, e, p⟩ => ⟨vs, e, pd_imp (fun _ _ r => ⟨r.1, r.2.ext x⟩) p⟩
  | .fT _ _, _, ⟨vs, ⟨e, ki⟩, p⟩ => ⟨vs, ⟨e, ki.same x.same⟩, pd_imp (fun _ _ r => ⟨r.1, r.2.ext x⟩) p⟩
  | .fK _ _, _, ⟨vs, e, p⟩ => ⟨vs, e, pd_imp (fun _ _ r => ⟨r.1, r.2.ext x⟩) p⟩
  | .x _, _, ⟨ψ, e, F0, s, p⟩ => ⟨ψ, e, F0, s.trans x.same, p⟩
theorem SR.ext {S : Sl} {σ : St} (r : SR K F A S σ) (x : Ext F A F' A') : SR K F' A' S σ := ⟨r.len, fun i e h => by
  obtain ⟨v, h1, h2⟩ := r.get i e h
  exact ⟨v, h1, h2.ext x⟩⟩
theorem SR.set {S : Sl} {σ : St} (r : SR K F A S σ) {e : El} {v : V} (h : ElR K F A e v) (i : Nat) : SR K F A (S.set i (some e)) (σ.set i (some v)) := ⟨by simp [r.len], fun j e' q => by
  by_cases hj : i = j
  · subst hj
    have hi : i < S.length := by
      have := (List.getElem?_eq_some_iff.mp q).1
      simpa using this
    rw [List.getElem?_set_self hi] at q
    cases q
    exact ⟨v, by rw [List.getElem?_set_self (by rw [← r.len]; exact hi)], h⟩
  · rw [List.getElem?_set_ne hj] at q
    obtain ⟨v', h1, h2⟩ := r.get j e' q
    exact ⟨v', by rw [List.getElem?_set_ne hj]; exact h1, h2⟩⟩
/-- an object stands alone -/
theorem RW.notin (r : RW K F A W H) {p : Addr} (h : H p = none) : p ∉ A := fun z => by
  obtain ⟨k, hk⟩ := List.mem_iff_getElem?.mp z
  have hl : k < W.length := by rw [← r.len]; exact (List.getElem?_eq_some_iff.mp hk).1
  obtain ⟨o, e, _⟩ := r.obj k p W[k] hk (by simp [hl])
  rw [h] at e
  cases e
theorem upd_same' {F : Hp} {p : Addr} {o : HO} (h : F p = none) : Same F (upd F p o) := fun b o' e => by rw [upd_ne (ne_of_none e h)]; exact e
theorem upd_mono {F H : Hp} (s : Same F H) {p : Addr} {o : HO} : Same (upd F p o) (upd H p o) := fun b o' e => by
  by_cases hb : b = p
  · subst hb; rw [upd_same] at e ⊢; exact e
  · rw [upd_ne hb] at e ⊢; exact s _ _ e
/-- a new thing that nobody changes -/
theorem RW.newF (r : RW K F A W H) {p : Addr} (h : H p = none) (o : HO) : RW K (upd F p o) A W (upd H p o) ∧ Ext F A (upd F p o) A := by
  have hp := r.notin h
  have x : Ext F A (upd F p o) A := ⟨upd_same' (r.sub.free h), List.prefix_refl _⟩
  refine ⟨⟨upd_mono r.sub, r.len, r.nd, fun a ha => ?_, fun k a o' hk hw => ?_⟩, x⟩
  · rw [upd_ne (fun z => hp (by rw [← z]; exact ha))]
    exact r.out a ha
  · obtain ⟨u, e, q⟩ := r.obj k a o' hk hw
    exact ⟨u, by rw [upd_ne (ne_of_none e h)]; exact e, q.ext x⟩
/-- a new object -/
theorem RW.newO (r : RW K F A W H) {p : Addr} (h : H p = none) {o : OD} {u : HO} (q : OdR K F A p o u) : RW K F (A ++ [p]) (W ++ [o]) (upd H p u) ∧ Ext F A F (A ++ [p]) := by
  have hp := r.notin h
  have x : Ext F A F (A ++ [p]) := ⟨.refl _, List.prefix_append _ _⟩
  refine ⟨⟨fun b o' e => by rw [upd_ne (ne_of_none (r.sub _ _ e) h)]; exact r.sub _ _ e, by simp [r.len], ?_, fun a ha => ?_, fun k a o' hk hw => ?_⟩, x⟩
  · rw [List.nodup_append]
    exact ⟨r.nd, by simp, fun a ha b hb => by simp at hb; subst hb; exact fun z => hp (z ▸ ha)⟩
  · rcases List.mem_append.mp ha with ha | ha
    · exact r.out a ha
    · simp at ha; subst ha; exact r.sub.free h
  · by_cases hl : k < A.length
    · rw [List.getElem?_append_left hl] at hk
      rw [List.getElem?_append_left (by rw [← r.len]; exact hl)] at hw
      obtain ⟨u', e, q'⟩ := r.obj k a o' hk hw
      exact ⟨u', by rw [upd_ne (ne_of_none e h)]; exact e, q'.ext x⟩
    · have hk' : k = A.length := by
        have := (List.getElem?_eq_some_iff.mp hk).1
        simp at this
        omega
      subst hk'
      rw [List.getElem?_append_right (Nat.le_refl _)] at hk
      rw [List.getElem?_append_right (by rw [r.len]; exact Nat.le_refl _)] at hw
      simp at hk
      simp [r.len] at hw
      subst hk hw
      exact ⟨u, upd_same, q.ext x⟩
/-- an object is changed -/
theorem RW.put (r : RW K F A W H) {k : Nat} {a : Addr} (hk : A[k]? = some a) {o : OD} {u : HO} (q : OdR K F A a o u) : RW K F A (W.set k o) (upd H a u) := by
  have ha : a ∈ A := List.mem_of_getElem? hk
  refine ⟨fun b o' e => ?_, by simp [r.len], r.nd, r.out, fun j b o' hj hw => ?_⟩
  · have : b ≠ a := fun z => by subst z; rw [r.out _ ha] at e; cases e
    rw [upd_ne this]; exact r.sub _ _ e
  · by_cases hjk : k = j
    · subst hjk
      rw [hk] at hj
      cases hj
      have hl : k < W.length := by rw [← r.len]; exact (List.getElem?_eq_some_iff.mp hk).1
      rw [List.getElem?_set_self hl] at hw
      cases hw
      exact ⟨u, upd_same, q⟩
    · rw [List.getElem?_set_ne hjk] at hw
      obtain ⟨u', e, q'⟩ := r.obj j b o' hj hw
      have : b ≠ a := fun z => by
        subst z
        have h1 := (List.getElem?_eq_some_iff.mp hj)
        have h2 := (List.getElem?_eq_some_iff.mp hk)
        obtain ⟨l1, e1⟩ := h1
        obtain ⟨l2, e2⟩ := h2
        exact hjk ((List.getElem_inj r.nd).mp (e2.trans e1.symm))
      exact ⟨u', by rw [upd_ne this]; exact e, q'⟩
end
abbrev KB := El → Wl → Prop
def Post (K : PySem.W.Frag) (F : Hp) (A : List Addr) (k : KB) (Q : VK) : Prop := ∀ F' A' W' H' e v, Ext F A F' A' → RW K F' A' W' H' → ElR K F' A' e v → k e W' → Q v H'
section
variable {K : PySem.W.Frag} {F F1 : Hp} {A A1 : List Addr} {W : Wl} {H H' : Hp} {k : KB} {Q : VK}
theorem Post.ext (q : Post K F A k Q) (x : Ext F A F1 A1) : Post K F1 A1 k Q := fun F' A' W' H' e v y r z h => q F' A' W' H' e v (x.trans y) r z h
theorem Post.same (q : Post K F A k Q) (r : RW K F A W H) {e : El} {v : V} (z : ElR K F A e v) (h : k e W) : Q v H := q F A W H e v .refl r z h
theorem Post.newT (q : Post K F A k Q) (r : RW K F A W H) {p : Addr} (hp : H p = none) {vs : List V} {ds : List PyData} (z : Paired (fun d v => Rq K F v d) ds vs) (h : k (.d (.tuple ds)) W) : Q (.ref p) (upd H p (.tup vs)) := by
  obtain ⟨r', x⟩ := r.newF hp (.tup vs)
  exact q _ _ _ _ _ _ x r' (.dd (Rq.tup (SqT.of upd_same) (Rqs.of (pd_imp (fun _ _ t => Rq.same x.same _ t) z)))) h
theorem Post.newL (q : Post K F A k Q) (r : RW K F A W H) {p : Addr} (hp : H p = none) {vs : List V} {ds : List PyData} (z : Paired (fun d v => Rq K F v d) ds vs) (h : k (.d (.list ds)) W) : Q (.ref p) (upd H p (.lst vs)) := by
  obtain ⟨r', x⟩ := r.newF hp (.lst vs)
  exact q _ _ _ _ _ _ x r' (.dd (Rq.lst (.inl upd_same) (Rqs.of (pd_imp (fun _ _ t => Rq.same x.same _ t) z)))) h
theorem Post.newO (q : Post K F A k Q) (r : RW K F A W H) {p : Addr} (hp : H p = none) {o : OD} {u : HO} (z : OdR K F A p o u) (h : k (.o W.length) (W ++ [o])) : Q (.ref p) (upd H p u) := by
  obtain ⟨r', x⟩ := r.newO hp z
  exact q _ _ _ _ _ _ x r' (ElR.oo (k := W.length) (by rw [← r.len]; simp)) h
theorem Post.put (q : Post K F A k Q) (r : RW K F A W H) {j : Nat} {a : Addr} (hj : A[j]? = some a) {o : OD} {u : HO} (z : OdR K F A a o u) {e : El} {v : V} (zv : ElR K F A e v) (h : k e (W.set j o)) : Q v (upd H a u) :=
  q _ _ _ _ _ _ .refl (r.put hj z) zv h
end
/-- a context, and what stood at the def's entry; what is wanted of an exception that leaves it: its class, the objects -/
structure Bc extends Cx where
  F0 : Hp
  A0 : List Addr
  xk : Addr → Sl → Wl → Prop
instance : Coe Bc Cx := ⟨Bc.toCx⟩
abbrev Bc.Am (X : Bc) (F : Hp) (A : List Addr) : Prop := Ext X.F0 X.A0 F A
def tD (X : Bc) (S : Sl) (W : Wl) (k : KB) : TE := fun σ H Q => ∃ F A, X.Am F A ∧ RW X.K F A W H ∧ SR X.K F A S σ ∧ Post X.K F A k Q
def BE (X : Bc) (S : Sl) (W : Wl) (e : Expr) (k : KB) : Prop := PE X e (tD X S W k)
def tU (X : Bc) (e : Expr) : TE := fun σ H Q => ∃ t, PE X e t ∧ t σ H Q
theorem pe_U {X : Bc} {e : Expr} : PE X e (tU X e) := fun pins s σ H Q I ⟨t, h, q⟩ => h pins s σ H Q I q
theorem BE.use {X : Bc} {S : Sl} {W : Wl} {e : Expr} {k : KB} (h : BE X S W e k) {F : Hp} {A : List Addr} {σ : St} {H : Hp} {Q : VK} (x0 : X.Am F A) (r : RW X.K F A W H) (s : SR X.K F A S σ)
    (q : ∀ F' A' W' H' e v, Ext F A F' A' → RW X.K F' A' W' H' → ElR X.K F' A' e v → k e W' → Q v H') : tU X e σ H Q := ⟨_, h, F, A, x0, r, s, q⟩
theorem BE.of {X : Bc} {S : Sl} {W : Wl} {e : Expr} {k : KB} {t : TE} (h : PE X e t) (i : ∀ F A σ H Q, X.Am F A → RW X.K F A W H → SR X.K F A S σ → Post X.K F A k Q → t σ H Q) : BE X S W e k :=
  fun pins s σ H Q I ⟨F, A, x0, r, sr, q⟩ => h pins s σ H Q I (i F A σ H Q x0 r sr q)
/-- weaker wishes -/
theorem BE.mono {X : Bc} {S : Sl} {W : Wl} {e : Expr} {k k' : KB} (h : BE X S W e k) (hk : ∀ x W, k x W → k' x W) : BE X S W e k' :=
  .of h fun F A σ H Q x0 r sr q => ⟨F, A, x0, r, sr, fun F' A' W' H' e v x r z hh => q F' A' W' H' e v x r z (hk _ _ hh)⟩
section
variable {X : Bc} {S : Sl} {W : Wl} {k : KB}
theorem be_var {i : Nat} {x : Str} {pos : Pos} {e : El} (hN : X.N[i]? = some x) (hv : Vis X.env.scope x) (hs : S[i]? = some (some e)) (h : k e W) (hd : (x == ("__debug__" : Str)) = false := by decide) (hcd : (x == ("__classdict__" : Str)) = false := by decide) : BE X S W (.Name x pos) k :=
  .of (pe_var hN hv hd hcd) fun F A σ H Q x0 r sr q => by
    obtain ⟨v, h1, h2⟩ := sr.get i e hs
    exact ⟨v, h1, q.same r h2 h⟩
theorem be_int {i j pos} (h : k (.d (.int i)) W) : BE X S W (.Constant (.int i) j pos) k := .of pe_int fun F A σ H Q x0 r sr q => q.same r (.dd (Rq.int i)) h
theorem be_bl {b j pos} (h : k (.d (.bool b)) W) : BE X S W (.Constant (.bool b) j pos) k := .of pe_bl fun F A σ H Q x0 r sr q => q.same r (.dd (Rq.bl b)) h
theorem be_non {j pos} (h : k (.d .none) W) : BE X S W (.Constant .none j pos) k := .of pe_non fun F A σ H Q x0 r sr q => q.same r (.dd Rq.non) h
theorem be_str {x j pos} (h : k (.d (.str x)) W) : BE X S W (.Constant (.str x) j pos) k := .of pe_str fun F A σ H Q x0 r sr q => q.same r (.dd (Rq.str x)) h
/-- a name of the module -/
theorem be_glob {x : Str} {d : PyData} {v : V} {u : Value} {pos : Pos} (hg : Gl X x) (hm : X.mg x = some u) (rv : RelV v u) (rq : ∀ F, Rq X.K F v d) (h : k (.d d) W) (hd : (x == ("__debug__" : Str)) = false := by decide) : BE X S W (.Name x pos) k :=
  .of (pe_glob hg hm rv hd) fun F A σ H Q x0 r sr q => q.same r (.dd (rq F)) h
def rU2 (X : Bc) (f : Value → Value → Sem Value) : R2 := fun x y H Q => ∃ r, OpR X f r ∧ r x y H Q
theorem op_U {f : Value → Value → Sem Value} : OpR X f (rU2 X f) := fun pins s σ H x y v u Q I rx ry ⟨r, h, q⟩ => h pins s σ H x y v u Q I rx ry q
def OB (X : Bc) (f : Value → Value → Sem Value) (x y : El) (W : Wl) (k : KB) : Prop :=
  ∀ F A H Q vx vy, RW X.K F A W H → ElR X.K F A x vx → ElR X.K F A y vy → Post X.K F A k Q → rU2 X f vx vy H Q
theorem OB.of {f : Value → Value → Sem Value} {x y : El} {r2 : R2} (ho : OpR X f r2) (i : ∀ F A H Q vx vy, RW X.K F A W H → ElR X.K F A x vx → ElR X.K F A y vy → Post X.K F A k Q → r2 vx vy H Q) : OB X f x y W k :=
  fun F A H Q vx vy r zx zy q => ⟨r2, ho, i F A H Q vx vy r zx zy q⟩
theorem be_op {a b : Expr} {op : Operator} {pos : Pos} (h : BE X S W a fun x W1 => BE X S W1 b fun y W2 => OB X (binaryOp op) x y W2 k) : BE X S W (.BinOp a op b pos) k :=
  .of (pe_op op_U pe_U pe_U) fun F A σ H Q x0 r sr q =>
    h.use x0 r sr fun F1 A1 W1 H1 x vx e1 r1 z1 h1 => h1.use (x0.trans e1) r1 (sr.ext e1) fun F2 A2 W2 H2 y vy e2 r2 z2 h2 => h2 F2 A2 H2 Q vx vy r2 (z1.ext e2) z2 (q.ext (e1.trans e2))
theorem be_cmp {a b : Expr} {op : CmpOp} {pos : Pos} (hm : behindInMarks op b = false) (h : BE X S W a fun x W1 => BE X S W1 b fun y W2 => OB X (compareOp op) x y W2 k) : BE X S W (.Compare a [op] [b] pos) k :=
  .of (pe_cmpR op_U pe_U pe_U hm) fun F A σ H Q x0 r sr q =>
    h.use x0 r sr fun F1 A1 W1 H1 x vx e1 r1 z1 h1 => h1.use (x0.trans e1) r1 (sr.ext e1) fun F2 A2 W2 H2 y vy e2 r2 z2 h2 => h2 F2 A2 H2 Q vx vy r2 (z1.ext e2) z2 (q.ext (e1.trans e2))
abbrev TB := Bool → Wl → Prop
def tDT (X : Bc) (S : Sl) (W : Wl) (k : TB) : TT := fun σ H Q => ∃ F A, X.Am F A ∧ RW X.K F A W H ∧ SR X.K F A S σ ∧ ∀ F' A' W' H' b, Ext F A F' A' → RW X.K F' A' W' H' → k b W' → Q b H'
def BT (X : Bc) (S : Sl) (W : Wl) (e : Expr) (k : TB) : Prop := PT X e (tDT X S W k)
def tUT (X : Bc) (e : Expr) : TT := fun σ H Q => ∃ t, PT X e t ∧ t σ H Q
theorem pt_U {e : Expr} : PT X e (tUT X e) := fun pins s σ H Q I ⟨t, h, q⟩ => h pins s σ H Q I q
theorem BT.use {e : Expr} {k : TB} (h : BT X S W e k) {F : Hp} {A : List Addr} {σ : St} {H : Hp} {Q : Bool → Hp → Prop} (x0 : X.Am F A) (r : RW X.K F A W H) (s : SR X.K F A S σ)
    (q : ∀ F' A' W' H' b, Ext F A F' A' → RW X.K F' A' W' H' → k b W' → Q b H') : tUT X e σ H Q := ⟨_, h, F, A, x0, r, s, q⟩
theorem BT.of {e : Expr} {k : TB} {t : TT} (h : PT X e t) (i : ∀ F A σ H (Q : Bool → Hp → Prop), X.Am F A → RW X.K F A W H → SR X.K F A S σ → (∀ F' A' W' H' b, Ext F A F' A' → RW X.K F' A' W' H' → k b W' → Q b H') → t σ H Q) : BT X S W e k :=
  fun pins s σ H Q I ⟨F, A, x0, r, sr, q⟩ => h pins s σ H Q I (i F A σ H Q x0 r sr q)
theorem BT.mono {e : Expr} {k k' : TB} (h : BT X S W e k) (hk : ∀ b W, k b W → k' b W) : BT X S W e k' :=
  .of h fun F A σ H Q x0 r sr q => ⟨F, A, x0, r, sr, fun F' A' W' H' b x r z => q F' A' W' H' b x r (hk _ _ z)⟩
def BW (X : Bc) (S : Sl) (W : Wl) (e : Expr) (k : TB) : Prop := PW X e (tDT X S W k)
def tUW (X : Bc) (e : Expr) : TT := fun σ H Q => ∃ t, PW X e t ∧ t σ H Q
theorem pw_U {e : Expr} : PW X e (tUW X e) := fun wh pins s σ H Q I ⟨t, h, q⟩ => h wh pins s σ H Q I q
theorem BW.use {e : Expr} {k : TB} (h : BW X S W e k) {F : Hp} {A : List Addr} {σ : St} {H : Hp} {Q : Bool → Hp → Prop} (x0 : X.Am F A) (r : RW X.K F A W H) (s : SR X.K F A S σ)
    (q : ∀ F' A' W' H' b, Ext F A F' A' → RW X.K F' A' W' H' → k b W' → Q b H') : tUW X e σ H Q := ⟨_, h, F, A, x0, r, s, q⟩
theorem BW.of {e : Expr} {k : TB} {t : TT} (h : PW X e t) (i : ∀ F A σ H (Q : Bool → Hp → Prop), X.Am F A → RW X.K F A W H → SR X.K F A S σ → (∀ F' A' W' H' b, Ext F A F' A' → RW X.K F' A' W' H' → k b W' → Q b H') → t σ H Q) : BW X S W e k :=
  fun wh pins s σ H Q I ⟨F, A, x0, r, sr, q⟩ => h wh pins s σ H Q I (i F A σ H Q x0 r sr q)
theorem BW.bt {e : Expr} {k : TB} (h : BW X S W e k) : BT X S W e k := h.pt
/-- a test that is no and, or, not, comparison -/
theorem bt_val {e : Expr} {k : TB} (h : BE X S W e fun x W1 => ∃ b, x = .d (.bool b) ∧ k b W1) (he : ∀ whole, isTrue e X.env whole = (do let v ← whole; standAt e.pos; holding [v] (truthy v)) := by intro _; rfl) : BT X S W e k :=
  .of (pt_val pe_U he) fun F A σ H Q x0 r sr q => h.use x0 r sr fun F1 A1 W1 H1 x vx e1 r1 z1 ⟨b, hb, h1⟩ => by
    subst hb
    obtain rfl := Rq.of_bl z1
    exact ⟨b, rfl, q F1 A1 W1 H1 b e1 r1 h1⟩
theorem bt_cmp {a b : Expr} {op : CmpOp} {pos : Pos} {k : TB} (hm : behindInMarks op b = false) (h : BE X S W a fun x W1 => BE X S W1 b fun y W2 => OB X (compareOp op) x y W2 fun z W3 => ∃ c, z = .d (.bool c) ∧ k c W3) : BT X S W (.Compare a [op] [b] pos) k :=
  .of (pt_cmpR op_U pe_U pe_U hm) fun F A σ H Q x0 r sr q =>
    h.use x0 r sr fun F1 A1 W1 H1 x vx e1 r1 z1 h1 => h1.use (x0.trans e1) r1 (sr.ext e1) fun F2 A2 W2 H2 y vy e2 r2 z2 h2 => h2 F2 A2 H2 _ vx vy r2 (z1.ext e2) z2 fun F3 A3 W3 H3 z vz e3 r3 z3 ⟨c, hc, h3⟩ => by
      subst hc
      obtain rfl := Rq.of_bl z3
      exact ⟨c, rfl, q F3 A3 W3 H3 c ((e1.trans e2).trans e3) r3 h3⟩
theorem bt_not {a : Expr} {pos : Pos} {k : TB} (h : BT X S W a fun b W1 => k (!b) W1) : BT X S W (.UnaryOp .Not a pos) k :=
  .of (pt_not pt_U) fun F A σ H Q x0 r sr q => h.use x0 r sr fun F1 A1 W1 H1 b e1 r1 h1 => q F1 A1 W1 H1 _ e1 r1 h1
theorem bw_and1 {a : Expr} {pos : Pos} {k : TB} (h : BT X S W a k) : BW X S W (.BoolOp .And [a] pos) k := .of (pw_and1 pt_U) fun F A σ H Q x0 r sr q => h.use x0 r sr q
theorem bw_or1 {a : Expr} {pos : Pos} {k : TB} (h : BT X S W a k) : BW X S W (.BoolOp .Or [a] pos) k := .of (pw_or1 pt_U) fun F A σ H Q x0 r sr q => h.use x0 r sr q
theorem bw_and {a b : Expr} {rest : List Expr} {pos : Pos} {k : TB} (h : BT X S W a fun c W1 => if c = true then BW X S W1 (.BoolOp .And (b :: rest) pos) k else k false W1) : BW X S W (.BoolOp .And (a :: b :: rest) pos) k :=
  .of (pw_and pt_U pw_U) fun F A σ H Q x0 r sr q => h.use x0 r sr fun F1 A1 W1 H1 c e1 r1 h1 => by
    cases c with
    | true =>
      rw [if_pos rfl] at h1 ⊢
      exact h1.use (x0.trans e1) r1 (sr.ext e1) fun F2 A2 W2 H2 b e2 r2 h2 => q F2 A2 W2 H2 b (e1.trans e2) r2 h2
    | false =>
      rw [if_neg (by decide)] at h1 ⊢
      exact q F1 A1 W1 H1 _ e1 r1 h1
theorem bw_or {a b : Expr} {rest : List Expr} {pos : Pos} {k : TB} (h : BT X S W a fun c W1 => if c = true then k true W1 else BW X S W1 (.BoolOp .Or (b :: rest) pos) k) : BW X S W (.BoolOp .Or (a :: b :: rest) pos) k :=
  .of (pw_or pt_U pw_U) fun F A σ H Q x0 r sr q => h.use x0 r sr fun F1 A1 W1 H1 c e1 r1 h1 => by
    cases c with
    | true =>
      rw [if_pos rfl] at h1 ⊢
      exact q F1 A1 W1 H1 _ e1 r1 h1
    | false =>
      rw [if_neg (by decide)] at h1 ⊢
      exact h1.use (x0.trans e1) r1 (sr.ext e1) fun F2 A2 W2 H2 b e2 r2 h2 => q F2 A2 W2 H2 b (e1.trans e2) r2 h2
theorem be_one {op} {a : Expr} {pos : Pos} (h : BE X S W a k) : BE X S W (.BoolOp op [a] pos) k := pe_one h
theorem be_and {a b : Expr} {rest : List Expr} {pos : Pos} (h : BE X S W a fun x W1 => ∃ c, x = .d (.bool c) ∧ if c = true then BE X S W1 (.BoolOp .And (b :: rest) pos) k else k (.d (.bool false)) W1) : BE X S W (.BoolOp .And (a :: b :: rest) pos) k :=
  .of (pe_and pe_U pe_U) fun F A σ H Q x0 r sr q => h.use x0 r sr fun F1 A1 W1 H1 x vx e1 r1 z1 ⟨c, hc, h1⟩ => by
    subst hc
    obtain rfl := Rq.of_bl z1
    refine ⟨c, rfl, ?_⟩
    cases c with
    | true =>
      rw [if_pos rfl] at h1 ⊢
      exact h1.use (x0.trans e1) r1 (sr.ext e1) fun F2 A2 W2 H2 y vy e2 r2 z2 h2 => q F2 A2 W2 H2 y vy (e1.trans e2) r2 z2 h2
    | false =>
      rw [if_neg (by decide)] at h1 ⊢
      exact q F1 A1 W1 H1 _ _ e1 r1 (.dd (Rq.bl false)) h1
theorem be_not {a : Expr} {pos : Pos} (h : BE X S W a fun x W1 => ∃ c, x = .d (.bool c) ∧ k (.d (.bool (!c))) W1) : BE X S W (.UnaryOp .Not a pos) k :=
  .of (pe_not pe_U) fun F A σ H Q x0 r sr q => h.use x0 r sr fun F1 A1 W1 H1 x vx e1 r1 z1 ⟨c, hc, h1⟩ => by
    subst hc
    obtain rfl := Rq.of_bl z1
    exact ⟨c, rfl, q F1 A1 W1 H1 _ _ e1 r1 (.dd (Rq.bl _)) h1⟩
theorem be_if {c a b : Expr} {pos : Pos} (h : BT X S W c fun t W1 => if t = true then BE X S W1 a k else BE X S W1 b k) : BE X S W (.IfExp c a b pos) k :=
  .of (pe_ifExp pt_U pe_U pe_U) fun F A σ H Q x0 r sr q => h.use x0 r sr fun F1 A1 W1 H1 c e1 r1 h1 => by
    cases c with
    | true =>
      rw [if_pos rfl] at h1 ⊢
      exact h1.use (x0.trans e1) r1 (sr.ext e1) fun F2 A2 W2 H2 y vy e2 r2 z2 h2 => q F2 A2 W2 H2 y vy (e1.trans e2) r2 z2 h2
    | false =>
      rw [if_neg (by decide)] at h1 ⊢
      exact h1.use (x0.trans e1) r1 (sr.ext e1) fun F2 A2 W2 H2 y vy e2 r2 z2 h2 => q F2 A2 W2 H2 y vy (e1.trans e2) r2 z2 h2
end
end L2
namespace L2
open PySem PySem.Spec PyProof.Rows
section
variable {X : Bc} {S : Sl} {W : Wl} {k : KB}
abbrev KA := List El → Wl → Prop
def tDA (X : Bc) (S : Sl) (W : Wl) (k : KA) : TA := fun σ H Q => ∃ F A, X.Am F A ∧ RW X.K F A W H ∧ SR X.K F A S σ ∧ ∀ F' A' W' H' es vs, Ext F A F' A' → RW X.K F' A' W' H' → Paired (ElR X.K F' A') es vs → k es W' → Q vs H'
def BA (X : Bc) (S : Sl) (W : Wl) (es : List Expr) (k : KA) : Prop := PA X es (tDA X S W k)
def tUA (X : Bc) (es : List Expr) : TA := fun σ H Q => ∃ t, PA X es t ∧ t σ H Q
theorem pa_U {es : List Expr} : PA X es (tUA X es) := fun pos pins s σ H Q I ⟨t, h, q⟩ => h pos pins s σ H Q I q
theorem BA.use {es : List Expr} {k : KA} (h : BA X S W es k) {F : Hp} {A : List Addr} {σ : St} {H : Hp} {Q : List V → Hp → Prop} (x0 : X.Am F A) (r : RW X.K F A W H) (s : SR X.K F A S σ)
    (q : ∀ F' A' W' H' es vs, Ext F A F' A' → RW X.K F' A' W' H' → Paired (ElR X.K F' A') es vs → k es W' → Q vs H') : tUA X es σ H Q := ⟨_, h, F, A, x0, r, s, q⟩
theorem BA.of {es : List Expr} {k : KA} {t : TA} (h : PA X es t) (i : ∀ F A σ H (Q : List V → Hp → Prop), X.Am F A → RW X.K F A W H → SR X.K F A S σ → (∀ F' A' W' H' es vs, Ext F A F' A' → RW X.K F' A' W' H' → Paired (ElR X.K F' A') es vs → k es W' → Q vs H') → t σ H Q) : BA X S W es k :=
  fun pos pins s σ H Q I ⟨F, A, x0, r, sr, q⟩ => h pos pins s σ H Q I (i F A σ H Q x0 r sr q)
theorem ba_nil {k : KA} (h : k [] W) : BA X S W [] k := .of pa_nil fun F A σ H Q x0 r sr q => q F A W H [] [] .refl r .nil h
theorem ba_cons {e : Expr} {es : List Expr} {k : KA} (h : BE X S W e fun x W1 => BA X S W1 es fun xs W2 => k (x :: xs) W2) (hs : starEach (e :: es) X.env = (false, eval e X.env) :: starEach es X.env := by rfl) : BA X S W (e :: es) k :=
  .of (pa_cons pe_U pa_U hs) fun F A σ H Q x0 r sr q => h.use x0 r sr fun F1 A1 W1 H1 x vx e1 r1 z1 h1 => h1.use (x0.trans e1) r1 (sr.ext e1) fun F2 A2 W2 H2 xs vs e2 r2 z2 h2 => q F2 A2 W2 H2 _ _ (e1.trans e2) r2 (.cons (z1.ext e2) z2) h2
theorem ba_one {e : Expr} {k : KA} (h : BE X S W e fun x W1 => k [x] W1) (hs : starEach [e] X.env = [(false, eval e X.env)] := by rfl) : BA X S W [e] k :=
  ba_cons (h.mono fun _ _ q => ba_nil q) hs
/-- all are data -/
def datas : List PyData → List El := List.map .d
theorem pd_datas {K : PySem.W.Frag} {F : Hp} {A : List Addr} {ds : List PyData} {vs : List V} (h : Paired (ElR K F A) (datas ds) vs) : Paired (fun d v => Rq K F v d) ds vs := pd_unmap h
theorem pd_datas' {K : PySem.W.Frag} {F : Hp} {A : List Addr} {ds : List PyData} {vs : List V} (h : Paired (fun d v => Rq K F v d) ds vs) : Paired (ElR K F A) (datas ds) vs := pd_map h
theorem be_tup {es : List Expr} {x1} {pos : Pos} (h : BA X S W es fun as W1 => ∃ ds, as = datas ds ∧ ds.length ≤ sizeLine ∧ k (.d (.tuple ds)) W1) : BE X S W (.Tuple es x1 pos) k :=
  .of (pe_tup pa_U) fun F A σ H Q x0 r sr q => h.use x0 r sr fun F1 A1 W1 H1 as vs e1 r1 z1 ⟨ds, hd, hl, h1⟩ => by
    subst hd
    have z := pd_datas z1
    exact ⟨by rw [← pd_len z]; exact hl, fun p hp => (q.ext e1).newT r1 hp z h1⟩
/-- a list that nobody changes -/
theorem be_lst {es : List Expr} {pos : Pos} (h : BA X S W es fun as W1 => ∃ ds, as = datas ds ∧ ds.length ≤ sizeLine ∧ k (.d (.list ds)) W1) : BE X S W (.List es pos) k :=
  .of (pe_lst pa_U) fun F A σ H Q x0 r sr q => h.use x0 r sr fun F1 A1 W1 H1 as vs e1 r1 z1 ⟨ds, hd, hl, h1⟩ => by
    subst hd
    have z := pd_datas z1
    exact ⟨by rw [← pd_len z]; exact hl, fun p hp => (q.ext e1).newL r1 hp z h1⟩
/-- a list that is changed -/
theorem be_lstO {es : List Expr} {pos : Pos} (h : BA X S W es fun as W1 => as.length ≤ sizeLine ∧ k (.o W1.length) (W1 ++ [.lst as])) : BE X S W (.List es pos) k :=
  .of (pe_lst pa_U) fun F A σ H Q x0 r sr q => h.use x0 r sr fun F1 A1 W1 H1 as vs e1 r1 z1 ⟨hl, h1⟩ =>
    ⟨by rw [← pd_len z1]; exact hl, fun p hp => (q.ext e1).newO r1 hp (o := .lst as) ⟨vs, rfl, z1⟩ h1⟩
def rUC (X : Bc) (f : Value) : List V → Hp → VK → Prop := fun xs H Q => ∃ r, CallR X f r ∧ r xs H Q
theorem call_U {f : Value} : CallR X f (rUC X f) := fun pins s σ H xs us Q I rx ⟨r, h, q⟩ => h pins s σ H xs us Q I rx q
def CB (X : Bc) (f : Value) (xs : List El) (W : Wl) (k : KB) : Prop := ∀ F A H Q vs, RW X.K F A W H → Paired (ElR X.K F A) xs vs → Post X.K F A k Q → rUC X f vs H Q
theorem CB.of {f : Value} {xs : List El} {r1 : List V → Hp → VK → Prop} (hc : CallR X f r1) (i : ∀ F A H Q vs, RW X.K F A W H → Paired (ElR X.K F A) xs vs → Post X.K F A k Q → r1 vs H Q) : CB X f xs W k :=
  fun F A H Q vs r z q => ⟨r1, hc, i F A H Q vs r z q⟩
theorem be_callB {e : Expr} {es : List Expr} {x : Str} {id : String} {p pos : Pos} (hg : Gl X x) (hm : X.mg x = none) (hv : bootBuiltins x = some (.builtin id)) (h : BA X S W (e :: es) fun as W1 => CB X (.builtin id) as W1 k) (hn : x ≠ "__name__" := by decide) (hdb : (x == ("__debug__" : Str)) = false := by decide)
    (he : starEach (e :: es) X.env = (false, eval e X.env) :: starEach es X.env := by rfl) (hpl : (backTo pos (starEach es X.env)).any (·.1) = false := by rfl) : BE X S W (.Call (.Name x p) (e :: es) [] pos) k :=
  .of (pe_callB call_U hg hm hv pa_U hn hdb he hpl) fun F A σ H Q x0 r sr q => h.use x0 r sr fun F1 A1 W1 H1 as vs e1 r1 z1 h1 => h1 F1 A1 H1 Q vs r1 z1 (q.ext e1)
theorem be_callT {e : Expr} {es : List Expr} {x : Str} {T : String} {p pos : Pos} (hg : Gl X x) (hm : X.mg x = none) (hv : bootBuiltins x = some (.type T)) (h : BA X S W (e :: es) fun as W1 => CB X (.type T) as W1 k) (hn : x ≠ "__name__" := by decide) (hdb : (x == ("__debug__" : Str)) = false := by decide)
    (he : starEach (e :: es) X.env = (false, eval e X.env) :: starEach es X.env := by rfl) (hpl : (backTo pos (starEach es X.env)).any (·.1) = false := by rfl) : BE X S W (.Call (.Name x p) (e :: es) [] pos) k :=
  .of (pe_callTy call_U hg hm hv pa_U hn hdb he hpl) fun F A σ H Q x0 r sr q => h.use x0 r sr fun F1 A1 W1 H1 as vs e1 r1 z1 h1 => h1 F1 A1 H1 Q vs r1 z1 (q.ext e1)
abbrev RB := List El → Wl → KB → Prop
def spB (K : PySem.W.Frag) (R : RB) : Sp := fun vs H Q _ => ∃ F A W es k, RW K F A W H ∧ Paired (ElR K F A) es vs ∧ R es W k ∧ Post K F A k Q
theorem be_call {R : RB} {j : Nat} {f : Addr} {fd : FuncData} {ps : List Str} {x : Str} {p pos : Pos} {e : Expr} {es : List Expr} (F : FnOk X.prog X.w X.K X.mg X.base CX0 j f fd ps (spB X.K R)) (hr : Room j X.A) (hg : Gl X x) (hm : X.mg x = some (.ref f))
    (hk : PySem.W.keepIn X.K (.ref f) = true) (hb : Binds X.K fd ps []) (h : BA X S W (e :: es) fun as W1 => R as W1 k) (hdb : (x == ("__debug__" : Str)) = false := by decide)
    (he : starEach (e :: es) X.env = (false, eval e X.env) :: starEach es X.env := by rfl) (hpl : (backTo pos (starEach es X.env)).any (·.1) = false := by rfl) : BE X S W (.Call (.Name x p) (e :: es) [] pos) k :=
  .of (pe_call F hr hg hm hk hb .nil pass0 pa_U hdb he hpl) fun F A σ H Q x0 r sr q => h.use x0 r sr fun F1 A1 W1 H1 as vs e1 r1 z1 h1 => by
    rw [List.append_nil]
    exact ⟨F1, A1, W1, as, k, r1, z1, h1, q.ext e1⟩
def rUI (X : Bc) : R2 := fun x y H Q => ∃ r, IxR X r ∧ r x y H Q
theorem ix_U : IxR X (rUI X) := fun v s pins sh σ H x y v' u Q I rx ry ⟨r, h, q⟩ hs => h v s pins sh σ H x y v' u Q I rx ry q hs
def IB (X : Bc) (x y : El) (W : Wl) (k : KB) : Prop := ∀ F A H Q vx vy, RW X.K F A W H → ElR X.K F A x vx → ElR X.K F A y vy → Post X.K F A k Q → rUI X vx vy H Q
theorem IB.of {x y : El} {r2 : R2} (ho : IxR X r2) (i : ∀ F A H Q vx vy, RW X.K F A W H → ElR X.K F A x vx → ElR X.K F A y vy → Post X.K F A k Q → r2 vx vy H Q) : IB X x y W k :=
  fun F A H Q vx vy r zx zy q => ⟨r2, ho, i F A H Q vx vy r zx zy q⟩
theorem be_ix {a b : Expr} {pos : Pos} (hs : PlainIx b) (h : BE X S W a fun x W1 => BE X S W1 b fun y W2 => IB X x y W2 k) : BE X S W (.Subscript a b pos) k :=
  .of (pe_ix ix_U pe_U pe_U hs) fun F A σ H Q x0 r sr q =>
    h.use x0 r sr fun F1 A1 W1 H1 x vx e1 r1 z1 h1 => h1.use (x0.trans e1) r1 (sr.ext e1) fun F2 A2 W2 H2 y vy e2 r2 z2 h2 => h2 F2 A2 H2 Q vx vy r2 (z1.ext e2) z2 (q.ext (e1.trans e2))
theorem pd_atI {α β : Type} {F : α → β → Prop} {l : List α} {m : List β} (p : Paired F l m) {i : Int} {a : α} (h : atI l i = some a) : ∃ b, atI m i = some b ∧ F a b := by
  unfold atI at h ⊢
  rw [← pd_len p]
  cases e : ixN l.length i with
  | none => rw [e] at h; cases h
  | some j =>
    rw [e] at h
    simp only [Option.bind] at h ⊢
    exact pd_get p h
theorem ib_lst {ds : List PyData} {i : Int} {d : PyData} (he : atI ds i = some d) (h : k (.d d) W) : IB X (.d (.list ds)) (.d (.int i)) W k := .of ix_list fun F A H Q vx vy r zx zy q => by
  obtain ⟨a, vs, rfl, hs, z⟩ := Rq.of_lst zx
  obtain rfl := Rq.of_int zy
  obtain ⟨v, h1, h2⟩ := pd_atI z he
  exact ⟨a, vs, i, v, rfl, rfl, (.inl (r.sub.rd hs)), h1, q.same r (.dd h2) h⟩
theorem ib_tup {ds : List PyData} {i : Int} {d : PyData} (he : atI ds i = some d) (h : k (.d d) W) : IB X (.d (.tuple ds)) (.d (.int i)) W k := .of ix_tup fun F A H Q vx vy r zx zy q => by
  obtain ⟨a, vs, rfl, hs, z⟩ := Rq.of_tup zx
  obtain rfl := Rq.of_int zy
  obtain ⟨v, h1, h2⟩ := pd_atI z he
  exact ⟨a, vs, i, v, rfl, rfl, r.sub.seqT hs, h1, q.same r (.dd h2) h⟩
theorem ib_str {z : Str} {i : Int} {c : Nat} (hz : z.length ≤ sizeLine) (he : atI z.cps.toList i = some c) (h : k (.d (.str ⟨#[c]⟩)) W) : IB X (.d (.str z)) (.d (.int i)) W k := .of ix_str fun F A H Q vx vy r zx zy q => by
  obtain rfl := Rq.of_str zx
  obtain rfl := Rq.of_int zy
  exact ⟨z, i, c, rfl, rfl, hz, he, q.same r (.dd (Rq.str _)) h⟩
/-- an item of a list that is changed -/
theorem RW.at (r : RW X.K F A W H) {j : Nat} {v : V} (z : ElR X.K F A (.o j) v) {es : List El} (hj : W[j]? = some (.lst es)) : ∃ a vs, v = .ref a ∧ A[j]? = some a ∧ H a = some (.lst vs) ∧ Paired (ElR X.K F A) es vs := by
  obtain ⟨a, ha, rfl⟩ := z
  obtain ⟨h, e, vs, rfl, p⟩ := r.obj j a _ ha hj
  exact ⟨a, vs, rfl, ha, e, p⟩
theorem ib_own {j : Nat} {es : List El} {i : Int} {e : El} (hj : W[j]? = some (.lst es)) (he : atI es i = some e) (h : k e W) : IB X (.o j) (.d (.int i)) W k := .of ix_list fun F A H Q vx vy r zx zy q => by
  obtain ⟨a, vs, rfl, ha, hH, z⟩ := r.at zx hj
  obtain rfl := Rq.of_int zy
  obtain ⟨v, h1, h2⟩ := pd_atI z he
  exact ⟨a, vs, i, v, rfl, rfl, SqL.of hH, h1, q.same r h2 h⟩
abbrev KO := Option Int → Wl → Prop
def tDO (X : Bc) (S : Sl) (W : Wl) (k : KO) : TO := fun σ H Q => ∃ F A, X.Am F A ∧ RW X.K F A W H ∧ SR X.K F A S σ ∧ ∀ F' A' W' H' o, Ext F A F' A' → RW X.K F' A' W' H' → k o W' → Q o H'
def BO (X : Bc) (S : Sl) (W : Wl) (e : Option Expr) (k : KO) : Prop := PO X e (tDO X S W k)
def tUO (X : Bc) (e : Option Expr) : TO := fun σ H Q => ∃ t, PO X e t ∧ t σ H Q
theorem po_U {e : Option Expr} : PO X e (tUO X e) := fun pins s σ H Q I ⟨t, h, q⟩ => h pins s σ H Q I q
theorem BO.use {e : Option Expr} {k : KO} (h : BO X S W e k) {F : Hp} {A : List Addr} {σ : St} {H : Hp} {Q : Option Int → Hp → Prop} (x0 : X.Am F A) (r : RW X.K F A W H) (s : SR X.K F A S σ)
    (q : ∀ F' A' W' H' o, Ext F A F' A' → RW X.K F' A' W' H' → k o W' → Q o H') : tUO X e σ H Q := ⟨_, h, F, A, x0, r, s, q⟩
theorem bo_none {k : KO} (h : k none W) : BO X S W none k := fun pins s σ H Q I ⟨F, A, x0, r, sr, q⟩ => po_none pins s σ H Q I (q F A W H none .refl r h)
theorem bo_some {e : Expr} {k : KO} (h : BE X S W e fun x W1 => ∃ i, x = .d (.int i) ∧ k (some i) W1) : BO X S W (some e) k := fun pins s σ H Q I ⟨F, A, x0, r, sr, q⟩ =>
  po_some pe_U pins s σ H Q I (h.use x0 r sr fun F1 A1 W1 H1 x vx e1 r1 z1 ⟨i, hi, h1⟩ => by
    subst hi
    obtain rfl := Rq.of_int z1
    exact ⟨i, rfl, q F1 A1 W1 H1 _ e1 r1 h1⟩)
def rUS (X : Bc) : V → Option Int → Option Int → Hp → VK → Prop := fun x lo hi H Q => ∃ r, SlR X r ∧ r x lo hi H Q
theorem sl_U : SlR X (rUS X) := fun pins s σ H x v vl vu lo hi sl Q I rx hs pl pu ⟨r, h, q⟩ => h pins s σ H x v vl vu lo hi sl Q I rx hs pl pu q
def LB (X : Bc) (x : El) (lo hi : Option Int) (W : Wl) (k : KB) : Prop := ∀ F A H Q vx, RW X.K F A W H → ElR X.K F A x vx → Post X.K F A k Q → rUS X vx lo hi H Q
theorem LB.of {x : El} {lo hi : Option Int} {r1 : V → Option Int → Option Int → Hp → VK → Prop} (hc : SlR X r1) (i : ∀ F A H Q vx, RW X.K F A W H → ElR X.K F A x vx → Post X.K F A k Q → r1 vx lo hi H Q) : LB X x lo hi W k :=
  fun F A H Q vs r z q => ⟨r1, hc, i F A H Q vs r z q⟩
theorem be_slice {e : Expr} {lo hi : Option Expr} {p2 pos : Pos} (h : BE X S W e fun x W1 => BO X S W1 lo fun l W2 => BO X S W2 hi fun u W3 => LB X x l u W3 k) : BE X S W (.Subscript e (.Slice lo hi none p2) pos) k :=
  .of (pe_slice sl_U pe_U po_U po_U) fun F A σ H Q x0 r sr q =>
    h.use x0 r sr fun F1 A1 W1 H1 x vx e1 r1 z1 h1 => h1.use (x0.trans e1) r1 (sr.ext e1) fun F2 A2 W2 H2 l e2 r2 h2 => h2.use (x0.trans (e1.trans e2)) r2 (sr.ext (e1.trans e2)) fun F3 A3 W3 H3 u e3 r3 h3 =>
      h3 F3 A3 H3 Q vx r3 (z1.ext (e2.trans e3)) (q.ext ((e1.trans e2).trans e3))
/-- the cut of any list -/
def cutL {α : Type} (xs : List α) (lo hi : Option Int) : List α := (xs.drop (HT.sIx xs.length 0 lo)).take (HT.sIx xs.length xs.length hi - HT.sIx xs.length 0 lo)
theorem pd_cut {α : Type} {F : α → V → Prop} {l : List α} {m : List V} (p : Paired F l m) (lo hi : Option Int) : Paired F (cutL l lo hi) (cutV m lo hi) := by
  unfold cutL cutV
  rw [pd_len p]
  exact pd_take _ (pd_drop _ p)
theorem sl_tupS : SlR X (fun x lo hi H Q => ∃ a xs, x = .ref a ∧ SqT X.K H a xs ∧ ((∀ p, H p = none → Q (.ref p) (upd H p (.tup (cutV xs lo hi)))) ∧ (cutV xs lo hi = xs → Q (.ref a) H))) := by
  intro pins s σ H x v vl vu lo hi sl Q I rx hs pl pu h
  obtain ⟨a, xs, rfl, hq, h1, h2⟩ := h
  by_cases hw : HT.sIx xs.length 0 lo = 0 ∧ HT.sIx xs.length xs.length hi = xs.length
  · cases rx
    obtain ⟨its, r, ht, hz⟩ := I.tuple hq
    have hlen : its.toArray.size = xs.length := by rw [List.size_toArray]; exact r.length.symm
    refine ⟨"tuple", _, PyProof.Rows.slot_tuple_getitem.lookup, ht.typeIs, ?_⟩
    refine HT.getItem_tuple_all ht hs pl pu (by rw [hlen]; exact hw) ?_
    exact ⟨.ref a, H, I, rfl, h2 (cutV_all hw)⟩
  · exact sl_tup pins s σ H (.ref a) v vl vu lo hi sl Q I rx hs pl pu ⟨a, xs, rfl, hq, hw, h1⟩
theorem lb_tup {ds : List PyData} {lo hi : Option Int} (h : k (.d (.tuple (cutL ds lo hi))) W) : LB X (.d (.tuple ds)) lo hi W k := .of sl_tupS fun F A H Q vx r zx q => by
  obtain ⟨a, vs, rfl, hs, z⟩ := Rq.of_tup zx
  refine ⟨a, vs, rfl, r.sub.seqT hs, fun p hp => q.newT r hp (pd_cut z lo hi) h, fun e => q.same r (.dd (Rq.tup hs (Rqs.of ?_))) h⟩
  have := pd_cut z lo hi
  rw [e] at this
  exact this
theorem lb_lst {ds : List PyData} {lo hi : Option Int} (h : k (.d (.list (cutL ds lo hi))) W) : LB X (.d (.list ds)) lo hi W k := .of sl_list fun F A H Q vx r zx q => by
  obtain ⟨a, vs, rfl, hs, z⟩ := Rq.of_lst zx
  exact ⟨a, vs, rfl, (.inl (r.sub.rd hs)), fun p hp => q.newL r hp (pd_cut z lo hi) h⟩
end
end L2
namespace L2
open PySem PySem.Spec PyProof.Rows
section
variable {X : Bc} {S : Sl} {W : Wl} {k : KB}
theorem ob_int {f : Value → Value → Sem Value} {C : Int → Int → Prop} {g : Int → Int → Int} (ho : OpR X f (rI C fun i j => .int (g i j))) {i j : Int} (hc : C i j) (h : k (.d (.int (g i j))) W) : OB X f (.d (.int i)) (.d (.int j)) W k :=
  .of ho fun F A H Q vx vy r zx zy q => by
    obtain rfl := Rq.of_int zx
    obtain rfl := Rq.of_int zy
    exact ⟨i, j, rfl, rfl, hc, q.same r (.dd (Rq.int _)) h⟩
theorem ob_int0 {f : Value → Value → Sem Value} {g : Int → Int → Int} (ho : OpR X f (rI0 fun i j => .int (g i j))) {i j : Int} (h : k (.d (.int (g i j))) W) : OB X f (.d (.int i)) (.d (.int j)) W k :=
  .of ho fun F A H Q vx vy r zx zy q => by
    obtain rfl := Rq.of_int zx
    obtain rfl := Rq.of_int zy
    exact ⟨i, j, rfl, rfl, q.same r (.dd (Rq.int _)) h⟩
theorem ob_intB {f : Value → Value → Sem Value} {g : Int → Int → Bool} (ho : OpR X f (rI0 fun i j => .bl (g i j))) {i j : Int} (h : k (.d (.bool (g i j))) W) : OB X f (.d (.int i)) (.d (.int j)) W k :=
  .of ho fun F A H Q vx vy r zx zy q => by
    obtain rfl := Rq.of_int zx
    obtain rfl := Rq.of_int zy
    exact ⟨i, j, rfl, rfl, q.same r (.dd (Rq.bl _)) h⟩
theorem ob_add {i j : Int} (h : k (.d (.int (i + j))) W) : OB X (binaryOp .Add) (.d (.int i)) (.d (.int j)) W k := ob_int0 op_add h
theorem ob_sub {i j : Int} (h : k (.d (.int (i - j))) W) : OB X (binaryOp .Sub) (.d (.int i)) (.d (.int j)) W k := ob_int0 op_sub h
theorem ob_mul {i j : Int} (hc : CMul i j) (h : k (.d (.int (i * j))) W) : OB X (binaryOp .Mult) (.d (.int i)) (.d (.int j)) W k := ob_int op_mul hc h
theorem ob_mod {i j : Int} (hc : 0 < j) (h : k (.d (.int (i % j))) W) : OB X (binaryOp .Mod) (.d (.int i)) (.d (.int j)) W k := ob_int op_mod hc h
theorem ob_pow {i j : Int} (hc : CPow i j) (h : k (.d (.int (i ^ j.toNat))) W) : OB X (binaryOp .Pow) (.d (.int i)) (.d (.int j)) W k := ob_int op_pow hc h
theorem ob_lt {i j : Int} (h : k (.d (.bool (decide (i < j)))) W) : OB X (compareOp .Lt) (.d (.int i)) (.d (.int j)) W k := ob_intB op_lt h
theorem ob_le {i j : Int} (h : k (.d (.bool (decide (i ≤ j)))) W) : OB X (compareOp .LtE) (.d (.int i)) (.d (.int j)) W k := ob_intB op_le h
theorem ob_gt {i j : Int} (h : k (.d (.bool (decide (j < i)))) W) : OB X (compareOp .Gt) (.d (.int i)) (.d (.int j)) W k := ob_intB op_gt h
theorem ob_ge {i j : Int} (h : k (.d (.bool (decide (j ≤ i)))) W) : OB X (compareOp .GtE) (.d (.int i)) (.d (.int j)) W k := ob_intB op_ge h
theorem op_catS : OpR X (binaryOp .Add) (fun x y H Q => ∃ a b xs ys, x = .ref a ∧ y = .ref b ∧ SqT X.K H a xs ∧ SqT X.K H b ys ∧ xs.length + ys.length ≤ sizeLine ∧ (xs = [] → Q (.ref b) H) ∧ (ys = [] → Q (.ref a) H) ∧ ∀ p, H p = none → Q (.ref p) (upd H p (.tup (xs ++ ys)))) := by
  intro pins s σ H x y v u Q I rx ry h
  obtain ⟨a, b, xs, ys, rfl, rfl, ha, hb, hz, q1, q2, q3⟩ := h
  by_cases hx : xs = []
  · cases rx
    cases ry
    obtain ⟨its, r1, p1, _⟩ := I.tuple ha
    obtain ⟨its2, r2, p2, _⟩ := I.tuple hb
    exact HT.cat_tup0 p1 p2 (r1.nil_iff.mpr hx) ⟨.ref b, H, I, rfl, q1 hx⟩
  · exact op_catT pins s σ H (.ref a) (.ref b) v u Q I rx ry ⟨a, b, xs, ys, rfl, rfl, ha, hb, hx, hz, q2, fun _ p hp => q3 p hp⟩
theorem ob_catt {x y : List PyData} (hl : x.length + y.length ≤ sizeLine) (h : k (.d (.tuple (x ++ y))) W) : OB X (binaryOp .Add) (.d (.tuple x)) (.d (.tuple y)) W k := .of op_catS fun F A H Q vx vy r zx zy q => by
  obtain ⟨a, xs, rfl, hs, z⟩ := Rq.of_tup zx
  obtain ⟨b, ys, rfl, hs', z'⟩ := Rq.of_tup zy
  refine ⟨a, b, xs, ys, rfl, rfl, r.sub.seqT hs, r.sub.seqT hs', by rw [← pd_len z, ← pd_len z']; exact hl, fun e => ?_, fun e => ?_, fun p hp => q.newT r hp (pd_app z z') h⟩
  · subst e
    have : x = [] := List.length_eq_zero_iff.mp (pd_len z)
    subst this
    exact q.same r zy h
  · subst e
    have : y = [] := List.length_eq_zero_iff.mp (pd_len z')
    subst this
    rw [List.append_nil] at h
    exact q.same r zx h
theorem op_catL : OpR X (binaryOp .Add) (fun x y H Q => ∃ a b xs ys, x = .ref a ∧ y = .ref b ∧ Rd H a (.lst xs) ∧ Rd H b (.lst ys) ∧ xs.length + ys.length ≤ sizeLine ∧ ∀ p, H p = none → Q (.ref p) (upd H p (.lst (xs ++ ys)))) := by
  intro pins s σ H x y v u Q I rx ry h
  obtain ⟨l, b, xs, zs, rfl, rfl, hx, hz, hn, q⟩ := h
  cases rx
  cases ry
  obtain ⟨z, its, n, r, e⟩ := hx.ok I.hok
  obtain ⟨z2, its2, n2, r2, e2⟩ := hz.ok I.hok
  refine PySem.P.add_list e e2 ?_ (by rw [List.size_toArray, List.size_toArray, ← r.length, ← r2.length]; omega)
  have ea : its.toArray ++ its2.toArray = (its ++ its2).toArray := by simp
  rw [ea]
  exact ⟨.ref _, _, I.lnew (t' := s.toks) (r.append r2) (by rw [List.length_append]; omega), rfl, q _ I.fresh⟩
/-- a list's data, of one that is changed or not -/
def lstD (W : Wl) (x : El) (ds : List PyData) : Prop := x = .d (.list ds) ∨ ∃ j, x = .o j ∧ W[j]? = some (.lst (datas ds))
theorem RW.lst {F : Hp} {A : List Addr} {H : Hp} (r : RW X.K F A W H) {x : El} {v : V} {ds : List PyData} (z : ElR X.K F A x v) (h : lstD W x ds) : ∃ a vs, v = .ref a ∧ Rd H a (.lst vs) ∧ Paired (fun d v => Rq X.K F v d) ds vs := by
  rcases h with rfl | ⟨j, rfl, hj⟩
  · obtain ⟨a, vs, rfl, hs, z⟩ := Rq.of_lst z
    exact ⟨a, vs, rfl, r.sub.rd hs, z⟩
  · obtain ⟨a, vs, rfl, ha, hH, z⟩ := r.at z hj
    exact ⟨a, vs, rfl, .inl hH, pd_datas z⟩
theorem ob_catl {x y : El} {xs ys : List PyData} (hx : lstD W x xs) (hy : lstD W y ys) (hl : xs.length + ys.length ≤ sizeLine) (h : k (.d (.list (xs ++ ys))) W) : OB X (binaryOp .Add) x y W k := .of op_catL fun F A H Q vx vy r zx zy q => by
  obtain ⟨a, vs, rfl, hs, z⟩ := r.lst zx hx
  obtain ⟨b, ws, rfl, hs', z'⟩ := r.lst zy hy
  exact ⟨a, b, vs, ws, rfl, rfl, hs, hs', by rw [← pd_len z, ← pd_len z']; exact hl, fun p hp => q.newL r hp (pd_app z z') h⟩
theorem op_eqQ (neg : Bool) (hu : X.A.units + 64 < cLine) : OpR X (compareOp (if neg then .NotEq else .Eq)) (fun x y H Q => ∃ d e, Rq X.K H x d ∧ Rq X.K H y e ∧ Dat d ∧ Dat e ∧ Q (.bl (if neg then !PyData.eqv d e else PyData.eqv d e)) H) := by
  intro pins s σ H x y v u Q I rx ry h
  obtain ⟨d, e, rd, re, hd, he, q⟩ := h
  obtain ⟨as, h1⟩ := Rq.reads I d hd.lay rd rx
  obtain ⟨bs, h2⟩ := Rq.reads I e he.lay re ry
  cases neg with
  | false => exact SeqAt.compareEq_reads h1 h2 hd.lay he.lay (by have := hd.dep; omega) ⟨.bl _, H, I, rfl, q⟩
  | true => exact SeqAt.compareNe_reads h1 h2 hd.lay he.lay (by have := hd.dep; omega) ⟨.bl _, H, I, rfl, q⟩
/-- the data of a thing, also of a list that is changed -/
def dat (W : Wl) (x : El) (d : PyData) : Prop := x = .d d ∨ ∃ ds, d = .list ds ∧ lstD W x ds
theorem RW.dat {F : Hp} {A : List Addr} {H : Hp} (r : RW X.K F A W H) {x : El} {v : V} {d : PyData} (z : ElR X.K F A x v) (h : dat W x d) : Rq X.K H v d := by
  rcases h with rfl | ⟨ds, rfl, h⟩
  · exact Rq.same r.sub _ z
  · obtain ⟨a, vs, rfl, hs, z⟩ := r.lst z h
    exact .lst hs (Rqs.of (pd_imp (fun _ _ t => Rq.same r.sub _ t) z))
theorem ob_ne {x y : El} {d e : PyData} (hu : X.A.units + 64 < cLine) (hx : dat W x d) (hy : dat W y e) (hd : Dat d) (he : Dat e) (h : k (.d (.bool (!PyData.eqv d e))) W) : OB X (compareOp .NotEq) x y W k :=
  .of (op_eqQ true hu) fun F A H Q vx vy r zx zy q => ⟨d, e, r.dat zx hx, r.dat zy hy, hd, he, q.same r (.dd (Rq.bl _)) h⟩
/-- of numbers, texts, truths -/
theorem ob_eqI {i j : Int} (h : k (.d (.bool (decide (i = j)))) W) : OB X (compareOp .Eq) (.d (.int i)) (.d (.int j)) W k := .of op_eq fun F A H Q vx vy r zx zy q => by
  obtain rfl := Rq.of_int zx
  obtain rfl := Rq.of_int zy
  exact ⟨rfl, q.same r (.dd (by have : decide (V.int i = V.int j) = decide (i = j) := (by simp); rw [this]; exact Rq.bl _)) h⟩
theorem ob_neI {i j : Int} (h : k (.d (.bool (!decide (i = j)))) W) : OB X (compareOp .NotEq) (.d (.int i)) (.d (.int j)) W k := .of op_ne fun F A H Q vx vy r zx zy q => by
  obtain rfl := Rq.of_int zx
  obtain rfl := Rq.of_int zy
  exact ⟨rfl, q.same r (.dd (by have : decide (V.int i = V.int j) = decide (i = j) := (by simp); rw [this]; exact Rq.bl _)) h⟩
theorem ob_eqS {i j : Str} (h : k (.d (.bool (decide (i = j)))) W) : OB X (compareOp .Eq) (.d (.str i)) (.d (.str j)) W k := .of op_eq fun F A H Q vx vy r zx zy q => by
  obtain rfl := Rq.of_str zx
  obtain rfl := Rq.of_str zy
  exact ⟨rfl, q.same r (.dd (by have : decide (V.str i = V.str j) = decide (i = j) := (by simp); rw [this]; exact Rq.bl _)) h⟩
theorem ob_neS {i j : Str} (h : k (.d (.bool (!decide (i = j)))) W) : OB X (compareOp .NotEq) (.d (.str i)) (.d (.str j)) W k := .of op_ne fun F A H Q vx vy r zx zy q => by
  obtain rfl := Rq.of_str zx
  obtain rfl := Rq.of_str zy
  exact ⟨rfl, q.same r (.dd (by have : decide (V.str i = V.str j) = decide (i = j) := (by simp); rw [this]; exact Rq.bl _)) h⟩
theorem ob_inS {i j : Str} (h : k (.d (.bool (!(Builtin.Str.occurrences j i 0 j.length 1).isEmpty))) W) : OB X (compareOp .In) (.d (.str i)) (.d (.str j)) W k := .of op_in_str fun F A H Q vx vy r zx zy q => by
  obtain rfl := Rq.of_str zx
  obtain rfl := Rq.of_str zy
  exact ⟨i, j, rfl, rfl, q.same r (.dd (Rq.bl _)) h⟩
theorem inV_str {xs : List Str} {x : Str} : inV (.str x) (xs.map V.str) = decide (x ∈ xs) := by
  unfold inV
  rw [List.any_map]
  induction xs with
  | nil => simp
  | cons a r ih =>
    rw [List.any_cons, ih]
    have : (eqV (V.str a) (V.str x)) = decide (x = a) := by
      by_cases e : a = x
      · subst e; simp [eqV]
      · have e' : ¬ x = a := fun z => e z.symm
        simp [eqV, e, e']
    simp [this]
theorem pd_strs {K : PySem.W.Frag} {F : Hp} : ∀ {xs : List Str} {vs : List V}, Paired (fun d v => Rq K F v d) (xs.map PyData.str) vs → vs = xs.map V.str
  | [], _, .nil => rfl
  | x :: xs, _, .cons r t => by rw [pd_strs t, Rq.of_str r]; rfl
theorem pd_ints {K : PySem.W.Frag} {F : Hp} : ∀ {xs : List Int} {vs : List V}, Paired (fun d v => Rq K F v d) (xs.map PyData.int) vs → vs = xs.map V.int
  | [], _, .nil => rfl
  | x :: xs, _, .cons r t => by rw [pd_ints t, Rq.of_int r]; rfl
theorem pd_bls {K : PySem.W.Frag} {F : Hp} : ∀ {xs : List Bool} {vs : List V}, Paired (fun d v => Rq K F v d) (xs.map PyData.bool) vs → vs = xs.map V.bl
  | [], _, .nil => rfl
  | x :: xs, _, .cons r t => by rw [pd_bls t, Rq.of_bl r]; rfl
theorem flat_strs {xs : List Str} : (xs.map V.str).all flatV = true := by rw [List.all_map]; exact List.all_eq_true.mpr fun _ _ => rfl
/-- a text in a list, a tuple of texts -/
theorem ob_inL {x : Str} {y : El} {xs : List Str} (hy : lstD W y (xs.map .str) ∨ y = .d (.tuple (xs.map .str))) (h : k (.d (.bool (decide (x ∈ xs)))) W) : OB X (compareOp .In) (.d (.str x)) y W k := .of op_in_seq fun F A H Q vx vy r zx zy q => by
  obtain rfl := Rq.of_str zx
  rcases hy with hy | rfl
  · obtain ⟨a, vs, rfl, hs, z⟩ := r.lst zy hy
    obtain rfl := pd_strs z
    refine ⟨a, _, rfl, .inl (.inl hs), rfl, flat_strs, ?_⟩
    rw [if_neg (by decide), inV_str]
    exact q.same r (.dd (Rq.bl _)) h
  · obtain ⟨a, vs, rfl, hs, z⟩ := Rq.of_tup zy
    obtain rfl := pd_strs z
    refine ⟨a, _, rfl, .inr (r.sub.seqT hs), rfl, flat_strs, ?_⟩
    rw [if_neg (by decide), inV_str]
    exact q.same r (.dd (Rq.bl _)) h
theorem ob_ninL {x : Str} {y : El} {xs : List Str} (hy : lstD W y (xs.map .str) ∨ y = .d (.tuple (xs.map .str))) (h : k (.d (.bool (!decide (x ∈ xs)))) W) : OB X (compareOp .NotIn) (.d (.str x)) y W k := .of op_notIn_seq fun F A H Q vx vy r zx zy q => by
  obtain rfl := Rq.of_str zx
  rcases hy with hy | rfl
  · obtain ⟨a, vs, rfl, hs, z⟩ := r.lst zy hy
    obtain rfl := pd_strs z
    refine ⟨a, _, rfl, .inl (.inl hs), rfl, flat_strs, ?_⟩
    rw [if_pos rfl, inV_str]
    exact q.same r (.dd (Rq.bl _)) h
  · obtain ⟨a, vs, rfl, hs, z⟩ := Rq.of_tup zy
    obtain rfl := pd_strs z
    refine ⟨a, _, rfl, .inr (r.sub.seqT hs), rfl, flat_strs, ?_⟩
    rw [if_pos rfl, inV_str]
    exact q.same r (.dd (Rq.bl _)) h
theorem pd_one {α β : Type} {F : α → β → Prop} {a : α} {m : List β} (h : Paired F [a] m) : ∃ b, m = [b] ∧ F a b := by
  cases h with
  | cons r t => cases t; exact ⟨_, rfl, r⟩
theorem pd_two {α β : Type} {F : α → β → Prop} {a b : α} {m : List β} (h : Paired F [a, b] m) : ∃ c d, m = [c, d] ∧ F a c ∧ F b d := by
  cases h with
  | cons r t => obtain ⟨d, rfl, q⟩ := pd_one t; exact ⟨_, _, rfl, r, q⟩
theorem cb_lenS {x : Str} (hl : x.length ≤ sizeLine) (h : k (.d (.int x.length)) W) : CB X (.builtin "len") [.d (.str x)] W k := .of call_len_str fun F A H Q vs r zs q => by
  obtain ⟨v, rfl, z⟩ := pd_one zs
  obtain rfl := Rq.of_str z
  exact ⟨x, rfl, hl, q.same r (.dd (Rq.int _)) h⟩
theorem cb_lenT {ds : List PyData} (h : k (.d (.int ds.length)) W) : CB X (.builtin "len") [.d (.tuple ds)] W k := .of call_len_seq fun F A H Q vs r zs q => by
  obtain ⟨v, rfl, z⟩ := pd_one zs
  obtain ⟨a, vs, rfl, hs, z⟩ := Rq.of_tup z
  exact ⟨a, vs, rfl, .inr (r.sub.seqT hs), by rw [← pd_len z]; exact q.same r (.dd (Rq.int _)) h⟩
theorem cb_lenL {ds : List PyData} {x : El} (hx : lstD W x ds) (h : k (.d (.int ds.length)) W) : CB X (.builtin "len") [x] W k := .of call_len_seq fun F A H Q vs r zs q => by
  obtain ⟨v, rfl, z⟩ := pd_one zs
  obtain ⟨a, vs, rfl, hs, z⟩ := r.lst z hx
  exact ⟨a, vs, rfl, .inl (.inl hs), by rw [← pd_len z]; exact q.same r (.dd (Rq.int _)) h⟩
theorem cb_divmod {i j : Int} (hc : CDiv i j) (h : k (.d (.tuple [.int (i / j), .int (i % j)])) W) : CB X (.builtin "divmod") [.d (.int i), .d (.int j)] W k := .of call_divmod fun F A H Q vs r zs q => by
  obtain ⟨u, v, rfl, z1, z2⟩ := pd_two zs
  obtain rfl := Rq.of_int z1
  obtain rfl := Rq.of_int z2
  exact ⟨i, j, rfl, hc, fun p hp => q.newT r hp (.cons (Rq.int _) (.cons (Rq.int _) .nil)) h⟩
theorem cb_all {x : El} {bs : List Bool} (hc : X.calm = true) (hx : lstD W x (bs.map .bool)) (h : k (.d (.bool (bs.all id))) W) : CB X (.builtin "all") [x] W k := .of (call_all hc) fun F A H Q vs r zs q => by
  obtain ⟨v, rfl, z⟩ := pd_one zs
  obtain ⟨a, vs, rfl, hs, z⟩ := r.lst z hx
  obtain rfl := pd_bls z
  exact ⟨a, bs, rfl, .inl hs, q.same r (.dd (Rq.bl _)) h⟩
theorem cb_tupL {x : El} {ds : List PyData} (hx : lstD W x ds) (h : k (.d (.tuple ds)) W) : CB X (.type "tuple") [x] W k := .of call_tuple_of fun F A H Q vs r zs q => by
  obtain ⟨v, rfl, z⟩ := pd_one zs
  obtain ⟨a, vs, rfl, hs, z⟩ := r.lst z hx
  exact ⟨a, vs, rfl, .inl ⟨.inl hs, fun l hl => q.newT r hl z h⟩⟩
def tyD : PyData → String
  | .none => "NoneType" | .bool _ => "bool" | .int _ => "int" | .str _ => "str" | .list _ => "list" | .tuple _ => "tuple" | .dict _ => "dict"
theorem call_isQ : CallR X (.builtin "isinstance") (fun xs H Q => ∃ x d T b, xs = [x, .ty T] ∧ Rq X.K H x d ∧ PySem.W.kitOne X.K (.type (tyD d)) (.type T) = some b ∧ Q (.bl b) H) := by
  intro pins s σ H xs us Q I r h
  obtain ⟨x, d, T, b, rfl, rd, e, q⟩ := h
  obtain ⟨u, v, rfl, ru, rv⟩ := r.two
  cases (show v = Value.type T from rv)
  have fin : ∀ tk, EP X pins σ Q (.bool b) { s with toks := tk } := fun tk => ⟨.bl b, H, I.tok tk, rfl, q⟩
  cases rd with
  | non => exact isinst_ok I ru .non e fin
  | bl y => exact isinst_ok I ru (.bl y) e fin
  | int i => exact isinst_ok I ru (.int i) e fin
  | str y => exact isinst_ok I ru (.str y) e fin
  | lst h _ =>
    rcases h with h | ⟨o, h⟩
    · exact isinst_ok I ru (.lst h) e fin
    · exact isinst_ok I ru (.frz h) e fin
  | @tup a vs ds h _ =>
    cases (show u = Value.ref a from ru)
    obtain ⟨its, _, ⟨o, h1, h2, _⟩, _⟩ := I.tuple h
    exact PySem.W.kia_one PySem.W.kitx_tuple I.kIn ⟨o, h1, h2⟩ e (fun z => nomatch z) fin
  | dct h _ => exact isinst_ok I ru (.dK h) e fin
theorem kitD (K : PySem.W.Frag) (d : PyData) (T : String) (h : T = "int" ∨ T = "bool" ∨ T = "str" ∨ T = "tuple" ∨ T = "list" ∨ T = "dict") : PySem.W.kitOne K (.type (tyD d)) (.type T) = some (tyD d == T || (tyD d == "bool" && T == "int")) := by
  cases d <;> rcases h with rfl | rfl | rfl | rfl | rfl | rfl <;> rfl
def isD (d : PyData) (T : String) : Bool := tyD d == T || (tyD d == "bool" && T == "int")
/-- isinstance(e, T) -/
theorem be_isinst {e : Expr} {T : Str} {Ts : String} {p p' pos : Pos} (hg : Gl X "isinstance") (hm : X.mg "isinstance" = none) (hv : bootBuiltins "isinstance" = some (.builtin "isinstance")) (hgT : Gl X T) (hmT : X.mg T = none) (hvT : bootBuiltins T = some (.type Ts))
    (hT : Ts = "int" ∨ Ts = "bool" ∨ Ts = "str" ∨ Ts = "tuple" ∨ Ts = "list" ∨ Ts = "dict") (h : BE X S W e fun x W1 => ∃ d, dat W1 x d ∧ k (.d (.bool (isD d Ts))) W1)
    (hn : T ≠ "__name__" := by decide) (hd : (T == ("__debug__" : Str)) = false := by decide)
    (hs : starEach [e, .Name T p'] X.env = (false, eval e X.env) :: starEach [.Name T p'] X.env := by rfl) (hs2 : starEach [.Name T p'] X.env = [(false, eval (.Name T p') X.env)] := by rfl) (hpl : (backTo pos (starEach [.Name T p'] X.env)).any (·.1) = false := by rfl) :
    BE X S W (.Call (.Name "isinstance" p) [e, .Name T p'] [] pos) k :=
  .of (pe_callB call_isQ hg hm hv (pa_cons pe_U (pa_cons (pe_bltn (v := .ty Ts) hgT hmT hvT rfl hn hd) pa_nil hs2) hs) (by decide) (by decide) hs hpl) fun F A σ H Q x0 r sr q => h.use x0 r sr fun F1 A1 W1 H1 x vx e1 r1 z1 ⟨d, hd, h1⟩ => by
    exact ⟨vx, d, Ts, _, rfl, r1.dat z1 hd, kitD X.K d Ts hT, (q.ext e1).same r1 (.dd (Rq.bl _)) h1⟩
def rUM (X : Bc) (id : String) : V → List V → Hp → VK → Prop := fun x xs H Q => ∃ r, MtR X id r ∧ r x xs H Q
theorem mt_U {id : String} : MtR X id (rUM X id) := fun pins s σ H x xs v us Q I rx rs ⟨r, h, q⟩ => h pins s σ H x xs v us Q I rx rs q
/-- T: the receiver's type -/
def MB (X : Bc) (T id : String) (x : El) (xs : List El) (W : Wl) (k : KB) : Prop := ∀ F A H Q v vs, RW X.K F A W H → ElR X.K F A x v → Paired (ElR X.K F A) xs vs → Post X.K F A k Q → rUM X id v vs H Q
theorem MB.of {T id : String} {x : El} {xs : List El} {r1 : V → List V → Hp → VK → Prop} (hc : MtR X id r1) (i : ∀ F A H Q v vs, RW X.K F A W H → ElR X.K F A x v → Paired (ElR X.K F A) xs vs → Post X.K F A k Q → r1 v vs H Q) : MB X T id x xs W k :=
  fun F A H Q v vs r zx z q => ⟨r1, hc, i F A H Q v vs r zx z q⟩
/-- the receiver is of that type -/
def isTy (W : Wl) : El → String → Prop
  | .d (.str _), T => T = "str"
  | .d (.list _), T => T = "list"
  | .o j, T => (T = "list" ∧ ∃ es, W[j]? = some (.lst es)) ∨ (T = "dict" ∧ ((∃ es, W[j]? = some (.dK es)) ∨ ∃ es, W[j]? = some (.dT es)))
  | _, _ => False
theorem RW.ty {F : Hp} {A : List Addr} {H : Hp} (r : RW X.K F A W H) {x : El} {v : V} {T : String} (z : ElR X.K F A x v) (h : isTy W x T) : tyV X.K T v H := by
  cases x with
  | o j =>
    obtain ⟨a, ha, rfl⟩ := z
    rcases h with ⟨rfl, es, hj⟩ | ⟨rfl, ⟨es, hj⟩ | ⟨es, hj⟩⟩
    · obtain ⟨h, e, vs, rfl, p⟩ := r.obj j a _ ha hj
      exact .inl ⟨rfl, vs, SqL.of e⟩
    · obtain ⟨h, e, vs, rfl, p⟩ := r.obj j a _ ha hj
      exact .inr (.inr (.inl ⟨rfl, .inl ⟨vs, e⟩⟩))
    · obtain ⟨h, e, vs, rfl, p⟩ := r.obj j a _ ha hj
      exact .inr (.inr (.inl ⟨rfl, .inr ⟨vs, e⟩⟩))
  | s ns => exact h.elim
  | x C => exact h.elim
  | p ks => exact h.elim
  | f a => exact h.elim
  | t xs => exact h.elim
  | d x =>
    cases x with
    | str y => obtain rfl := Rq.of_str z; exact h
    | list ds =>
      obtain ⟨a, vs, rfl, hs, _⟩ := Rq.of_lst z
      exact .inl ⟨h, vs, .inl (r.sub.rd hs)⟩
    | _ => exact h.elim
theorem be_bm {o e : Expr} {es : List Expr} {name : Str} {T id : String} {apos cpos : Pos} (pa : PlainAttrs T) (slot : Slot T name id) (hty : typeOf (.builtin id) = pure (.type "method_descriptor"))
    (h : BE X S W o fun x W1 => isTy W1 x T ∧ BA X S W1 (e :: es) fun xs W2 => MB X T id x xs W2 k)
    (hbase : attributeBase o name X.env (eval o X.env) = eval o X.env := by rfl)
    (hfew : ((backTo cpos (starEach (e :: es) X.env)).all (fun x => !x.1) && (backToKw cpos (keywordEach [] X.env)).all (fun x => x.1.isSome)
      && decide ((e :: es).length + ([] : List Keyword).length + (if ([] : List Keyword).isEmpty then 0 else 1) < 30)) = true := by rfl)
    (hline : (apos.endLine == cpos.line) = true := by rfl) (hs : starEach (e :: es) X.env = (false, eval e X.env) :: starEach es X.env := by rfl) (hplain : (backTo cpos (starEach es X.env)).any (·.1) = false := by rfl) :
    BE X S W (.Call (.Attribute o name apos) (e :: es) [] cpos) k :=
  .of (pe_bm pa slot hty mt_U pe_U pa_U hbase hfew hline hs hplain) fun F A σ H Q x0 r sr q => h.use x0 r sr fun F1 A1 W1 H1 x vx e1 r1 z1 ⟨ht, h1⟩ =>
    ⟨r1.ty z1 ht, h1.use (x0.trans e1) r1 (sr.ext e1) fun F2 A2 W2 H2 xs vs e2 r2 z2 h2 => h2 F2 A2 H2 Q vx vs r2 (z1.ext e2) z2 (q.ext (e1.trans e2))⟩
theorem mb_append {j : Nat} {es : List El} {y : El} (hj : W[j]? = some (.lst es)) (hl : es.length < sizeLine) (h : k (.d .none) (W.set j (.lst (es ++ [y])))) : MB X "list" "list.append" (.o j) [y] W k := .of mt_append fun F A H Q v vs r zx z q => by
  obtain ⟨a, ws, rfl, ha, hH, p⟩ := r.at zx hj
  obtain ⟨u, rfl, zu⟩ := pd_one z
  exact ⟨a, ws, u, rfl, rfl, hH, by rw [← pd_len p]; exact hl, q.put r ha (o := .lst (es ++ [y])) ⟨_, rfl, pd_app p (.cons zu .nil)⟩ (.dd Rq.non) h⟩
end
end L2
namespace L2
open PySem PySem.Spec PyProof.Rows
structure DB where
  nx : Sl → Wl → Prop
  rt : KB
  bk : Sl → Wl → Prop := fun _ _ => False
  ct : Sl → Wl → Prop := fun _ _ => False
/-- from the def's entry on: its first n objects are others' -/
structure Ex1 (n : Nat) (F : Hp) (A : List Addr) (F' : Hp) (A' : List Addr) : Prop where
  same : Same F F'
  pre : A.take n <+: A'
  len : n ≤ A'.length
theorem Ex1.refl {n : Nat} {F : Hp} {A : List Addr} (h : n ≤ A.length) : Ex1 n F A F A := ⟨.refl _, List.take_prefix _ _, h⟩
theorem take_pre {n : Nat} {A A' : List Addr} (h : A.take n <+: A') (hn : n ≤ A.length) : A'.take n = A.take n := by
  obtain ⟨r, rfl⟩ := h
  rw [List.take_append_of_le_length (by rw [List.length_take]; omega), List.take_take, Nat.min_self]
theorem Ex1.trans {n : Nat} {F F1 F2 : Hp} {A A1 A2 : List Addr} (hn : n ≤ A.length) (a : Ex1 n F A F1 A1) (b : Ex1 n F1 A1 F2 A2) : Ex1 n F A F2 A2 :=
  ⟨a.same.trans b.same, by rw [← take_pre a.pre hn]; exact b.pre, b.len⟩
theorem Ext.ex1 {n : Nat} {F F1 : Hp} {A A1 : List Addr} (hn : n ≤ A.length) (a : Ext F A F1 A1) : Ex1 n F A F1 A1 := ⟨a.same, (List.take_prefix _ _).trans a.pre, Nat.le_trans hn a.pre.length_le⟩
structure Ends1 (K : PySem.W.Frag) (n : Nat) (F : Hp) (A : List Addr) (D : DB) (E : Ends) : Prop where
  nx : ∀ F' A' W' H' S' σ', Ex1 n F A F' A' → RW K F' A' W' H' → SR K F' A' S' σ' → D.nx S' W' → E.nx σ' H'
  bk : ∀ F' A' W' H' S' σ', Ex1 n F A F' A' → RW K F' A' W' H' → SR K F' A' S' σ' → D.bk S' W' → E.bk σ' H'
  ct : ∀ F' A' W' H' S' σ', Ex1 n F A F' A' → RW K F' A' W' H' → SR K F' A' S' σ' → D.ct S' W' → E.ct σ' H'
  rt : ∀ F' A' W' H' e v, Ex1 n F A F' A' → RW K F' A' W' H' → ElR K F' A' e v → D.rt e W' → E.rt v H'
theorem Ends1.ext {K : PySem.W.Frag} {n : Nat} {F F1 : Hp} {A A1 : List Addr} {D : DB} {E : Ends} (hn : n ≤ A.length) (h : Ends1 K n F A D E) (x : Ex1 n F A F1 A1) : Ends1 K n F1 A1 D E :=
  ⟨fun F' A' W' H' S' σ' y => h.nx F' A' W' H' S' σ' (x.trans hn y), fun F' A' W' H' S' σ' y => h.bk F' A' W' H' S' σ' (x.trans hn y), fun F' A' W' H' S' σ' y => h.ct F' A' W' H' S' σ' (x.trans hn y), fun F' A' W' H' e v y => h.rt F' A' W' H' e v (x.trans hn y)⟩
/-- what the entry knew still holds, and the first objects are others' -/
structure Bc.Ams (X : Bc) (n : Nat) (F : Hp) (A : List Addr) : Prop where
  am : X.Am F A
  le : X.A0.length ≤ n
theorem Bc.Ams.ext {X : Bc} {n : Nat} {F F' : Hp} {A A' : List Addr} (x : X.Ams n F A) (e : Ext F A F' A') : X.Ams n F' A' := ⟨x.am.trans e, x.le⟩
theorem Bc.Ams.ex1 {X : Bc} {n : Nat} {F F' : Hp} {A A' : List Addr} (x : X.Ams n F A) (hn : n ≤ A.length) (e : Ex1 n F A F' A') : X.Ams n F' A' := ⟨⟨x.am.same.trans e.same, by
  obtain ⟨r, hr⟩ := x.am.pre
  have h1 : X.A0 = A.take X.A0.length := by rw [← hr, List.take_left]
  have h2 : A.take X.A0.length = (A.take n).take X.A0.length := by rw [List.take_take, Nat.min_eq_left x.le]
  rw [h1, h2]
  exact (List.take_prefix _ _).trans e.pre⟩, x.le⟩
theorem Bc.Ams.up {X : Bc} {n m : Nat} {F : Hp} {A : List Addr} (x : X.Ams n F A) (h : n ≤ m) : X.Ams m F A := ⟨x.am, Nat.le_trans x.le h⟩
def tDS (X : Bc) (n : Nat) (S : Sl) (W : Wl) (D : DB) : TS := fun E σ H => ∃ F A, n ≤ A.length ∧ X.Ams n F A ∧ RW X.K F A W H ∧ SR X.K F A S σ ∧ Ends1 X.K n F A D E
def BS (X : Bc) (n : Nat) (S : Sl) (W : Wl) (st : Stmt) (D : DB) : Prop := PS X st (tDS X n S W D)
def BSs (X : Bc) (n : Nat) (S : Sl) (W : Wl) (st : List Stmt) (D : DB) : Prop := PSs X st (tDS X n S W D)
def tUSt (X : Bc) (st : Stmt) : TS := fun E σ H => ∃ t, PS X st t ∧ t E σ H
def tUSs (X : Bc) (st : List Stmt) : TS := fun E σ H => ∃ t, PSs X st t ∧ t E σ H
section
variable {X : Bc} {n : Nat} {S : Sl} {W : Wl} {D : DB}
theorem ps_U {st : Stmt} : PS X st (tUSt X st) := fun pins s σ H E I ⟨t, h, q⟩ => h pins s σ H E I q
theorem pss_U {st : List Stmt} : PSs X st (tUSs X st) := fun pins s σ H E I ⟨t, h, q⟩ => h pins s σ H E I q
theorem BS.of {st : Stmt} {t : TS} (h : PS X st t) (i : ∀ F A σ H E, n ≤ A.length → X.Ams n F A → RW X.K F A W H → SR X.K F A S σ → Ends1 X.K n F A D E → t E σ H) : BS X n S W st D :=
  fun pins s σ H E I ⟨F, A, hn, x0, r, sr, q⟩ => h pins s σ H E I (i F A σ H E hn x0 r sr q)
theorem BSs.of {st : List Stmt} {t : TS} (h : PSs X st t) (i : ∀ F A σ H E, n ≤ A.length → X.Ams n F A → RW X.K F A W H → SR X.K F A S σ → Ends1 X.K n F A D E → t E σ H) : BSs X n S W st D :=
  fun pins s σ H E I ⟨F, A, hn, x0, r, sr, q⟩ => h pins s σ H E I (i F A σ H E hn x0 r sr q)
theorem BS.use {st : Stmt} (h : BS X n S W st D) {F : Hp} {A : List Addr} {σ : St} {H : Hp} {E : Ends} (hn : n ≤ A.length) (x0 : X.Ams n F A) (r : RW X.K F A W H) (s : SR X.K F A S σ) (q : Ends1 X.K n F A D E) : tUSt X st E σ H := ⟨_, h, F, A, hn, x0, r, s, q⟩
theorem BSs.use {st : List Stmt} (h : BSs X n S W st D) {F : Hp} {A : List Addr} {σ : St} {H : Hp} {E : Ends} (hn : n ≤ A.length) (x0 : X.Ams n F A) (r : RW X.K F A W H) (s : SR X.K F A S σ) (q : Ends1 X.K n F A D E) : tUSs X st E σ H := ⟨_, h, F, A, hn, x0, r, s, q⟩
theorem bs_nil (h : D.nx S W) : BSs X n S W [] D := .of pss_nil fun F A σ H E hn x0 r sr q => q.nx F A W H S σ (.refl hn) r sr h
theorem bs_cons {st : Stmt} {rest : List Stmt} (h : BS X n S W st { D with nx := fun S' W' => BSs X n S' W' rest D }) : BSs X n S W (st :: rest) D :=
  .of (pss_cons ps_U pss_U) fun F A σ H E hn x0 r sr q => h.use hn x0 r sr ⟨fun F' A' W' H' S' σ' x r' sr' h' => h'.use x.len (x0.ex1 hn x) r' sr' (q.ext hn x), q.bk, q.ct, q.rt⟩
theorem bs_one {st : Stmt} (h : BS X n S W st D) : BSs X n S W [st] D := pss_one h
theorem bs_expr {e : Expr} {pos : Pos} (h : BE X S W e fun _ W1 => D.nx S W1) (hs : swapsWith e none pos.line X.env = pure false := by rfl) : BS X n S W (.Expr e pos) D :=
  .of (ps_expr pe_U hs) fun F A σ H E hn x0 r sr q => h.use x0.am r sr fun F1 A1 W1 H1 x vx e1 r1 z1 h1 => q.nx F1 A1 W1 H1 S σ (e1.ex1 hn) r1 (sr.ext e1) h1
theorem bs_ret {e : Expr} {pos : Pos} (h : BE X S W e D.rt) : BS X n S W (.Return (some e) pos) D :=
  .of (ps_ret pe_U) fun F A σ H E hn x0 r sr q => h.use x0.am r sr fun F1 A1 W1 H1 x vx e1 r1 z1 h1 => q.rt F1 A1 W1 H1 x vx (e1.ex1 hn) r1 z1 h1
theorem bs_if {c : Expr} {a b : List Stmt} {pos : Pos} (h : BT X S W c fun t W1 => if t = true then BSs X n S W1 a D else BSs X n S W1 b D) : BS X n S W (.If c a b pos) D :=
  .of (ps_if pt_U pss_U pss_U) fun F A σ H E hn x0 r sr q => h.use x0.am r sr fun F1 A1 W1 H1 t e1 r1 h1 => by
    have hn1 : n ≤ A1.length := (e1.ex1 hn).len
    cases t with
    | true =>
      rw [if_pos rfl] at h1 ⊢
      exact h1.use hn1 (x0.ext e1) r1 (sr.ext e1) (q.ext hn (e1.ex1 hn))
    | false =>
      rw [if_neg (by decide)] at h1 ⊢
      exact h1.use hn1 (x0.ext e1) r1 (sr.ext e1) (q.ext hn (e1.ex1 hn))
theorem bs_set {i : Nat} {x : Str} {e : Expr} {pos pos' : Pos} (hN : X.N.Nodup) (hi : X.N[i]? = some x) (hx : Loc X.env.scope x) (h : BE X S W e fun y W1 => D.nx (S.set i (some y)) W1) (hs : swapsWith e (some (.Name x pos')) pos.line X.env = pure false := by rfl) (hf : X.fn x = true ∨ X.env.scope.names.lookup x = some .local := by first | exact .inl rfl | exact .inr rfl | assumption) :
    BS X n S W (.Assign [.Name x pos'] e pos) D :=
  .of (ps_set hN hi hx pe_U hs hf) fun F A σ H E hn x0 r sr q => h.use x0.am r sr fun F1 A1 W1 H1 y vy e1 r1 z1 h1 => q.nx F1 A1 W1 H1 _ _ (e1.ex1 hn) r1 ((sr.ext e1).set z1 i) h1
/-- targets: names, a tuple of names -/
def tUG (X : Bc) (tg : Expr) : TG := fun v σ H Q => ∃ t, PG X tg t ∧ t v σ H Q
theorem pg_U {tg : Expr} : PG X tg (tUG X tg) := fun pins s σ H v u Q I r ⟨t, h, q⟩ => h pins s σ H v u Q I r q
def BG (X : Bc) (S : Sl) (W : Wl) (tg : Expr) (e : El) (k : Sl → Wl → Prop) : Prop := ∀ F A σ H v (Q : St → Hp → Prop), X.Am F A → RW X.K F A W H → SR X.K F A S σ → ElR X.K F A e v →
  (∀ F' A' W' H' S' σ', Ext F A F' A' → RW X.K F' A' W' H' → SR X.K F' A' S' σ' → k S' W' → Q σ' H') → tUG X tg v σ H Q
theorem bg_name {i : Nat} {x : Str} {pos : Pos} {e : El} {k : Sl → Wl → Prop} (hN : X.N.Nodup) (hi : X.N[i]? = some x) (hx : Loc X.env.scope x) (h : k (S.set i (some e)) W) (hf : X.fn x = true ∨ X.env.scope.names.lookup x = some .local := by first | exact .inl rfl | exact .inr rfl | assumption) : BG X S W (.Name x pos) e k :=
  fun F A σ H v Q x0 r sr z q => ⟨_, pg_name hN hi hx hf, q F A W H _ _ .refl r (sr.set z i) h⟩
/-- the names of a tuple target: their slots -/
inductive Nms (X : Bc) : List Expr → List Nat → Prop
  | nil : Nms X [] []
  | cons {i : Nat} {x : Str} {pos : Pos} {es : List Expr} {is : List Nat} (hN : X.N.Nodup) (hi : X.N[i]? = some x) (hx : Loc X.env.scope x) (t : Nms X es is)
      (hf : X.fn x = true ∨ X.env.scope.names.lookup x = some .local := by first | exact .inl rfl | exact .inr rfl | assumption)
      (hs : (assignEach (.Name x pos :: es) X.env).map (·.2) = assign (.Name x pos) X.env :: (assignEach es X.env).map (·.2) := by rfl) : Nms X (.Name x pos :: es) (i :: is)
def gNms : List Nat → TGs
  | [] => gNil
  | i :: is => gCons (gName i) (gNms is)
theorem Nms.pgs : ∀ {es : List Expr} {is : List Nat}, Nms X es is → PGs X es (gNms is)
  | _, _, .nil => pgs_nil
  | _, _, .cons hN hi hx t hf hs => pgs_cons (pg_name hN hi hx hf) t.pgs hs
def setAll (S : Sl) : List Nat → List El → Sl
  | i :: is, e :: es => setAll (S.set i (some e)) is es
  | _, _ => S
def setAllσ (σ : St) : List Nat → List V → St
  | i :: is, e :: es => setAllσ (σ.set i (some e)) is es
  | _, _ => σ
theorem gNms_set : ∀ {is : List Nat} {vs : List V} {σ : St} {H : Hp} {Q : St → Hp → Prop}, is.length = vs.length → Q (setAllσ σ is vs) H → gNms is vs σ H Q
  | [], [], σ, H, Q, _, q => ⟨rfl, q⟩
  | [], _ :: _, _, _, _, h, _ => by simp at h
  | _ :: _, [], _, _, _, h, _ => by simp at h
  | i :: is, v :: vs, σ, H, Q, h, q => ⟨v, vs, rfl, gNms_set (is := is) (by simpa using h) q⟩
theorem SR.setAll {K : PySem.W.Frag} {F : Hp} {A : List Addr} : ∀ {is : List Nat} {es : List El} {vs : List V} {S : Sl} {σ : St}, SR K F A S σ → Paired (ElR K F A) es vs → SR K F A (setAll S is es) (setAllσ σ is vs)
  | [], _, _, _, _, r, _ => r
  | _ :: _, _, _, _, _, r, .nil => r
  | i :: is, _, _, S, σ, r, .cons z t => SR.setAll (is := is) (r.set z i) t
theorem bg_tup {es : List Expr} {is : List Nat} {c : Nat} {pos : Pos} {ds : List PyData} {k : Sl → Wl → Prop} (hc : X.calm = true) (hm : Nms X es is) (hl : is.length = ds.length) (h : k (setAll S is (datas ds)) W)
    (hn : (assignEach es X.env).length = is.length := by rfl) (hst : (assignEach es X.env).findIdx? (·.1) = none := by rfl) : BG X S W (.Tuple es c pos) (.d (.tuple ds)) k :=
  fun F A σ H v Q x0 r sr z q => by
    obtain ⟨a, vs, rfl, hs, p⟩ := Rq.of_tup z
    exact ⟨_, pg_tup hc hm.pgs hn hst, a, vs, rfl, r.sub.seqT hs, by rw [← pd_len p, hl], gNms_set (by rw [hl, pd_len p]) (q F A W H _ _ .refl r (sr.setAll (pd_datas' p)) h)⟩
theorem bs_asg {tg e : Expr} {pos : Pos} (h : BE X S W e fun y W1 => BG X S W1 tg y D.nx) (hs : swapsWithSole [tg] e pos.line X.env = pure false := by rfl) (hw : swappedStores [tg] e X.env = pure none := by rfl)
    (h1 : (assignEach [tg] X.env).map (·.2) = [assign tg X.env] := by rfl) : BS X n S W (.Assign [tg] e pos) D :=
  .of (ps_asg pe_U pg_U hs hw h1) fun F A σ H E hn x0 r sr q => h.use x0.am r sr fun F1 A1 W1 H1 y vy e1 r1 z1 h1 => h1 F1 A1 σ H1 vy _ (x0.am.trans e1) r1 (sr.ext e1) z1 fun F2 A2 W2 H2 S2 σ2 e2 r2 sr2 h2 => q.nx F2 A2 W2 H2 S2 σ2 ((e1.trans e2).ex1 hn) r2 sr2 h2
/-- o[i] = v -/
def tUSet (X : Bc) : TSet := fun o i v H Q => ∃ t, PSet X t ∧ t o i v H Q
theorem pset_U : PSet X (tUSet X) := fun pins s σ H o i v ov iv u Q I r1 r2 r3 ⟨t, h, q⟩ => h pins s σ H o i v ov iv u Q I r1 r2 r3 q
def SB (X : Bc) (o i v : El) (W : Wl) (k : Wl → Prop) : Prop := ∀ F A H vo vi vv (Q : Hp → Prop), RW X.K F A W H → ElR X.K F A o vo → ElR X.K F A i vi → ElR X.K F A v vv → (∀ F' A' W' H', Ext F A F' A' → RW X.K F' A' W' H' → k W' → Q H') → tUSet X vo vi vv H Q
theorem bg_sub {o i : Expr} {pos : Pos} {e : El} {k : Sl → Wl → Prop} (h : BE X S W o fun x W1 => BE X S W1 i fun y W2 => SB X x y e W2 fun W3 => k S W3)
    (ha : ∀ v, assign (.Subscript o i pos) X.env v = (do
      let ov ← holding [v] (eval o X.env)
      let iv ← holding [v, ov] (eval i X.env)
      standAt pos
      holding [v, ov, iv] (setItem ov iv v)
      release [v, ov, iv] []) := by intro _; rfl) : BG X S W (.Subscript o i pos) e k :=
  fun F A σ H v Q x0 r sr z q => ⟨_, pg_sub pe_U pe_U pset_U ha, h.use x0 r sr fun F1 A1 W1 H1 x vx e1 r1 z1 h1 => h1.use (x0.trans e1) r1 (sr.ext e1) fun F2 A2 W2 H2 y vy e2 r2 z2 h2 =>
    h2 F2 A2 H2 vx vy v _ r2 (z1.ext e2) z2 (z.ext (e1.trans e2)) fun F3 A3 W3 H3 e3 r3 h3 => q F3 A3 W3 H3 S σ ((e1.trans e2).trans e3) r3 (sr.ext ((e1.trans e2).trans e3)) h3⟩
theorem sb_lst {j : Nat} {es : List El} {i : Int} {m : Nat} {v : El} {k : Wl → Prop} (hj : W[j]? = some (.lst es)) (hi : ixN es.length i = some m) (h : k (W.set j (.lst (es.set m v)))) : SB X (.o j) (.d (.int i)) v W k :=
  fun F A H vo vi vv Q r zo zi zv q => by
    obtain ⟨a, ws, rfl, ha, hH, p⟩ := r.at zo hj
    obtain rfl := Rq.of_int zi
    exact ⟨_, set_list, a, ws, i, m, rfl, rfl, hH, by rw [← pd_len p]; exact hi, q F A _ _ .refl (r.put ha (o := .lst (es.set m v)) ⟨_, rfl, pd_set zv m p⟩) h⟩
def El.below (m : Nat) : El → Prop
  | .d _ => True
  | .s _ => True
  | .x _ => True
  | .p _ => True
  | .f _ => True
  | .t xs => ∀ k, .inr k ∈ xs → k < m
  | .o k => k < m
def OD.below (m : Nat) : OD → Prop
  | .lst es => ∀ e ∈ es, e.below m
  | .dK kvs => ∀ p ∈ kvs, p.2.below m
  | .dT kvs => ∀ p ∈ kvs, p.2.below m
  | .fT _ kvs => ∀ p ∈ kvs, p.2.below m
  | .fK _ kvs => ∀ p ∈ kvs, p.2.below m
  | .x _ => True
end
end L2
namespace L2
open PySem PySem.Spec PyProof.Rows
theorem Ex1.le {m n : Nat} {F F' : Hp} {A A' : List Addr} (hm : m ≤ n) (x : Ex1 n F A F' A') : Ex1 m F A F' A' := ⟨x.same, by
  have : A.take m = (A.take n).take m := by rw [List.take_take, Nat.min_eq_left hm]
  rw [this]
  exact (List.take_prefix _ _).trans x.pre, Nat.le_trans hm x.len⟩
structure Walks (K : PySem.W.Frag) (m : Nat) (F1 : Hp) (A1 : List Addr) (G : Wl → Prop) (J : It) (ds : List PyData) : Prop where
  go : ∀ i F' A' W' H', i < ds.length → Ex1 m F1 A1 F' A' → RW K F' A' W' H' → G W' → J.go i H'
  yld : ∀ i F' A' W' H' x H'', i < ds.length → Ex1 m F1 A1 F' A' → RW K F' A' W' H' → G W' → J.yld i H' x H'' → H'' = H' ∧ ∃ d, ds[i]? = some d ∧ Rq K F' x d
  stop : ∀ F' A' W' H', Ex1 m F1 A1 F' A' → RW K F' A' W' H' → G W' → J.stop ds.length H'
def tUI (X : Bc) (tg iter : Expr) : TI := fun σ H R => ∃ t, PI X tg iter t ∧ t σ H R
theorem pi_U {X : Bc} {tg iter : Expr} : PI X tg iter (tUI X tg iter) := fun pins s σ H R I ⟨t, h, q⟩ => h pins s σ H R I q
def BI (X : Bc) (S : Sl) (W : Wl) (tg iter : Expr) (k : Nat → (Wl → Prop) → List PyData → Wl → Prop) : Prop := ∀ F A σ H (R : It → Hp → Prop), X.Am F A → RW X.K F A W H → SR X.K F A S σ →
  (∀ m G F1 A1 W1 H1 ds J, Ext F A F1 A1 → RW X.K F1 A1 W1 H1 → m ≤ A1.length → Walks X.K m F1 A1 G J ds → k m G ds W1 → R J H1) → tUI X tg iter σ H R
abbrev GT : Wl → Prop := fun _ => True
section
variable {X : Bc} {n : Nat} {S : Sl} {W : Wl} {D : DB} {tg : Expr} {ki : Nat → (Wl → Prop) → List PyData → Wl → Prop}
theorem bi_list {iter : Expr} (h : BE X S W iter fun y W1 => ∃ ds, y = .d (.list ds) ∧ ki 0 GT ds W1) : BI X S W tg iter ki := fun F A σ H R x0 r sr q =>
  ⟨_, pi_list pe_U, h.use x0 r sr fun F1 A1 W1 H1 y vy e1 r1 z1 ⟨ds, hy, h1⟩ => by
    subst hy
    obtain ⟨a, vs, rfl, hv, z⟩ := Rq.of_lst z1
    have hl : ∀ {F' A' W' H'}, Ex1 0 F1 A1 F' A' → RW X.K F' A' W' H' → SqL X.K H' a vs := fun x r' => .inl (r'.sub.rd (x.same.rd hv))
    refine ⟨a, rfl, ⟨vs, .inl (r1.sub.rd hv)⟩, q 0 GT F1 A1 W1 H1 ds _ e1 r1 (Nat.zero_le _) ⟨fun i F' A' W' H' hi x r' _ => ?_, fun i F' A' W' H' y H'' hi x r' _ hy => ?_, fun F' A' W' H' x r' _ => ?_⟩ h1⟩
    · have hi' : i < vs.length := by rw [← pd_len z]; exact hi
      exact ⟨vs, vs[i], hl x r', by simp [hi']⟩
    · obtain ⟨e, hy⟩ := hy
      obtain ⟨d, h1, h2⟩ := pd_getR z (hy vs (hl x r'))
      exact ⟨e, d, h1, Rq.same x.same _ h2⟩
    · exact ⟨vs, hl x r', by rw [← pd_len z]; exact Nat.le_refl _⟩⟩
theorem bi_own {iter : Expr} (h : BE X S W iter fun y W1 => ∃ j ds, y = .o j ∧ W1[j]? = some (.lst (datas ds)) ∧ ki (j + 1) (fun W' => W'[j]? = some (.lst (datas ds))) ds W1) : BI X S W tg iter ki := fun F A σ H R x0 r sr q =>
  ⟨_, pi_list pe_U, h.use x0 r sr fun F1 A1 W1 H1 y vy e1 r1 z1 ⟨j, ds, hy, hj, h1⟩ => by
    subst hy
    obtain ⟨a, ha, rfl⟩ := z1
    have hja : j < A1.length := (List.getElem?_eq_some_iff.mp ha).1
    have ha' : ∀ {F' A'}, Ex1 (j + 1) F1 A1 F' A' → A'[j]? = some a := fun {F' A'} x => by
      have e := take_pre x.pre (by omega)
      have := congrArg (fun l => l[j]?) e
      simp only [List.getElem?_take_of_lt (Nat.lt_succ_self j)] at this
      rw [this]; exact ha
    have key : ∀ {F' A' W' H'}, Ex1 (j + 1) F1 A1 F' A' → RW X.K F' A' W' H' → W'[j]? = some (.lst (datas ds)) → ∃ vs, H' a = some (.lst vs) ∧ Paired (fun d v => Rq X.K F' v d) ds vs := fun x r' hG => by
      obtain ⟨u, e, vs, rfl, p⟩ := r'.obj j a _ (ha' x) hG
      exact ⟨vs, e, pd_datas p⟩
    obtain ⟨v0, e0, p0⟩ := key (.refl (by omega)) r1 hj
    refine ⟨a, rfl, ⟨v0, SqL.of e0⟩, q (j + 1) _ F1 A1 W1 H1 ds _ e1 r1 hja ⟨fun i F' A' W' H' hi x r' hG => ?_, fun i F' A' W' H' y H'' hi x r' hG hy => ?_, fun F' A' W' H' x r' hG => ?_⟩ h1⟩
    · obtain ⟨vs, e, p⟩ := key x r' hG
      have hi' : i < vs.length := by rw [← pd_len p]; exact hi
      exact ⟨vs, vs[i], SqL.of e, by simp [hi']⟩
    · obtain ⟨vs, e, p⟩ := key x r' hG
      obtain ⟨e', hy⟩ := hy
      obtain ⟨d, h1, h2⟩ := pd_getR p (hy vs (SqL.of e))
      exact ⟨e', d, h1, h2⟩
    · obtain ⟨vs, e, p⟩ := key x r' hG
      exact ⟨vs, SqL.of e, by rw [← pd_len p]; exact Nat.le_refl _⟩⟩
theorem bi_tup {iter : Expr} (h : BE X S W iter fun y W1 => ∃ ds, y = .d (.tuple ds) ∧ ki 0 GT ds W1) : BI X S W tg iter ki := fun F A σ H R x0 r sr q =>
  ⟨_, pi_tup pe_U, h.use x0 r sr fun F1 A1 W1 H1 y vy e1 r1 z1 ⟨ds, hy, h1⟩ => by
    subst hy
    obtain ⟨a, vs, rfl, hv, z⟩ := Rq.of_tup z1
    have hl : ∀ {F' A' W' H'}, Ex1 0 F1 A1 F' A' → RW X.K F' A' W' H' → SqT X.K H' a vs := fun x r' => r'.sub.seqT (x.same.seqT hv)
    refine ⟨a, rfl, ⟨vs, r1.sub.seqT hv⟩, q 0 GT F1 A1 W1 H1 ds _ e1 r1 (Nat.zero_le _) ⟨fun i F' A' W' H' hi x r' _ => ?_, fun i F' A' W' H' y H'' hi x r' _ hy => ?_, fun F' A' W' H' x r' _ => ?_⟩ h1⟩
    · have hi' : i < vs.length := by rw [← pd_len z]; exact hi
      exact ⟨vs, vs[i], hl x r', by simp [hi']⟩
    · obtain ⟨e, hy⟩ := hy
      obtain ⟨d, h1, h2⟩ := pd_getR z (hy vs (hl x r'))
      exact ⟨e, d, h1, Rq.same x.same _ h2⟩
    · exact ⟨vs, hl x r', by rw [← pd_len z]; exact Nat.le_refl _⟩⟩
def rangeD (lo : Int) (n : Nat) : List PyData := (List.range n).map fun (i : Nat) => .int (lo + (i : Int))
theorem rangeD_get {lo : Int} {n i : Nat} (h : i < n) : (rangeD lo n)[i]? = some (.int (lo + i)) := by unfold rangeD; simp [h]
theorem walks_range {K : PySem.W.Frag} {F1 : Hp} {A1 : List Addr} {lo : Int} {n : Nat} : Walks K 0 F1 A1 GT (Itr lo n) (rangeD lo n) := by
  have hl : (rangeD lo n).length = n := by unfold rangeD; simp
  refine ⟨fun i F' A' W' H' hi _ _ _ => by rw [hl] at hi; exact hi, fun i F' A' W' H' y H'' hi x r' _ hy => ?_, fun F' A' W' H' x r' _ => by rw [hl]; exact Nat.le_refl _⟩
  rw [hl] at hi
  obtain ⟨e, rfl⟩ := hy
  exact ⟨e, _, rangeD_get hi, .int _⟩
theorem bi_range1 {a : Expr} {p pos : Pos} (hg : Gl X "range") (hm : X.mg "range" = none) (h : BE X S W a fun y W1 => ∃ j : Int, y = .d (.int j) ∧ -(2 ^ 62) ≤ j ∧ j < 2 ^ 62 ∧ ki 0 GT (rangeD 0 j.toNat) W1) (hs : starEach [a] X.env = [(false, eval a X.env)] := by rfl) : BI X S W tg (.Call (.Name "range" p) [a] [] pos) ki := fun F A σ H R x0 r sr q =>
  ⟨_, pi_range1 hg hm (pa_cons pe_U pa_nil hs) hs, h.use x0 r sr fun F1 A1 W1 H1 y vy e1 r1 z1 ⟨j, hy, h2, h3, h4⟩ => by
    subst hy
    obtain rfl := Rq.of_int z1
    exact ⟨j, rfl, h2, h3, q 0 GT F1 A1 W1 H1 _ _ e1 r1 (Nat.zero_le _) walks_range h4⟩⟩
def signsD (x : Str) : List PyData := x.cps.toList.map fun c => .str ⟨#[c]⟩
theorem bi_str {iter : Expr} (h : BE X S W iter fun y W1 => ∃ x, y = .d (.str x) ∧ ki 0 GT (signsD x) W1) : BI X S W tg iter ki := fun F A σ H R x0 r sr q =>
  ⟨_, pi_str pe_U, h.use x0 r sr fun F1 A1 W1 H1 y vy e1 r1 z1 ⟨x, hy, h1⟩ => by
    subst hy
    obtain rfl := Rq.of_str z1
    have hl : (signsD x).length = x.cps.size := by unfold signsD; simp
    refine ⟨x, rfl, q 0 GT F1 A1 W1 H1 _ _ e1 r1 (Nat.zero_le _) ⟨fun i F' A' W' H' hi _ _ _ => by rw [hl] at hi; exact hi, fun i F' A' W' H' y H'' hi _ r' _ hy => ?_, fun F' A' W' H' _ r' _ => by rw [hl]; exact Nat.le_refl _⟩ h1⟩
    obtain ⟨e, c, hc, rfl⟩ := hy
    refine ⟨e, _, ?_, .str _⟩
    unfold signsD
    rw [List.getElem?_map, Array.getElem?_toList, hc]
    rfl⟩
theorem bs_for {iter : Expr} {body : List Stmt} {pos : Pos} (hp : PassesOwn (model X.prog X.w) X.A X.env X.xe) (hc : X.calm = true)
    (h : BI X S W tg iter fun m G ds W1 => ∃ (mb : Nat) (P : Nat → Sl → Wl → Prop), n ≤ mb ∧ m ≤ mb ∧ mb ≤ W1.length ∧ P 0 S W1 ∧ (∀ i S' W', i ≤ ds.length → P i S' W' → G W') ∧
      (∀ i d S' W', ds[i]? = some d → P i S' W' → BG X S' W' tg (.d d) fun S2 W2 => BSs X mb S2 W2 body { D with nx := P (i + 1), ct := P (i + 1), bk := D.nx }) ∧ ∀ S' W', P ds.length S' W' → D.nx S' W')
    (hs : ∀ x, foldedSetIterable iter X.env x = pure x := by intro _; rfl) : BS X n S W (.For tg iter body [] pos) D :=
  .of (ps_for hp hc pi_U pg_U pss_U hs) fun F A σ H E hn x0 r sr q => h F A σ H _ x0.am r sr fun m G F1 A1 W1 H1 ds J e1 r1 hm1 wk ⟨mb, P, hnm, hmm, hmb, p0, hG, hs, hd⟩ => by
    have hmA : mb ≤ A1.length := by rw [r1.len]; exact hmb
    refine ⟨fun i μ σ' H' => μ = ds.length - i ∧ i ≤ ds.length ∧ ∃ F' A' S' W', Ex1 mb F1 A1 F' A' ∧ RW X.K F' A' W' H' ∧ SR X.K F' A' S' σ' ∧ P i S' W', ⟨ds.length, by simp, Nat.zero_le _, F1, A1, S, W1, .refl hmA, r1, sr.ext e1, p0⟩, ?_⟩
    rintro i μ σ' H' ⟨rfl, hi, F', A', S', W', x, r', sr', p⟩
    have g := hG i S' W' hi p
    by_cases hlt : i < ds.length
    · refine .inr ⟨wk.go i F' A' W' H' hlt (x.le hmm) r' g, fun σ2 H2 => ∃ F2 A2 S2 W2, Ex1 mb F1 A1 F2 A2 ∧ RW X.K F2 A2 W2 H2 ∧ SR X.K F2 A2 S2 σ2 ∧ P (i + 1) S2 W2, fun σ2 H2 p2 => ⟨ds.length - (i + 1), by omega, rfl, hlt, p2⟩, fun v H'' hy => ?_⟩
      obtain ⟨rfl, d, hd', zd⟩ := wk.yld i F' A' W' H' v H'' hlt (x.le hmm) r' g hy
      refine hs i d S' W' hd' p F' A' σ' H'' v _ ((x0.ext e1).up hnm |>.ex1 hmA x).am r' sr' zd fun F2 A2 W2 H2 S2 σ2 x2 r2 sr2 h2 => ?_
      have x12 : Ex1 mb F1 A1 F2 A2 := x.trans hmA (x2.ex1 x.len)
      have q2 := q.ext hn ((e1.ex1 hn).trans hn (x12.le hnm))
      have hn2 : n ≤ A2.length := Nat.le_trans hnm x12.len
      exact h2.use x12.len (((x0.ext e1).up hnm).ex1 hmA x12) r2 sr2 ⟨fun F3 A3 W3 H3 S3 σ3 x3 r3 sr3 h3 => ⟨F3, A3, S3, W3, x12.trans hmA x3, r3, sr3, h3⟩, fun F3 A3 W3 H3 S3 σ3 x3 => q2.nx F3 A3 W3 H3 S3 σ3 (x3.le hnm), fun F3 A3 W3 H3 S3 σ3 x3 r3 sr3 h3 => ⟨F3, A3, S3, W3, x12.trans hmA x3, r3, sr3, h3⟩, fun F3 A3 W3 H3 e v x3 => q2.rt F3 A3 W3 H3 e v (x3.le hnm)⟩
    · have hie : i = ds.length := by omega
      subst hie
      exact .inl ⟨wk.stop F' A' W' H' (x.le hmm) r' g, (q.ext hn (e1.ex1 hn)).nx F' A' W' H' S' σ' (x.le hnm) r' sr' (hd S' W' p)⟩
end
end L2
namespace L2
open PySem PySem.Spec PyProof.Rows
section
variable {X : Bc} {n : Nat} {S : Sl} {W : Wl} {D : DB} {k : KB} {tg iter elt : Expr} {ifs : List Expr} {O Fv : List Str} {cap : List Nat} {scope : Scope} {pos : Pos}
abbrev cxB (X : Bc) (N : List Str) (scope : Scope) (cl : List (Str × Addr)) (C : Addr) (ex : List Addr) (s : Shared) (H : Hp) : Bc := { X with toCx := cxComp X.toCx N scope cl C ex s H }
def tUGc (X : Bc) (N : List Str) (scope : Scope) (m : Nat) (tg : Expr) : TG := fun v σ H Q => ∃ t, (∀ cl C ex s H, PG (cxComp X N scope cl C ex s H) tg t) ∧ Own m t ∧ t v σ H Q
def tUTc (X : Bc) (N : List Str) (scope : Scope) (ifs : List Expr) : TT := fun σ H Q => ∃ t, (∀ cl C ex s H, PTs (cxComp X N scope cl C ex s H) ifs t) ∧ t σ H Q
def tUEc (X : Bc) (N : List Str) (scope : Scope) (e : Expr) : TE := fun σ H Q => ∃ t, (∀ cl C ex s H, PE (cxComp X N scope cl C ex s H) e t) ∧ t σ H Q
theorem own_U {N : List Str} {m : Nat} : Own m (tUGc X N scope m tg) := fun x σ H Q ⟨t, h, o, q⟩ => ⟨t, h, o, o x σ H Q q⟩
def BEc (X : Bc) (N : List Str) (scope : Scope) (S : Sl) (W : Wl) (e : Expr) (k : KB) : Prop := ∀ cl C ex s H, BE (cxB X N scope cl C ex s H) S W e k
def BTc (X : Bc) (N : List Str) (scope : Scope) (S : Sl) (W : Wl) (ifs : List Expr) (k : TB) : Prop := ∀ F A σ H (Q : Bool → Hp → Prop), X.Am F A → RW X.K F A W H → SR X.K F A S σ → (∀ F' A' W' H' b, Ext F A F' A' → RW X.K F' A' W' H' → k b W' → Q b H') → tUTc X N scope ifs σ H Q
def BGc (X : Bc) (N : List Str) (scope : Scope) (m : Nat) (S : Sl) (W : Wl) (tg : Expr) (e : El) (k : Sl → Wl → Prop) : Prop := ∀ F A σ H v (Q : St → Hp → Prop), RW X.K F A W H → SR X.K F A S σ → ElR X.K F A e v →
  (∀ S' σ', SR X.K F A S' σ' → k S' W → Q σ' H) → tUGc X N scope m tg v σ H Q
theorem btc_nil {N : List Str} {k : TB} (h : k true W) : BTc X N scope S W [] k := fun F A σ H Q x0 r sr q => ⟨_, fun _ _ _ _ _ => pts_nil, q F A W H true .refl r h⟩
theorem btc_one {N : List Str} {c : Expr} {k : TB} (h : ∀ cl C ex s H, BT (cxB X N scope cl C ex s H) S W c k) : BTc X N scope S W [c] k := fun F A σ H Q x0 r sr q => ⟨tDT X S W k, fun cl C ex s H => pts_one (show PT _ c (tDT X S W k) from h cl C ex s H), F, A, x0, r, sr, q⟩
theorem bgc_name {N : List Str} {m i : Nat} {x : Str} {p : Pos} {e : El} {k : Sl → Wl → Prop} (hN : N.Nodup) (hi : N[i]? = some x) (hm : i < m) (hx : ∀ cl C ex s H, Loc (cxComp X N scope cl C ex s H).env.scope x)
    (hf : ∀ cl C ex s H, (cxComp X N scope cl C ex s H).env.scope.names.lookup x = some .local) (h : k (S.set i (some e)) W) : BGc X N scope m S W (.Name x p) e k := fun F A σ H v Q r sr z q =>
  ⟨gName i, fun cl C ex s H => pg_name hN hi (hx cl C ex s H) (.inr (hf cl C ex s H)), own_name hm, q _ _ (sr.set z i) h⟩
/-- the slots at a turn's start -/
def cmpS (O : List Str) (cap : List Nat) (S : Sl) : Sl := O.map (fun _ => none) ++ cap.map (fun j => (S[j]?).getD none)
theorem SR.cmp {K : PySem.W.Frag} {F : Hp} {A : List Addr} {σ : St} (r : SR K F A S σ) : SR K F A (cmpS O cap S) (cmpSt O cap σ) := by
  refine ⟨by simp [cmpS, cmpSt], fun i e h => ?_⟩
  unfold cmpS at h
  unfold cmpSt
  by_cases hi : i < O.length
  · rw [List.getElem?_append_left (by simpa using hi)] at h
    simp [hi] at h
  · rw [List.getElem?_append_right (by simpa using hi)] at h
    rw [List.getElem?_append_right (by simpa using hi)]
    simp only [List.length_map, List.getElem?_map] at h ⊢
    cases hj : cap[i - O.length]? with
    | none => rw [hj] at h; cases h
    | some j =>
      rw [hj] at h
      simp only [Option.map_some, Option.some.injEq] at h
      cases hs : S[j]? with
      | none => rw [hs] at h; cases h
      | some o =>
        rw [hs] at h
        simp only [Option.getD_some] at h
        subst h
        obtain ⟨v, h1, h2⟩ := r.get j e hs
        exact ⟨v, by simp [h1], h2⟩
abbrev KC (X : Bc) (O Fv : List Str) (cap : List Nat) (scope : Scope) (S : Sl) (tg elt : Expr) (ifs : List Expr) (k : List PyData → Wl → Prop) : Nat → (Wl → Prop) → List PyData → Wl → Prop := fun m G ds W1 => ∃ P : Nat → List PyData → Wl → Prop,
  P 0 [] W1 ∧ (∀ i ys W', i ≤ ds.length → P i ys W' → G W' ∧ ys.length ≤ sizeLine) ∧
    (∀ i d ys W', ds[i]? = some d → P i ys W' → BGc X (O ++ Fv) scope O.length (cmpS O cap S) W' tg (.d d) fun S2 W2 => BTc X (O ++ Fv) scope S2 W2 ifs fun b W3 =>
      if b = true then BEc X (O ++ Fv) scope S2 W3 elt fun y W4 => ∃ dy, y = .d dy ∧ P (i + 1) (ys ++ [dy]) W4 else P (i + 1) ys W3) ∧
    ∀ ys W', P ds.length ys W' → k ys W'
theorem comp_read {F : Hp} {A : List Addr} {σ : St} {H : Hp} {Q : VK} {k : List PyData → Wl → Prop} (h : BI X S W tg iter (KC X O Fv cap scope S tg elt ifs k)) (x0 : X.Am F A) (r : RW X.K F A W H) (sr : SR X.K F A S σ)
    (q : ∀ F' A' W' H' ys vs p, Ext F A F' A' → RW X.K F' A' W' H' → Paired (fun d v => Rq X.K F' v d) ys vs → H' p = none → k ys W' → Q (.ref p) (upd H' p (.lst vs))) :
    tComp (tUI X tg iter) O cap (tUGc X (O ++ Fv) scope O.length tg) (tUTc X (O ++ Fv) scope ifs) (tUEc X (O ++ Fv) scope elt) σ H Q :=
  h F A σ H _ x0 r sr fun m G F1 A1 W1 H1 ds J e1 r1 hm1 wk ⟨P, p0, hG, hs, hd⟩ => by
    refine ⟨fun i μ ys H' => μ = ds.length - i ∧ i ≤ ds.length ∧ ∃ F' A' W' yd, Ext F1 A1 F' A' ∧ RW X.K F' A' W' H' ∧ Paired (fun d v => Rq X.K F' v d) yd ys ∧ P i yd W', ⟨ds.length, by simp, Nat.zero_le _, F1, A1, W1, [], .refl, r1, .nil, p0⟩, ?_⟩
    rintro i μ ys H' ⟨rfl, hi, F', A', W', yd, x, r', z', p⟩
    obtain ⟨g, hz⟩ := hG i yd W' hi p
    refine ⟨by rw [← pd_len z']; exact hz, ?_⟩
    by_cases hlt : i < ds.length
    · refine .inr ⟨wk.go i F' A' W' H' hlt (x.ex1 hm1) r' g, fun ys2 H2 => ∃ F2 A2 W2 yd2, Ext F1 A1 F2 A2 ∧ RW X.K F2 A2 W2 H2 ∧ Paired (fun d v => Rq X.K F2 v d) yd2 ys2 ∧ P (i + 1) yd2 W2, fun ys2 H2 p2 => ⟨ds.length - (i + 1), by omega, rfl, hlt, p2⟩, fun v H'' hy => ?_⟩
      obtain ⟨rfl, d, hd', zd⟩ := wk.yld i F' A' W' H' v H'' hlt (x.ex1 hm1) r' g hy
      have srx := sr.ext (e1.trans x)
      refine hs i d yd W' hd' p F' A' (cmpSt O cap σ) H'' v _ r' srx.cmp zd fun S2 σ2 sr2 h2 => ?_
      refine h2 F' A' σ2 H'' _ (x0.trans (e1.trans x)) r' sr2 fun F3 A3 W3 H3 b e3 r3 h3 => ?_
      cases b with
      | true =>
        rw [if_pos rfl] at h3 ⊢
        refine ⟨tD X S2 W3 _, fun cl C ex s H => h3 cl C ex s H, F3, A3, (x0.trans (e1.trans x)).trans e3, r3, sr2.ext e3, fun F4 A4 W4 H4 y vy e4 r4 z4 ⟨dy, hy, h4⟩ => ?_⟩
        subst hy
        exact ⟨F4, A4, W4, yd ++ [dy], (x.trans e3).trans e4, r4, pd_app (pd_imp (fun _ _ t => Rq.same (e3.trans e4).same _ t) z') (.cons z4 .nil), h4⟩
      | false =>
        rw [if_neg (by decide)] at h3 ⊢
        exact ⟨F3, A3, W3, yd, x.trans e3, r3, pd_imp (fun _ _ t => Rq.same e3.same _ t) z', h3⟩
    · have hie : i = ds.length := by omega
      subst hie
      exact .inl ⟨wk.stop F' A' W' H' (x.ex1 hm1) r' g, fun l hl => q F' A' W' H' yd ys l (e1.trans x) r' z' hl (hd yd W' p)⟩
/-- every turn tells f, and changes nothing -/
theorem kc_map {m : Nat} {G : Wl → Prop} {ds : List PyData} {W1 : Wl} {k : List PyData → Wl → Prop} (f : PyData → PyData) (hG : G W1) (hl : ds.length ≤ sizeLine)
    (h : ∀ d ∈ ds, BGc X (O ++ Fv) scope O.length (cmpS O cap S) W1 tg (.d d) fun S2 W2 => BEc X (O ++ Fv) scope S2 W2 elt fun y W4 => y = .d (f d) ∧ W4 = W1) (hk : k (ds.map f) W1) : KC X O Fv cap scope S tg elt [] k m G ds W1 := by
  refine ⟨fun i ys W' => W' = W1 ∧ ys = (ds.take i).map f, ⟨rfl, rfl⟩, fun i ys W' hi p => ?_, fun i d ys W' hd p => ?_, fun ys W' p => ?_⟩
  · rw [p.1, p.2]
    exact ⟨hG, by rw [List.length_map, List.length_take]; omega⟩
  · obtain ⟨rfl, rfl⟩ := p
    refine fun F A σ H v Q r sr z q => h d (List.mem_of_getElem? hd) F A σ H v Q r sr z fun S' σ' sr' hh => q S' σ' sr' (btc_nil ?_)
    rw [if_pos rfl]
    refine fun cl C ex s H => (hh cl C ex s H).mono fun y W4 hy => ⟨f d, hy.1, hy.2, ?_⟩
    rw [List.take_add_one, hd]
    simp
  · rw [p.1, p.2, List.take_length]
    exact hk
/-- every turn tells p, then f, and changes nothing -/
theorem kc_filter {m : Nat} {G : Wl → Prop} {ds : List PyData} {W1 : Wl} {k : List PyData → Wl → Prop} {c : Expr} (p : PyData → Bool) (f : PyData → PyData) (hG : G W1) (hl : ds.length ≤ sizeLine)
    (h : ∀ d ∈ ds, BGc X (O ++ Fv) scope O.length (cmpS O cap S) W1 tg (.d d) fun S2 W2 => (∀ cl C ex s H, BT (cxB X (O ++ Fv) scope cl C ex s H) S2 W2 c fun b W3 => b = p d ∧ W3 = W1) ∧ (p d = true → BEc X (O ++ Fv) scope S2 W2 elt fun y W4 => y = .d (f d) ∧ W4 = W1)) (hk : k ((ds.filter p).map f) W1) : KC X O Fv cap scope S tg elt [c] k m G ds W1 := by
  refine ⟨fun i ys W' => W' = W1 ∧ ys = ((ds.take i).filter p).map f, ⟨rfl, rfl⟩, fun i ys W' hi q => ?_, fun i d ys W' hd q => ?_, fun ys W' q => ?_⟩
  · rw [q.1, q.2]
    refine ⟨hG, ?_⟩
    rw [List.length_map]
    have := List.length_filter_le p (ds.take i)
    rw [List.length_take] at this
    omega
  · obtain ⟨rfl, rfl⟩ := q
    refine fun F A σ H v Q r sr z q => h d (List.mem_of_getElem? hd) F A σ H v Q r sr z fun S' σ' sr' hh => q S' σ' sr' (btc_one fun cl C ex s H => ?_)
    refine BT.mono (hh.1 cl C ex s H) fun b W3 hb => ?_
    obtain ⟨rfl, rfl⟩ := hb
    by_cases e : p d = true
    · rw [if_pos e]
      refine fun cl C ex s H => (hh.2 e cl C ex s H).mono fun y W4 hy => ⟨f d, hy.1, hy.2, ?_⟩
      rw [List.take_add_one, hd, List.filter_append, List.map_append]
      simp [e]
    · rw [if_neg e]
      refine ⟨rfl, ?_⟩
      rw [List.take_add_one, hd, List.filter_append, List.map_append]
      simp [e]
  · rw [q.1, q.2, List.take_length]
    exact hk
/-- [elt for tg in iter if ..], of data -/
theorem be_comp (hc : X.calm = true) (cs : CmpScope X.N X.env.scope O Fv cap scope) (h : BI X S W tg iter (KC X O Fv cap scope S tg elt ifs fun ys W' => k (.d (.list ys)) W'))
    (hs : ∀ x, foldedSetIterable iter X.env x = pure x := by intro _; rfl) : BE X S W (.ListComp elt [⟨tg, iter, ifs, 0⟩] scope pos) k :=
  .of (pe_comp (g := tUGc X (O ++ Fv) scope O.length tg) (tt := tUTc X (O ++ Fv) scope ifs) (te := tUEc X (O ++ Fv) scope elt) hc cs pi_U (fun cl C ex s H => fun pins s' σ' H' v u Q I r ⟨t, h, _, q⟩ => h cl C ex s H pins s' σ' H' v u Q I r q) (fun cl C ex s H => fun pins s' σ' H' Q I ⟨t, h, q⟩ => h cl C ex s H pins s' σ' H' Q I q)
    (fun cl C ex s H => fun pins s' σ' H' Q I ⟨t, h, q⟩ => h cl C ex s H pins s' σ' H' Q I q) own_U hs) fun F A σ H Q x0 r sr q => comp_read h x0 r sr fun F' A' W' H' ys vs p x r' z hp hk => (q.ext x).newL r' hp z hk
/-- x = [elt for ..] -/
theorem bs_setc {i : Nat} {x : Str} {pos' spos : Pos} (hN : X.N.Nodup) (hix : X.N[i]? = some x) (hx : Loc X.env.scope x) (hc : X.calm = true) (cs : CmpScope X.N X.env.scope O Fv cap scope) (h : BI X S W tg iter (KC X O Fv cap scope S tg elt ifs fun ys W' => D.nx (S.set i (some (.d (.list ys)))) W'))
    (hsw : swapsWith (.ListComp elt [⟨tg, iter, ifs, 0⟩] scope pos) (some (.Name x pos')) spos.line X.env = pure true := by rfl) (hs : ∀ x, foldedSetIterable iter X.env x = pure x := by intro _; rfl)
    (hf : X.fn x = true ∨ X.env.scope.names.lookup x = some .local := by first | exact .inl rfl | exact .inr rfl | assumption) : BS X n S W (.Assign [.Name x pos'] (.ListComp elt [⟨tg, iter, ifs, 0⟩] scope pos) spos) D :=
  .of (ps_setc (g := tUGc X (O ++ Fv) scope O.length tg) (tt := tUTc X (O ++ Fv) scope ifs) (te := tUEc X (O ++ Fv) scope elt) hN hix hx hc cs pi_U (fun cl C ex s H => fun pins s' σ' H' v u Q I r ⟨t, h, _, q⟩ => h cl C ex s H pins s' σ' H' v u Q I r q) (fun cl C ex s H => fun pins s' σ' H' Q I ⟨t, h, q⟩ => h cl C ex s H pins s' σ' H' Q I q)
    (fun cl C ex s H => fun pins s' σ' H' Q I ⟨t, h, q⟩ => h cl C ex s H pins s' σ' H' Q I q) own_U hsw hs hf) fun F A σ H E hn x0 r sr q => comp_read h x0.am r sr fun F' A' W' H' ys vs p x r' z hp hk => by
      obtain ⟨r2, y⟩ := r'.newF hp (.lst vs)
      exact q.nx _ _ _ _ _ _ ((x.trans y).ex1 hn) r2 ((sr.ext (x.trans y)).set (.dd (Rq.lst (.inl upd_same) (Rqs.of (pd_imp (fun _ _ t => Rq.same y.same _ t) z)))) i) hk
end
def startS (N : List Str) (es : List El) : Sl := es.map some ++ List.replicate (N.length - es.length) none
theorem SR.start {K : PySem.W.Frag} {F : Hp} {A : List Addr} {N : List Str} {es : List El} {vs : List V} (p : Paired (ElR K F A) es vs) : SR K F A (startS N es) (start N vs) := by
  have hl := pd_len p
  refine ⟨by simp [startS, L2.start, hl], fun i e h => ?_⟩
  unfold startS at h
  unfold L2.start
  by_cases hi : i < es.length
  · rw [List.getElem?_append_left (by simpa using hi), List.getElem?_map] at h
    rw [List.getElem?_append_left (by rw [List.length_map, ← hl]; exact hi), List.getElem?_map]
    cases q : es[i]? with
    | none => rw [q] at h; cases h
    | some e' =>
      rw [q] at h
      cases h
      obtain ⟨v, h1, h2⟩ := pd_get p q
      exact ⟨v, by rw [h1]; rfl, h2⟩
  · rw [List.getElem?_append_right (by simpa using hi), List.getElem?_replicate] at h
    split at h <;> cases h
/-- what stands in the objects are objects, too -/
def closed (W : Wl) : Prop := ∀ o ∈ W, o.below W.length
theorem RW.closed {K : PySem.W.Frag} {F : Hp} {A : List Addr} {W : Wl} {H : Hp} (r : RW K F A W H) : closed W := fun o ho => by
  have el : ∀ {e : El} {v : V}, ElR K F A e v → e.below W.length := fun {e v} z => by
    cases e with
    | d x => trivial
    | s ns => trivial
    | x C => trivial
    | p ks => trivial
    | f a => trivial
    | t xs =>
      obtain ⟨a, vs, _, _, p⟩ := z
      intro k hk
      obtain ⟨i, hi⟩ := List.mem_iff_getElem?.mp hk
      obtain ⟨v, _, b, hb, _⟩ := pd_get p hi
      rw [← r.len]
      exact (List.getElem?_eq_some_iff.mp hb).1
    | o k =>
      obtain ⟨a, ha, _⟩ := z
      show k < W.length
      rw [← r.len]
      exact (List.getElem?_eq_some_iff.mp ha).1
  obtain ⟨k, hk⟩ := List.mem_iff_getElem?.mp ho
  have hl : k < A.length := by rw [r.len]; exact (List.getElem?_eq_some_iff.mp hk).1
  obtain ⟨u, _, q⟩ := r.obj k A[k] o (by simp [hl]) hk
  cases o with
  | lst es =>
    obtain ⟨vs, _, p⟩ := q
    intro e he
    obtain ⟨i, hi⟩ := List.mem_iff_getElem?.mp he
    obtain ⟨v, _, z⟩ := pd_get p hi
    exact el z
  | dK es =>
    obtain ⟨vs, _, p⟩ := q
    intro e he
    obtain ⟨i, hi⟩ := List.mem_iff_getElem?.mp he
    obtain ⟨v, _, z⟩ := pd_get p hi
    exact el z.2
  | dT es =>
    obtain ⟨vs, _, p⟩ := q
    intro e he
    obtain ⟨i, hi⟩ := List.mem_iff_getElem?.mp he
    obtain ⟨v, _, z⟩ := pd_get p hi
    exact el z.2
  | fT _ es =>
    obtain ⟨vs, _, p⟩ := q
    intro e he
    obtain ⟨i, hi⟩ := List.mem_iff_getElem?.mp he
    obtain ⟨v, _, z⟩ := pd_get p hi
    exact el z.2
  | fK _ es =>
    obtain ⟨vs, _, p⟩ := q
    intro e he
    obtain ⟨i, hi⟩ := List.mem_iff_getElem?.mp he
    obtain ⟨v, _, z⟩ := pd_get p hi
    exact el z.2
  | x _ => trivial
theorem fn_B {P : Program} {w : World} {K : PySem.W.Frag} {mg : Str → Option Value} {base : Heap} {x qual : Str} {st : Stmt} {f : Addr} {fd : FuncData} {N ps : List Str} {j : Nat} {R : RB} (F : Fun K x qual st f fd) (S : FnScope N ps (defScope st)) (len : ∀ es W k, R es W k → es.length = ps.length)
    (hbody : ∀ (cdv : Value) (A : Around) (outer : List Env) (s : Shared) (H : Hp) (E : XK), Room j (A.deeper (envOfC qual (defScope st) s.heap.objs.size f cdv)) → ∀ (F0 : Hp) (A0 : List Addr) es W k, closed W → R es W k →
      BSs ⟨(cxOf CX0 P w K mg base N qual (defScope st) f cdv A outer s H E).nox, F0, A0, fun _ _ _ => False⟩ W.length (startS N es) W (defBody st) { nx := fun _ W' => k (.d .none) W', rt := k }) : FnOk P w K mg base CX0 (j + 1) f fd ps (spB K R) :=
  F.ok S (fun vs H Q E ⟨Fh, A, W, es, k, r, p, h, q⟩ => by rw [← pd_len p]; exact len es W k h) fun cdv A outer s H vs Q E hr ⟨Fh, Ad, W, es, k, r, p, h, q⟩ => by
    refine ⟨_, hbody cdv A outer s H E hr Fh Ad es W k r.closed h, Fh, Ad, by rw [r.len]; exact Nat.le_refl _, ⟨.refl, by rw [r.len]; exact Nat.le_refl _⟩, r, .start p, ?_⟩
    have ext : ∀ {F' A'}, Ex1 W.length Fh Ad F' A' → Ext Fh Ad F' A' := fun y => ⟨y.same, by have := y.pre; rw [← r.len, List.take_length] at this; exact this⟩
    exact ⟨fun F' A' W' H' S' σ' y r' sr' h' => q F' A' W' H' _ _ (ext y) r' (.dd Rq.non) h', fun _ _ _ _ _ _ _ _ _ h => h.elim, fun _ _ _ _ _ _ _ _ _ h => h.elim, fun F' A' W' H' e v y r' z h' => q F' A' W' H' e v (ext y) r' z h'⟩
end L2
namespace L2
open PySem PySem.Spec PyProof.Rows
section
variable {X : Bc} {n : Nat} {S : Sl} {W : Wl} {k : KB} {D : DB}
theorem bv (i : Nat) {x : Str} {pos : Pos} {e : El} (hs : S[i]? = some (some e)) (h : k e W) (hN : X.N[i]? = some x := by rfl) (hv : Vis X.env.scope x := by first | exact Or.inl rfl | exact Or.inr (Or.inl rfl) | exact Or.inr (Or.inr rfl)) (hd : (x == ("__debug__" : Str)) = false := by decide)
    (hcd : (x == ("__classdict__" : Str)) = false := by decide) : BE X S W (.Name x pos) k := be_var hN hv hs h hd hcd
theorem gS {x c : Str} {t : Tok} {pos : Pos} (hm : X.mg x = some (.str c t)) (h : k (.d (.str c)) W) (hg : Gl X x := by rfl) (hd : (x == ("__debug__" : Str)) = false := by decide) : BE X S W (.Name x pos) k := be_glob (v := .str c) hg hm ⟨t, rfl⟩ (fun _ => .str c) h hd
theorem gI {x : Str} {c : Int} {t : Tok} {pos : Pos} (hm : X.mg x = some (.int c t)) (h : k (.d (.int c)) W) (hg : Gl X x := by rfl) (hd : (x == ("__debug__" : Str)) = false := by decide) : BE X S W (.Name x pos) k := be_glob (v := .int c) hg hm ⟨t, rfl⟩ (fun _ => .int c) h hd
/-- a chain of comparisons -/
theorem bt_chain {a b c : Expr} {op op' : CmpOp} {pos : Pos} {k : TB}
    (h : BE X S W a fun x W1 => BE X S W1 b fun y W2 => OB X (compareOp op) x y W2 fun z W3 => ∃ t, z = .d (.bool t) ∧ if t = true then BE X S W3 c fun u W4 => OB X (compareOp op') y u W4 fun z W5 => ∃ t, z = .d (.bool t) ∧ k t W5 else k false W3)
    (hm : lastMarks [op, op'] [b, c] = false := by with_unfolding_all rfl) : BT X S W (.Compare a [op, op'] [b, c] pos) k :=
  .of (pt_chain op_U op_U pe_U pe_U pe_U hm) fun F A σ H Q x0 r sr q =>
    h.use x0 r sr fun F1 A1 W1 H1 x vx e1 r1 z1 h1 => h1.use (x0.trans e1) r1 (sr.ext e1) fun F2 A2 W2 H2 y vy e2 r2 z2 h2 => h2 F2 A2 H2 _ vx vy r2 (z1.ext e2) z2 fun F3 A3 W3 H3 z vz e3 r3 z3 ⟨t, ht, h3⟩ => by
      subst ht
      obtain rfl := Rq.of_bl z3
      refine ⟨t, rfl, ?_⟩
      have x3 := (e1.trans e2).trans e3
      cases t with
      | true =>
        rw [if_pos rfl] at h3 ⊢
        exact h3.use (x0.trans x3) r3 (sr.ext x3) fun F4 A4 W4 H4 u vu e4 r4 z4 h4 => h4 F4 A4 H4 _ vy vu r4 (z2.ext (e3.trans e4)) z4 fun F5 A5 W5 H5 z vz e5 r5 z5 ⟨t, ht, h5⟩ => by
          subst ht
          obtain rfl := Rq.of_bl z5
          exact ⟨t, rfl, q F5 A5 W5 H5 t ((x3.trans e4).trans e5) r5 h5⟩
      | false =>
        rw [if_neg (by decide)] at h3 ⊢
        exact ⟨false, rfl, q F3 A3 W3 H3 false x3 r3 h3⟩
theorem cb_lenScript {ns : List Int} (h : k (.d (.int ns.length)) W) : CB X (.builtin "len") [.s ns] W k := .of call_len_seq fun F A H Q vs r zs q => by
  obtain ⟨v, rfl, z⟩ := pd_one zs
  obtain ⟨a, rfl, hs⟩ := z
  exact ⟨a, _, rfl, .inl (r.sub.seq hs), by rw [List.length_map]; exact q.same r (.dd (Rq.int _)) h⟩
theorem ib_script {ns : List Int} {i n : Int} (he : atI ns i = some n) (h : k (.d (.int n)) W) : IB X (.s ns) (.d (.int i)) W k := .of ix_list fun F A H Q vx vy r zx zy q => by
  obtain ⟨a, rfl, hs⟩ := zx
  obtain rfl := Rq.of_int zy
  refine ⟨a, _, i, .int n, rfl, rfl, r.sub.seq hs, ?_, q.same r (.dd (Rq.int _)) h⟩
  unfold atI at he ⊢
  rw [List.length_map]
  cases e : ixN ns.length i with
  | none => rw [e] at he; cases he
  | some j =>
    rw [e] at he
    simp only [Option.bind] at he ⊢
    rw [List.getElem?_map, he]
    rfl
theorem op_repL : OpR X (binaryOp .Mult) (fun x y H Q => ∃ l k xs, x = .ref l ∧ y = .int k ∧ Rd H l (.lst xs) ∧ -(2 ^ 63) ≤ k ∧ k < 2 ^ 63 ∧ xs.length * k.toNat ≤ sizeLine ∧ ∀ p, H p = none → Q (.ref p) (upd H p (.lst (List.replicate k.toNat xs).flatten))) := by
  intro pins s σ H x y v u Q I rx ry h
  obtain ⟨l, k, xs, rfl, rfl, hH, h1, h2, hz, q⟩ := h
  cases rx
  obtain ⟨t, rfl⟩ := ry
  obtain ⟨z, its, n, r, e⟩ := hH.ok I.hok
  have hl := r.length
  have hlen : its.toArray.size * k.toNat ≤ sizeLine := by rw [List.size_toArray, ← hl]; exact hz
  have hcap : ¬ its.toArray.size * k.toNat > (2 ^ 63 - 1) / 8 := by
    have : (sizeLine : Nat) ≤ (2 ^ 63 - 1) / 8 := by decide
    omega
  have hfit : ¬ (!Builtin.List.listFitsIndex k) = true := by
    rw [fitsIndex_both h1 h2]
    exact Bool.false_ne_true
  have hlong : ¬ Builtin.List.listTooLong (its.toArray.size * k.toNat) = true := by
    rw [notLongL hlen]
    exact Bool.false_ne_true
  have hnew : List.foldl (fun x1 x2 => x1 ++ x2) #[] (List.replicate (if its.toArray.isEmpty = true then 0 else k.toNat) its.toArray) = (List.replicate k.toNat its).flatten.toArray := by
    have f0 : ∀ m : Nat, List.foldl (fun x1 x2 => x1 ++ x2) #[] (List.replicate m its.toArray) = (List.replicate m its).flatten.toArray := fun m => by
      have := foldl_rep its m []
      rw [List.nil_append] at this
      exact this
    rw [f0]
    cases its with
    | nil => simp
    | cons a r' => rw [if_neg (by simp)]
  refine wpAny_binaryOp_repeat_ref (T := "list") (U := "int") (by decide) ⟨_, e, rfl⟩ (fun s' => typeIs_int s' k t) noFill_list_mul F.fills_int_mul F.slot_int_rmul repeat_list F.slot_int_index.lookup
    (call_meets F.slot_int_rmul (typeIs_int s k t) F.entry_int_rmul (F.args_int_rmul_2 _ _) (int___rmul___int_list k t l its.toArray n)
      ⟨e, rfl, ⟨_, e, rfl⟩, call_meets F.slot_list_mul ⟨_, e, rfl⟩ F.entry_list_mul (F.args_list_mul_2 _ _) (AutoListH.list___mul___list_int_3 l its.toArray n k t hfit hcap hlong) ⟨e, ?_⟩⟩)
  rw [hnew]
  exact ⟨.ref _, _, I.lnew (t' := s.toks) (r.rep k.toNat) (by rw [len_rep, Nat.mul_comm]; exact hz), rfl, q _ I.fresh⟩
theorem ob_repl {x : El} {ds : List PyData} {n : Int} (hx : lstD W x ds) (h0 : -(2 ^ 63) ≤ n) (h1 : n < 2 ^ 63) (hl : ds.length * n.toNat ≤ sizeLine) (h : k (.d (.list (List.replicate n.toNat ds).flatten)) W) : OB X (binaryOp .Mult) x (.d (.int n)) W k := .of op_repL fun F A H Q vx vy r zx zy q => by
  obtain ⟨a, vs, rfl, hs, z⟩ := r.lst zx hx
  obtain rfl := Rq.of_int zy
  refine ⟨a, n, vs, rfl, rfl, hs, h0, h1, by rw [← pd_len z]; exact hl, fun p hp => q.newL r hp ?_ h⟩
  have : ∀ m : Nat, Paired (fun d v => Rq X.K F v d) (List.replicate m ds).flatten (List.replicate m vs).flatten := fun m => by
    induction m with
    | zero => exact .nil
    | succ m ih => rw [List.replicate_succ, List.replicate_succ, List.flatten_cons, List.flatten_cons]; exact pd_app z ih
  exact this _
end
end L2
namespace L2
end L2
namespace L2
open PySem PySem.Spec PyProof.Rows
theorem ObjOk.at {P : Program} {w : World} {H : Hp} {h : Heap} {a : Addr} {o : HO} (x : ObjOk P w H h a o) : ∃ ob, h.get? a = some ob := by
  cases o with
  | lst xs => obtain ⟨_, _, _, _, e⟩ := x; exact ⟨_, e⟩
  | tup xs => obtain ⟨_, _, _, o, e, _⟩ := x; exact ⟨_, e⟩
  | dK kvs => obtain ⟨_, _, _, _, o, _, _, e, _⟩ := x; exact ⟨_, e⟩
  | dT kvs => obtain ⟨_, _, _, _, o, _, _, e, _⟩ := x; exact ⟨_, e⟩
  | set S n => obtain ⟨o, _, _, _, e, _⟩ := x; exact ⟨_, e⟩
  | ins C dx fs => obtain ⟨_, _, _, e, _⟩ := x; exact ⟨_, e⟩
  | own y => obtain ⟨_, e⟩ := x; exact ⟨_, e⟩
  | xd fs => obtain ⟨_, ⟨_, _, _, e, _⟩, _⟩ := x; exact ⟨_, e⟩
  | rng lo hi => obtain ⟨_, _, _, e⟩ := x; exact ⟨_, e⟩
  | frz ob u => obtain ⟨e, _⟩ := x; exact ⟨_, e⟩
  | tbl ps => exact ⟨_, show h.get? a = some _ from x⟩
  | met f y => exact ⟨_, show h.get? a = some _ from x⟩
  | ext φ => obtain ⟨_, ⟨_, e⟩, _⟩ := x; exact ⟨_, e⟩
/-- what B keeps: the old objects but the frames, and what is tracked -/
structure Kp (B : Heap) (fr : List Addr) (H' : Hp) (h0 h : Heap) : Prop where
  old : ∀ b o0 o, h0.get? b = some o0 → b ∉ fr → h.get? b = some o → B.get? b = some o
  trk : ∀ b u o, H' b = some u → h.get? b = some o → B.get? b = some o
section
variable {P : Program} {w : World} {B h0 h h'' : Heap} {fr : List Addr} {H H' : Hp}
theorem HOk.fly (x : HOk P w H' h) (k : Kp B fr H' h0 h) (st : B.StaysIn h'') : HOk P w H' h'' := fun a o e =>
  (x a o e).stay (fun b u hb q => by
    rcases hb with rfl | hb
    · exact st _ _ (k.trk _ o u e q)
    · exact st _ _ (k.trk _ _ u hb q)) (fun _ q => q) fun _ _ q => q
theorem Kp.fly (k : Kp B fr H' h0 h) (x : HOk P w H' h) (st : B.StaysIn h'') (th : ∀ b o0, h0.get? b = some o0 → ∃ o, h.get? b = some o) : Kp B fr H' h0 h'' := by
  refine ⟨fun b o0 o q hb e => ?_, fun b u o q e => ?_⟩
  · obtain ⟨o', e'⟩ := th b o0 q
    have hB := k.old b o0 o' q hb e'
    have := st _ _ hB
    rw [e] at this
    cases this
    exact hB
  · obtain ⟨o', e'⟩ := (x b u q).at
    have hB := k.trk b u o' q e'
    have := st _ _ hB
    rw [e] at this
    cases this
    exact hB
theorem Un.fly (u : Un fr [] H H' h0 h) (k : Kp B fr H' h0 h) (st : B.StaysIn h'') (up : h.UpToSlots h'') (nf : ∀ b ∈ fr, ∀ o, h.get? b = some o → ∀ vs, o.data ≠ .fields vs) : Un fr [] H H' h0 h'' where
  keep := fun b o q n hb he => st _ _ (k.old b o o q hb (u.keep b o q n hb he))
  slot := fun b o q n hb he => by
    obtain ⟨sl, e⟩ := u.slot b o q n hb he
    obtain ⟨sl', e'⟩ := up b _ e (nf b hb _ e)
    exact ⟨sl', e'⟩
  free := u.free
  there := fun b o q he => by
    obtain ⟨o', e⟩ := u.there b o q he
    by_cases hb : b ∈ fr
    · obtain ⟨sl', e'⟩ := up b _ e (nf b hb _ e)
      exact ⟨_, e'⟩
    · exact ⟨o', st _ _ (k.old b o o' q hb e)⟩
  tups := u.tups
  frzs := u.frzs
  tbls := u.tbls
end
/-- an exception in flight, not yet noted here, noted by callees, or noted here -/
def Mk0 (e : Addr) (cls : Value) (h : Heap) : Prop := ∃ oe vs a0, h.get? e = some oe ∧ oe.cls = cls ∧ oe.data = .fields vs ∧ vs[1]? = some .none ∧ vs[0]? = some a0
structure InF (B : Heap) (l : List Env) (e : Addr) (cls : Value) (h : Heap) : Prop where
  st : B.StaysIn h
  ne : B.get? e = none
  ff : h.FunFrames B l
  tr : Mk0 e cls h ∨ ∃ a0 v, h.TracedAtW B e cls a0 v
theorem InF.nf {B : Heap} {l : List Env} {e : Addr} {cls : Value} {h : Heap} (x : InF B l e cls h) : ∀ b ∈ frs l, ∀ o, h.get? b = some o → ∀ vs, o.data ≠ .fields vs := fun b hb o e => by
  obtain ⟨_, o', e', nf⟩ := x.ff.mem hb
  rw [e] at e'
  cases e'
  exact nf
theorem _root_.PySem.Heap.HeldW.inF {B : Heap} {env : Env} {r : List Env} {e L : Addr} {cls a0 : Value} {h : Heap} (hf : env.frame = some L) (x : Heap.HeldW B (env :: r) e cls a0 L h) : InF B (env :: r) e cls h := ⟨x.1, x.2.1, x.2.2.1, .inr ⟨a0, _, x.2.2.2⟩⟩
theorem _root_.PySem.Heap.FlyingW.inF {B : Heap} {l : List Env} {e : Addr} {cls a0 : Value} {h : Heap} (x : Heap.FlyingW B l e cls a0 h) : InF B l e cls h := ⟨x.1, x.2.1, x.2.2.1, .inr ⟨a0, .none, x.2.2.2⟩⟩
section
variable {M : Model} {A : Around} {E : Value → Shared → Prop} {s : Shared} {B : Heap} {env : Env} {outer : List Env} {L e : Addr} {cls : Value} {Q : Unit → Shared → Prop}
theorem in_note (hfr : A.frames = some (env :: outer)) (hf : env.frame = some L) (x : InF B (env :: outer) e cls s.heap) (hQ : ∀ h' a0, Heap.HeldW B (env :: outer) e cls a0 L h' → s.heap.UpToSlots h' → Q () { s with heap := h' }) :
    wpAny M A (noteFrame (.ref e) env) Q E s := by
  rcases x.tr with ⟨oe, vs, a0, he, hc, hd, h1, h0⟩ | ⟨a0, v, ht⟩
  · subst hc
    unfold noteFrame
    simp only [hf]
    refine wpAny_bind (wpAny_field he hd h1 ?_)
    rw [if_neg (by decide)]
    exact wpAny_entryW hfr x.ff hf he x.st x.ne hd (Array.getElem?_eq_some_iff.mp h1).1 h0 fun h' ⟨x1, x2, x3, x4⟩ => hQ h' a0 ⟨x1, x.ne, x2, x3⟩ x4
  · by_cases hv : (v == rawInt L) = true
    · have hv : v = rawInt L := eq_of_beq hv
      subst hv
      exact wpAny_noteFrame_againW hf ht (hQ s.heap a0 ⟨x.st, x.ne, x.ff, ht⟩ (.refl _))
    · obtain ⟨oe, vs, T, oT, ts, he, ⟨hc, h0⟩, hd, h1, hnT, hTe, hT, hdT, h3⟩ := ht
      subst hc
      have hsz3 : 3 < ts.size := (Array.getElem?_eq_some_iff.mp h3).1
      have other : ∀ b, b ≠ T → (s.heap.update T (Obj.mapFields (·.setIfInBounds 3 Value.none))).get? b = s.heap.get? b := fun b hb => Heap.get?_update_other _ _ (Ne.symm hb)
      have noRecord : ∀ b o, s.heap.get? b = some o → (∀ vs, o.data ≠ .fields vs) → b ≠ T := fun b o hb hnf q => by
        rw [q, hT] at hb; injection hb with hb; subst hb; exact hnf ts hdT
      unfold noteFrame
      simp only [hf]
      refine wpAny_bind (wpAny_field he hd h1 ?_)
      rw [if_pos (show (Value.ref T != Value.none) = true from by simp)]
      refine wpAny_bind (wpAny_field hT hdT h3 ?_)
      rw [if_neg hv]
      refine wpAny_bind (wpAny_setField hT hdT hsz3 ?_)
      refine wpAny_entryW (base := B) (outer := outer) (e := e) hfr (x.ff.of_keeps fun b o hb hnf => ⟨o, (other b (noRecord b o hb hnf)).trans hb, rfl⟩) hf ((other e (Ne.symm hTe)).trans he) (fun b o hbo => (other b fun q => by rw [q, hnT] at hbo; cases hbo).trans (x.st b o hbo)) x.ne hd (Array.getElem?_eq_some_iff.mp h1).1 h0 fun h' ⟨x1, x2, x3, x4⟩ => hQ h' a0 ⟨x1, x.ne, x2, x3⟩ ?_
      exact fun b o hb hnf => x4 b o ((other b (noRecord b o hb hnf)).trans hb) hnf
theorem in_leave (hfr : A.frames = some (env :: outer)) (hf : env.frame = some L) (x : InF B (env :: outer) e cls s.heap) (hQ : ∀ h' a0, Heap.FlyingW B outer e cls a0 h' → s.heap.UpToSlots h' → Q () { s with heap := h' }) :
    wpAny M A (leaving env (.ref e)) Q E s := by
  unfold leaving
  refine wpAny_bind (in_note hfr hf x fun h' a0 hh up => ?_)
  refine wpAny_landsW hh fun h'' hfl up' => ?_
  obtain ⟨k1, k2, ⟨_, _, k3⟩, k4⟩ := hfl
  exact hQ h'' a0 ⟨k1, k2, k3, k4⟩ (up.trans up')
theorem in_flight {fl : Option Addr} {a0 f0 : Value} {l : List Env} (hkb : B.StaysIn s.heap) (hl : s.heap.FunFrames B l) (ht : s.heap.TracedAtW B e cls a0 f0)
    (h : ∀ h', B.StaysIn h' → h'.FunFrames B l → h'.TracedAtW B e cls a0 (fl.elim .none fun f => rawInt f) → s.heap.UpToSlots h' → Q () { s with heap := h' }) : wpAny M A (setFlight (.ref e) fl) Q E s := by
  obtain ⟨oe, vs, T, oT, ts, he, hcls, hd, h1, hnT, hTe, hT, hdT, h3⟩ := ht
  have hsz3 : 3 < ts.size := (Array.getElem?_eq_some_iff.mp h3).1
  have other : ∀ b, b ≠ T → (s.heap.update T (Obj.mapFields (·.setIfInBounds 3 (fl.elim Value.none fun f => rawInt f)))).get? b = s.heap.get? b :=
    fun b hb => Heap.get?_update_other _ _ (Ne.symm hb)
  have noRecord : ∀ b o, s.heap.get? b = some o → (∀ vs, o.data ≠ .fields vs) → b ≠ T := fun b o hb hnf q => by
    rw [q, hT] at hb; injection hb with hb; subst hb; exact hnf ts hdT
  unfold setFlight
  refine wpAny_bind (wpAny_field he hd h1 ?_)
  rw [if_pos (show (Value.ref T != Value.none) = true from by simp)]
  refine wpAny_setField hT hdT hsz3 (h _ (fun b o hbo => (other b fun q => by rw [q, hnT] at hbo; cases hbo).trans (hkb b o hbo))
    (hl.of_keeps fun b o hb hnf => ⟨o, (other b (noRecord b o hb hnf)).trans hb, rfl⟩) ?_ fun b o hb hnf => ⟨o.slots, (other b (noRecord b o hb hnf)).trans hb⟩)
  exact ⟨oe, vs, T, _, _, (other e (Ne.symm hTe)).trans he, hcls, hd, h1, hnT, hTe, Heap.get?_update_self _ hT (Obj.isFreed_of_fields (Obj.data_mapFields hdT _)), Obj.data_mapFields hdT _, by simp [hsz3]⟩
theorem in_back {E' : Value → Shared → Prop} {a0 : Value} (hf : env.frame = some L) (x : Heap.HeldW B (env :: outer) e cls a0 L s.heap) (hQ : ∀ h', Heap.HeldW B (env :: outer) e cls a0 L h' → s.heap.UpToSlots h' → E' (.ref e) { s with heap := h' }) :
    cameBackBy M A env E' (.ref e) s := by
  obtain ⟨f1, f2, f3, f4⟩ := x
  obtain ⟨oe, vs, T, oT, ts, he, hcls, hd, h1, r⟩ := id f4
  show wpAny M A (do
    if (← field (.ref e) 1) == .none then unsupported "frame.own-activation:exception-without-traceback"
    setFlight (.ref e) env.frame) (fun _ s'' => E' (.ref e) s'') E' s
  refine wpAny_bind (wpAny_field he hd h1 ?_)
  rw [if_neg (by simp), hf]
  exact in_flight (fl := some L) f1 f3 f4 fun h' k1 k2 k3 k4 => hQ h' ⟨k1, f2, k2, k3⟩ k4
end
end L2
namespace L2
open PySem PySem.Spec PyProof.Rows
/-- an exception of the class at C in a body -/
def XS (X : Cx) (C : Addr) (H' : Hp) (σ : St) (e : Value) (s' : Shared) : Prop := ∃ ea B pins H sr, e = .ref ea ∧ Inv X pins σ H sr ∧ s'.os = sr.os ∧ AllBare s'.gens ∧ Un (frs X.stack) [] H H' sr.heap s'.heap ∧ HOk X.prog X.w H' s'.heap ∧
  Kp B (frs X.stack) H' sr.heap s'.heap ∧ InF B X.stack ea (.ref C) s'.heap
/-- how it lies behind a call -/
def CXe (P : Program) (w : World) : CXT := fun outer H s E e s' => ∃ ea C B a0 H', e = .ref ea ∧ s'.os = s.os ∧ AllBare s'.gens ∧ Un (frs outer) [] H H' s.heap s'.heap ∧ HOk P w H' s'.heap ∧ Kp B (frs outer) H' s.heap s'.heap ∧
  Heap.FlyingW B outer ea (.ref C) a0 s'.heap ∧ E (.ref C) none H'
/-- a def's body -/
structure Body (X : Cx) : Prop where
  stk : X.stack = X.env :: X.outer
  frm : X.env.frame = some X.env.locals
  ex : X.ex = []
section
variable {X : Cx} {C : Addr} {H' : Hp} {σ : St} {e : Value} {s' : Shared}
theorem XS.step {ea : Addr} {B : Heap} {pins : List (Addr × Obj)} {H : Hp} {sr : Shared} {h'' : Heap} (I : Inv X pins σ H sr) (os : s'.os = sr.os) (bare : AllBare s'.gens) (un : Un (frs X.stack) [] H H' sr.heap s'.heap) (ok : HOk X.prog X.w H' s'.heap)
    (kp : Kp B (frs X.stack) H' sr.heap s'.heap) (x : InF B X.stack ea (.ref C) s'.heap) (x' : InF B X.stack ea (.ref C) h'') (up : s'.heap.UpToSlots h'') : XS X C H' σ (.ref ea) { s' with heap := h'' } :=
  ⟨ea, B, pins, H, sr, rfl, I, os, bare, un.fly kp x'.st up x.nf, ok.fly kp x'.st, kp.fly ok x'.st fun b o0 q => un.there b o0 q (by simp), x'⟩
/-- in a body again, behind it -/
theorem XS.inv (h : XS X C H' σ e s') : ∃ pins, Inv X pins σ H' s' := by
  obtain ⟨ea, B, pins, H, sr, rfl, I, os, bare, un, ok, _⟩ := h
  exact ⟨pins, I.call' os un ok bare fun b z => absurd z (by simp)⟩
theorem passes_XS {Ex : Addr → Hp → St → Prop} {M : Model} (b : Body X) : PassesOwn M X.A X.env (fun e s' => ∃ C H' σ, XS X C H' σ e s' ∧ Ex C H' σ) := by
  rintro e s' ⟨C, H', σ, ⟨ea, B, pins, H, sr, rfl, I, os, bare, un, ok, kp, x⟩, he⟩
  have x1 := x
  have hfr := I.ok.frames
  rw [b.stk] at x1 hfr
  refine in_note hfr b.frm x1 fun h1 a0 hh up => ?_
  refine in_back b.frm hh fun h2 hh2 up2 => ?_
  have x2 : InF B X.stack ea (.ref C) h2 := by rw [b.stk]; exact hh2.inF b.frm
  exact ⟨C, H', σ, XS.step (s' := s') I os bare un ok kp x x2 (up.trans up2), he⟩
/-- it leaves the body -/
theorem XS.leave {M : Model} {E : XK} {E' : Value → Shared → Prop} (b : Body X) (h : XS X C H' σ e s') (he : E (.ref C) none H') :
    wpAny M X.A (leaving X.env e) (fun _ s'' => CXe X.prog X.w X.outer X.H₀ X.s₀ E e s'') E' s' := by
  obtain ⟨ea, B, pins, H, sr, rfl, I, os, bare, un, ok, kp, x⟩ := h
  have x1 := x
  have hfr := I.ok.frames
  rw [b.stk] at x1 hfr
  refine in_leave hfr b.frm x1 fun h' a0 hfl up => ?_
  have un2 := un.fly kp hfl.1 up x.nf
  have ok2 := ok.fly kp hfl.1
  have kp2 := kp.fly ok hfl.1 fun b o0 q => un.there b o0 q (by simp)
  have hex : ∀ c : Addr, c ∉ X.ex := fun c z => by rw [b.ex] at z; simp at z
  have loc : ∀ c o, X.s₀.heap.get? c = some o → c ≠ X.env.locals := fun c o q z => by
    have h1 := Heap.lt_size q
    have h2 := I.ok.above
    rw [z] at h1
    exact absurd (Nat.lt_of_lt_of_le h1 h2) (Nat.lt_irrefl _)
  have fr : ∀ c o, X.s₀.heap.get? c = some o → c ∉ frs X.outer → c ∉ frs X.stack := fun c o q hc z => by
    rw [b.stk] at z
    have z : c ∈ List.filterMap (fun e : Env => e.frame) (X.env :: X.outer) := z
    rw [List.filterMap_cons, b.frm] at z
    rcases List.mem_cons.mp z with z | z
    · exact loc c o q z
    · exact hc z
  refine ⟨ea, C, B, a0, H', rfl, os.trans I.os, bare, ⟨fun c o q n hc _ => ?_, fun c o q n hc _ => ?_, fun c o q n _ => ?_, fun c o q _ => ?_, fun c xs q => un2.tups c xs (I.base.tups c xs q), fun c o u q => un2.frzs c o u (I.base.frzs c o u q), fun c ps q => ?_⟩, ok2, ⟨fun c o0 o q hc e => ?_, kp2.trk⟩, hfl, he⟩
  · exact un2.keep c o (I.base.keep c o q n hc (hex c)) (I.base.free c o q n (hex c)) (fr c o q hc) (by simp)
  · obtain ⟨sl, e1⟩ := I.base.slot c o q n hc (hex c)
    have h1 : c ∈ frs X.stack := by
      rw [b.stk]
      show c ∈ List.filterMap (fun e : Env => e.frame) (X.env :: X.outer)
      rw [List.filterMap_cons, b.frm]
      exact List.mem_cons_of_mem _ hc
    obtain ⟨sl', e2⟩ := un2.slot c _ e1 (I.base.free c o q n (hex c)) h1 (by simp)
    exact ⟨sl', e2⟩
  · obtain ⟨o', e1⟩ := I.base.there c o q (hex c)
    exact un2.free c o' e1 (I.base.free c o q n (hex c)) (by simp)
  · obtain ⟨o', e1⟩ := I.base.there c o q (hex c)
    exact un2.there c o' e1 (by simp)
  · obtain ⟨m1, e1⟩ := I.base.tbls c ps q
    obtain ⟨m2, e2⟩ := un2.tbls c _ e1
    exact ⟨m1 ++ m2, by rw [e2, Array.append_assoc]⟩
  · obtain ⟨o', e1⟩ := I.base.there c o0 q (hex c)
    exact kp2.old c o' o e1 (fr c o0 q hc) e
/-- it comes from a callee -/
theorem XS.came {pins : List (Addr × Obj)} {H : Hp} {s : Shared} {E : XK} (I : Inv X pins σ H s) (h : CXe X.prog X.w X.stack H s E e s') : ∃ C H', XS X C H' σ e s' ∧ E (.ref C) none H' := by
  obtain ⟨ea, C, B, a0, H', rfl, os, bare, un, ok, kp, hfl, he⟩ := h
  exact ⟨C, H', ⟨ea, B, pins, H, s, rfl, I, os, bare, un, ok, kp, hfl.inF⟩, he⟩
/-- it is made here -/
theorem XS.made {pins : List (Addr × Obj)} {H : Hp} {s : Shared} {ea : Addr} {h' : Heap} {args : List Value} (I : Inv X pins σ H s) (hm : Heap.MadeExcOf s.heap h' ea (.ref C) args) : XS X C H σ (.ref ea) { s with heap := h' } := by
  have hB : ∀ b o, s.heap.get? b = some o → b ∉ frs X.stack → (PySem.W.hideAll s.heap (frs X.stack)).get? b = some o := fun b o q hb => PySem.W.hideAll_get _ q hb
  obtain ⟨t, he, htn, ht⟩ := hm.there
  refine ⟨ea, PySem.W.hideAll s.heap (frs X.stack), pins, H, s, rfl, I, rfl, I.bare, Un.kept hm.keeps, I.hok.kept hm.keeps, ⟨fun b o0 o q hb e => ?_, fun b u o q e => ?_⟩, ⟨fun b o q => hm.keeps _ _ (PySem.W.of_hideAll _ q), ?_, ?_, .inl ⟨_, _, _, he, rfl, rfl, rfl, rfl⟩⟩⟩
  · have := hm.keeps _ _ q
    have e : h'.get? b = some o := e
    rw [e] at this
    cases this
    exact hB b _ q hb
  · obtain ⟨o', e'⟩ := (I.hok b u q).at
    have := hm.keeps _ _ e'
    have e : h'.get? b = some o := e
    rw [e] at this
    cases this
    refine hB b _ e' fun z => ?_
    rw [I.stkFree b z] at q
    cases q
  · cases q : (PySem.W.hideAll s.heap (frs X.stack)).get? ea with
    | none => rfl
    | some o => have := PySem.W.of_hideAll _ q; rw [hm.new] at this; cases this
  · have ff := PySem.W.funFrames_hide (as := frs X.stack) I.stack fun env he a ha => List.mem_filterMap.mpr ⟨env, he, ha⟩
    exact ff.of_keeps fun b o hb _ => ⟨o, hm.keeps b o hb, rfl⟩
end
theorem exc_obj {K : PySem.W.Frag} {h : Heap} {C : Addr} {bmB : List Value} {newId : String} (X : K.In h) (q : PySem.W.excIn K C bmB newId = true) :
    ∃ bm N nm qn bs hdct sn sub ab col dd k0 k1 k2 k3 k5 mN, h.get? C = some (excClassObj nm qn C N bs bm hdct sn sub ab col dd k0 k1 k2 k3 k5 newId) ∧ h.Ns N mN ∧ mN "__init__" = none ∧ OwnTail h bmB bm := by
  unfold PySem.W.excIn at q
  split at q
  · rename_i dd cd sl ho
    split at q
    · rename_i C' bm k0 k1 k2 k3 n k5 hm hs
      simp only [Bool.and_eq_true, beq_iff_eq, Bool.not_eq_true'] at q
      obtain ⟨⟨⟨⟨⟨rfl, rfl⟩, hdel⟩, ht⟩, hok⟩, hni⟩ := q
      obtain ⟨nm, bs, mro, ns, qn, hd, sn, sub, ab, col, del⟩ := cd
      dsimp only at hm hdel hok hni
      subst hm hdel
      have hsl : sl = #[k0, k1, k2, k3, some (.builtin n), k5] := by
        obtain ⟨l⟩ := sl
        simp only at hs
        rw [hs]
      subst hsl
      exact ⟨bm, ns, nm, qn, bs, hd, sn, sub, ab, col, dd, k0, k1, k2, k3, k5, _, X _ _ ho, .of_isNs (PySem.W.isNs_of_in X hok), PySem.W.nsMap_none_of_in X hok hni, PySem.W.tail_of_in X ht⟩
    · cases q
  · cases q
abbrev VEs : List Value := [.type "ValueError", .type "Exception", .type "BaseException", .type "object"]
abbrev IsExc (K : PySem.W.Frag) (C : Addr) : Prop := PySem.W.excIn K C VEs "ValueError.__new__" = true
theorem PSs.wishx {X : Cx} {st : List Stmt} {t : TS} {E' : Value → Shared → Prop} (h : PSs (X.wish E') st t) (hE : ∀ e s', E' e s' → X.xe e s') : PSs X st t := fun pins s σ H D I hw =>
  wpAny_mono (h pins s σ H D (I.wish _) hw) (fun _ _ q => q.unwish) hE
/-- an exception with the wished objects leaves as wished -/
def XOk (X : Bc) : Prop := ∀ F' A' W' H' S' σ' C e s', X.Am F' A' → RW X.K F' A' W' H' → SR X.K F' A' S' σ' → X.xk C S' W' → XS X C H' σ' e s' → X.xe e s'
section
variable {X : Bc} {n : Nat} {S : Sl} {W : Wl} {k : KB} {D : DB}
/-- raise C(..) -/
theorem bs_raise {x : Str} {C : Addr} {e : Expr} {es : List Expr} {np cpos pos : Pos} (xo : XOk X) (hc : X.calm = true) (hx : IsExc X.K C) (hm : X.mg x = some (.ref C)) (h : BA X S W (e :: es) fun as W1 => as.length ≤ sizeLine ∧ X.xk C S W1)
    (hg : Gl X x := by rfl) (hdb : (x == ("__debug__" : Str)) = false := by decide) (he : starEach (e :: es) X.env = (false, eval e X.env) :: starEach es X.env := by rfl) (hpl : (backTo cpos (starEach es X.env)).any (·.1) = false := by rfl) :
    BS X n S W (.Raise (some (.Call (.Name x np) (e :: es) [] cpos)) none pos) D := by
  intro pins s σ H E I ⟨F, A, hn, x0, r, sr, q⟩
  obtain ⟨tl, N, nm, qn, bs, hdct, sn, sub, ab, col, dd, k0, k1, k2, k3, k5, mN, hC, hN, hni, T⟩ := exc_obj I.ok.mod.kin hx
  refine wpAny_Raise_call_subT (C := C) (nm := nm) (q := qn) (N := N) (bs := bs) (bm := tl) (hdct := hdct) (sn := sn) (sub := sub) (ab := ab) (col := col) (dd := dd) (k0 := k0) (k1 := k1) (k2 := k2) (k3 := k3) (k5 := k5)
    PySem.F.excBase_ValueError (mN := mN) (T.hasType PySem.F.excBase_ValueError.hasBase) (I.ok.hd hc) (by rw [he]; show (false || (backTo cpos (starEach es X.env)).any (·.1)) = false; rw [hpl]; rfl) hni (ld_glob I hg hm ⟨rfl, ?_⟩ hdb)
  have hA := h cpos pins s σ H (fun vs H1 => vs.length ≤ sizeLine ∧ ∃ F' A' W', X.Am F' A' ∧ RW X.K F' A' W' H1 ∧ SR X.K F' A' S σ ∧ X.xk C S W') I ⟨F, A, x0.am, r, sr, fun F' A' W' H1 es' vs e1 r1 z1 h1 => ⟨by rw [← pd_len z1]; exact h1.1, F', A', W', x0.am.trans e1, r1, sr.ext e1, h1.2⟩⟩
  rw [he] at hA ⊢
  refine Calls.evalArgs_plain (wpAny_mono hA (fun vs s₂ ⟨xs, H1, I1, rv, hl, F', A', W', am, r1, sr1, hk⟩ => ?_) fun _ _ y => y)
  exact ⟨rfl, by rw [← rv.length]; exact hl, I1.bk _ _ hC, hN.keeps I1.bk, T.keeps I1.bk, fun h' ea hm' => xo F' A' W' H1 S σ C (.ref ea) _ am r1 sr1 hk (XS.made I1 hm')⟩
/-- a def that may raise -/
abbrev RX := List El → Wl → KB → (Addr → Wl → Prop) → Prop
def spX (K : PySem.W.Frag) (R : RX) : Sp := fun vs H Q E => ∃ F A W es k x, RW K F A W H ∧ Paired (ElR K F A) es vs ∧ R es W k x ∧ Post K F A k Q ∧ ∀ F' A' W' H' C, Ext F A F' A' → RW K F' A' W' H' → x C W' → E (.ref C) none H'
theorem be_callx {R : RX} {j : Nat} {f : Addr} {fd : FuncData} {ps : List Str} {x : Str} {p pos : Pos} {e : Expr} {es : List Expr} (F : FnOk X.prog X.w X.K X.mg X.base (CXe X.prog X.w) j f fd ps (spX X.K R)) (xo : XOk X) (hr : Room j X.A) (hm : X.mg x = some (.ref f))
    (hk : PySem.W.keepIn X.K (.ref f) = true) (hb : Binds X.K fd ps []) (h : BA X S W (e :: es) fun as W1 => R as W1 k fun C W' => X.xk C S W') (hg : Gl X x := by rfl) (hdb : (x == ("__debug__" : Str)) = false := by decide)
    (he : starEach (e :: es) X.env = (false, eval e X.env) :: starEach es X.env := by rfl) (hpl : (backTo pos (starEach es X.env)).any (·.1) = false := by rfl) : BE X S W (.Call (.Name x p) (e :: es) [] pos) k := by
  intro pins s σ H Q I ⟨Fh, A, x0, r, sr, q⟩
  refine wpAny_Call_Name_kw (ld_glob I hg hm ?_ hdb)
  refine PySem.W.callWith_K (h₀ := X.base) I.ok.mod.kin hk (thn (h pos pins s σ H (fun vs H1 => ∃ F1 A1 W1 as, X.Am F1 A1 ∧ RW X.K F1 A1 W1 H1 ∧ SR X.K F1 A1 S σ ∧ Paired (ElR X.K F1 A1) as vs ∧ R as W1 k (fun C W' => X.xk C S W') ∧ Post X.K F1 A1 k Q) I
    ⟨Fh, A, x0, r, sr, fun F1 A1 W1 H1 as vs e1 r1 z1 h1 => ⟨F1, A1, W1, as, x0.trans e1, r1, sr.ext e1, z1, h1, q.ext e1⟩⟩) fun us s1 ⟨vs, H1, I1, rv, F1, A1, W1, as, am, r1, sr1, z1, h1, q1⟩ => ⟨I1.kIn, ?_⟩) he hpl
  have hsp : spX X.K R vs H1 Q (fun cls _ H' => ∃ C F' A' W', cls = .ref C ∧ X.Am F' A' ∧ RW X.K F' A' W' H' ∧ SR X.K F' A' S σ ∧ X.xk C S W') :=
    ⟨F1, A1, W1, as, k, _, r1, z1, h1, q1, fun F' A' W' H' C e1 r' hx => ⟨C, F', A', W', rfl, am.trans e1, r', sr1.ext e1, hx⟩⟩
  have hl : us.length = ps.length := by rw [← rv.length]; exact F.len _ _ _ _ hsp
  have hb1 := hb s1 us I1.kIn (by rw [List.append_nil]; exact hl)
  rw [List.append_nil] at hb1
  refine wpAny_call (codeAny_mono (F.run X.A X.stack s1 H1 ⟨us, []⟩ us vs Q _ hr I1.env0 hb1 rv hsp) fun r s' hq => ?_)
  cases r with
  | error e =>
    have hq : CXe X.prog X.w X.stack H1 s1 (fun cls _ H' => ∃ C F' A' W', cls = .ref C ∧ X.Am F' A' ∧ RW X.K F' A' W' H' ∧ SR X.K F' A' S σ ∧ X.xk C S W') e s' := hq
    obtain ⟨C, H', xs, C', F', A', W', e1, am', r', sr', hx⟩ := XS.came I1 hq
    cases e1
    exact xo F' A' W' H' S σ C e s' am' r' sr' hx xs
  | ok fl =>
    cases fl with
    | ret u => exact I1.after hq
    | next => exact False.elim hq
    | brk => exact False.elim hq
    | cont => exact False.elim hq
/-- a def that may raise, by its body -/
theorem fn_X {P : Program} {w : World} {K : PySem.W.Frag} {mg : Str → Option Value} {base : Heap} {x qual : Str} {st : Stmt} {f : Addr} {fd : FuncData} {N ps : List Str} {j : Nat} {R : RX} (F : Fun K x qual st f fd) (S : FnScope N ps (defScope st)) (len : ∀ es W k y, R es W k y → es.length = ps.length)
    (hbody : ∀ (X : Bc) (cdv : Value) (A : Around) (outer : List Env) (s : Shared) (H : Hp) (E : XK) (xe : Value → Shared → Prop) (F0 : Hp) (A0 : List Addr) es W k y, X = ⟨(cxOf (CXe P w) P w K mg base N qual (defScope st) f cdv A outer s H E).wish xe, F0, A0, fun C _ W' => y C W'⟩ →
      Room j (A.deeper (envOfC qual (defScope st) s.heap.objs.size f cdv)) → PassesOwn (model P w) (A.deeper (envOfC qual (defScope st) s.heap.objs.size f cdv)) (envOfC qual (defScope st) s.heap.objs.size f cdv) xe → XOk X → closed W → R es W k y →
      BSs X W.length (startS N es) W (defBody st) { nx := fun _ W' => k (.d .none) W', rt := k }) : FnOk P w K mg base (CXe P w) (j + 1) f fd ps (spX K R) := by
  obtain ⟨oc, od, kV, doc, pm, an, cdv, ct, osl, rfl, lk, hcd⟩ := F.ex
  refine fn_of lk hcd S (fun vs H Q E ⟨Fh, A, W, es, k, y, r, p, h, q, qx⟩ => by rw [← pd_len p]; exact len es W k y h) fun A outer s H vs Q E hr ⟨Fh, Ad, W, es, k, y, r, p, h, q, qx⟩ => ?_
  have bd : Body (cxOf (CXe P w) P w K mg base N qual (defScope st) f cdv A outer s H E) := ⟨rfl, rfl, rfl⟩
  have ext : ∀ {F' A'}, Ex1 W.length Fh Ad F' A' → Ext Fh Ad F' A' := fun y => ⟨y.same, by have := y.pre; rw [← r.len, List.take_length] at this; exact this⟩
  refine ⟨_, PSs.wishx (E' := fun e s' => ∃ C H' σ, XS (cxOf (CXe P w) P w K mg base N qual (defScope st) f cdv A outer s H E) C H' σ e s' ∧ E (.ref C) none H') (hbody ⟨_, Fh, Ad, fun C _ W' => y C W'⟩ cdv A outer s H E _ Fh Ad es W k y rfl hr (passes_XS (X := cxOf (CXe P w) P w K mg base N qual (defScope st) f cdv A outer s H E) bd) ?_ r.closed h) ?_, Fh, Ad, by rw [r.len]; exact Nat.le_refl _, ⟨.refl, by rw [r.len]; exact Nat.le_refl _⟩, r, .start p, ?_⟩
  · exact fun F' A' W' H' S' σ' C e s' am r' sr' hy ⟨ea, B, pins, H1, sr1, he, I, rest⟩ => ⟨C, H', σ', ⟨ea, B, pins, H1, sr1, he, I.unwish, rest⟩, qx F' A' W' H' C am r' hy⟩
  · exact fun e s' ⟨C, H', σ, xs, he⟩ => XS.leave bd xs he
  · exact ⟨fun F' A' W' H' S' σ' y r' sr' h' => q F' A' W' H' _ _ (ext y) r' (.dd Rq.non) h', fun _ _ _ _ _ _ _ _ _ h => h.elim, fun _ _ _ _ _ _ _ _ _ h => h.elim, fun F' A' W' H' e v y r' z h' => q F' A' W' H' e v (ext y) r' z h'⟩
end
end L2
namespace L2
open PySem PySem.Spec PyProof.Rows
/-- the context of a try's body, of a handler's suite -/
abbrev Cx.tryB (X : Cx) (pn : List (Addr × Obj)) (xe : Value → Shared → Prop) : Cx := { X with pn := pn, xe := xe }
abbrev Cx.hand (X : Cx) (pn : List (Addr × Obj)) (ea : Addr) : Cx := { X with pn := pn, A := X.A.mark (some (.ref ea)), calm := false, xe := fun _ _ => False }
section
variable {X : Cx} {pins : List (Addr × Obj)} {σ : St} {H : Hp} {s : Shared} {xe : Value → Shared → Prop} {ea : Addr}
theorem Cx.Ok.tryB (ok : X.Ok) (pn : List (Addr × Obj)) : (X.tryB pn xe).Ok :=
  ⟨ok.mod, ok.kind, ok.glob, ok.blt, ok.above, ok.inj, ok.has, ok.cab, ok.hd, ok.frames, ok.stk, ok.exf, ok.bs, ok.bsz, ok.noex, ok.exfs, ok.funs, ok.frf⟩
theorem Cx.Ok.untryB {pn : List (Addr × Obj)} (ok : (X.tryB pn xe).Ok) : X.Ok :=
  ⟨ok.mod, ok.kind, ok.glob, ok.blt, ok.above, ok.inj, ok.has, ok.cab, ok.hd, ok.frames, ok.stk, ok.exf, ok.bs, ok.bsz, ok.noex, ok.exfs, ok.funs, ok.frf⟩
theorem Cx.Ok.hand (ok : X.Ok) (pn : List (Addr × Obj)) : (X.hand pn ea).Ok :=
  ⟨ok.mod, ok.kind, ok.glob, ok.blt, ok.above, ok.inj, ok.has, ok.cab, fun z => (Bool.false_ne_true z).elim, ok.frames, ok.stk, ok.exf, ok.bs, ok.bsz, ok.noex, ok.exfs, ok.funs, ok.frf⟩
theorem Inv.tryB (I : Inv X pins σ H s) : Inv (X.tryB (X.pn ++ pins) xe) [] σ H s := ⟨I.ok.tryB _, I.os, I.bare, I.base, I.loc, I.cell, I.free, I.freeC, fun p hp => I.pin p (by simpa using hp), I.hok, I.len⟩
theorem Inv.untryB {pins' : List (Addr × Obj)} (I : Inv (X.tryB (X.pn ++ pins) xe) pins' σ H s) : Inv X pins σ H s := ⟨I.ok.untryB, I.os, I.bare, I.base, I.loc, I.cell, I.free, I.freeC, fun p hp => I.pin p (List.mem_append_left _ hp), I.hok, I.len⟩
theorem Inv.toHand (I : Inv X pins σ H s) : Inv (X.hand (X.pn ++ pins) ea) [] σ H s := ⟨I.ok.hand _, I.os, I.bare, I.base, I.loc, I.cell, I.free, I.freeC, fun p hp => I.pin p (by simpa using hp), I.hok, I.len⟩
theorem Inv.ofHand (ok : X.Ok) {pins' : List (Addr × Obj)} (I : Inv (X.hand (X.pn ++ pins) ea) pins' σ H s) : Inv X pins σ H s := ⟨ok, I.os, I.bare, I.base, I.loc, I.cell, I.free, I.freeC, fun p hp => I.pin p (List.mem_append_left _ hp), I.hok, I.len⟩
theorem SP.untryB {pins' : List (Addr × Obj)} {D : Ends} {f : Flow} (h : SP (X.tryB (X.pn ++ pins) xe) pins' D f s) : SP X pins D f s := by
  cases f with
  | next => obtain ⟨σ', H', I, q⟩ := h; exact ⟨σ', H', I.untryB, q⟩
  | brk => obtain ⟨σ', H', I, q⟩ := h; exact ⟨σ', H', I.untryB, q⟩
  | cont => obtain ⟨σ', H', I, q⟩ := h; exact ⟨σ', H', I.untryB, q⟩
  | ret u => obtain ⟨v, σ', H', I, r, q⟩ := h; exact ⟨v, σ', H', I.untryB, r, q⟩
theorem SP.ofHand (ok : X.Ok) {pins' : List (Addr × Obj)} {D : Ends} {f : Flow} (h : SP (X.hand (X.pn ++ pins) ea) pins' D f s) : SP X pins D f s := by
  cases f with
  | next => obtain ⟨σ', H', I, q⟩ := h; exact ⟨σ', H', I.ofHand ok, q⟩
  | brk => obtain ⟨σ', H', I, q⟩ := h; exact ⟨σ', H', I.ofHand ok, q⟩
  | cont => obtain ⟨σ', H', I, q⟩ := h; exact ⟨σ', H', I.ofHand ok, q⟩
  | ret u => obtain ⟨v, σ', H', I, r, q⟩ := h; exact ⟨v, σ', H', I.ofHand ok, r, q⟩
end
end L2
namespace K1
open PySem L2
def LET : Str := "abcdefghijklmnopqrstuvwxyz"
def isNm (x : Str) : Bool := (decide (1 ≤ x.length) && decide (x.length ≤ 8)) && x.cps.toList.all fun c => decide (97 ≤ c) && decide (c ≤ 122)
theorem let_len : LET.length = 26 := by decide +kernel
theorem let_get (i : Nat) (h : i < 26) : LET.cps[i]? = some (97 + i) := by
  have : ∀ j : Fin 26, LET.cps[j.1]? = some (97 + j.1) := by decide +kernel
  exact this ⟨i, h⟩
theorem in_let (c : Nat) : (!(Builtin.Str.occurrences LET ⟨#[c]⟩ 0 LET.length 1).isEmpty) = (decide (97 ≤ c) && decide (c ≤ 122)) := by
  have sub1 : ∀ i, Builtin.Str.subAt LET ⟨#[c]⟩ i = true ↔ LET.cps[i]? = some c := fun i => by
    unfold Builtin.Str.subAt
    show (LET.cps.extract i (i + 1) == #[c]) = true ↔ _
    rw [beq_iff_eq]
    have hs : LET.cps.size = 26 := let_len
    by_cases hi : i < 26
    · rw [let_get i hi]
      have : LET.cps.extract i (i + 1) = #[97 + i] := by
        apply Array.ext
        · simp [hs]; omega
        · intro j h1 h2
          have hj : j = 0 := by simp at h2; omega
          subst hj
          have := let_get i hi
          rw [Array.getElem_extract]
          simp
          rw [Array.getElem?_eq_getElem (by omega)] at this
          simpa using this
      rw [this]
      simp
    · constructor
      · intro e
        have := congrArg Array.size e
        simp [hs] at this
        omega
      · intro e
        rw [Array.getElem?_eq_none (by omega)] at e
        cases e
  rcases PySem.StrLaws.occ_head LET ⟨#[c]⟩ 1 (Nat.le_refl _) with ⟨h0, hn⟩ | ⟨i, r, h0, hi, _⟩
  · rw [h0]
    by_cases hc : 97 ≤ c ∧ c ≤ 122
    · exfalso
      refine hn (c - 97) ⟨?_, (sub1 _).mpr ?_⟩
      · rw [let_len]; show c - 97 + 1 ≤ 26; omega
      · rw [let_get _ (by omega)]; congr 1; omega
    · have : (decide (97 ≤ c) && decide (c ≤ 122)) = false := by
        by_cases h1 : 97 ≤ c
        · have : ¬ c ≤ 122 := fun h2 => hc ⟨h1, h2⟩
          simp [this]
        · simp [h1]
      rw [this]
      rfl
  · rw [h0]
    have e := (sub1 i).mp hi.2
    have hlt : i < 26 := by
      have := hi.1
      rw [let_len] at this
      have : i + 1 ≤ 26 := this
      omega
    rw [let_get i hlt] at e
    have e : 97 + i = c := Option.some.inj e
    have h1 : 97 ≤ c := by omega
    have h2 : c ≤ 122 := by omega
    simp [h1, h2]
abbrev cs (x : Str) : List Nat := x.cps.toList
theorem cs_len (x : Str) : (cs x).length = x.length := Array.length_toList
theorem nm_iff {x : Str} : isNm x = true ↔ 1 ≤ (cs x).length ∧ (cs x).length ≤ 8 ∧ ∀ c ∈ cs x, 97 ≤ c ∧ c ≤ 122 := by
  unfold isNm
  rw [← cs_len]
  show ((decide (1 ≤ (cs x).length) && decide ((cs x).length ≤ 8)) && (cs x).all fun c => decide (97 ≤ c) && decide (c ≤ 122)) = true ↔ _
  generalize cs x = l
  simp [and_assoc]
structure Deed where
  tk : Bool
  x : Str
  y : Str
  w : Str
  deriving DecidableEq
def Deed.kd (d : Deed) : Str := if d.tk then "take" else "send"
structure Deed.Ok (d : Deed) : Prop where
  x : isNm d.x = true
  y : isNm d.y = true
  w : isNm d.w = true
  ne : d.x ≠ d.y
theorem kd_or (d : Deed) : d.kd = "send" ∨ d.kd = "take" := by
  unfold Deed.kd
  split
  · exact .inr rfl
  · exact .inl rfl
theorem kd_inj {d e : Deed} (h : d.kd = e.kd) : d.tk = e.tk := by
  unfold Deed.kd at h
  have : ("take" : Str) ≠ "send" := by decide +kernel
  cases hd : d.tk <;> cases he : e.tk <;> simp only [hd, he] at h ⊢ <;> first | rfl | exact absurd h this | exact absurd h.symm this
def dP (d : Deed) : PyData := .tuple [.str d.kd, .str d.x, .str d.y, .str d.w]
def rP (ds : List Deed) : PyData := .tuple (ds.map dP)
theorem nm_len {x : Str} (h : isNm x = true) : x.length ≤ 8 := by
  obtain ⟨_, h2, _⟩ := nm_iff.mp h
  rw [cs_len] at h2
  exact h2
end K1
namespace K1
open PySem L2
theorem atI_nat' {α : Type} {xs : List α} {k : Nat} {x : α} (h : xs[k]? = some x) : atI xs (k : Int) = some x := by
  have hk := (List.getElem?_eq_some_iff.mp h).1
  unfold atI ixN
  rw [if_pos (by omega), if_pos (by omega)]
  simpa using h
end K1
namespace K1
open PySem L2
end K1
namespace L2
open PySem PySem.Spec PyProof.Rows
theorem excO_ok {P : Program} {w : World} {H : Hp} {h : Heap} {a C : Addr} {o : Obj} (he : h.get? a = some o) (hc : o.cls = .ref C) : ObjOk P w H h a (excO a C) :=
  ⟨⟨o, he, hc⟩, ⟨o, he⟩, fun h1 h2 ⟨o', e, c⟩ k => ⟨o', k o' e, c⟩⟩
theorem InF.obj {B : Heap} {l : List Env} {e : Addr} {cls : Value} {h : Heap} (x : InF B l e cls h) : ∃ oe vs, h.get? e = some oe ∧ oe.cls = cls ∧ oe.data = .fields vs := by
  rcases x.tr with ⟨oe, vs, a0, he, hc, hd, _⟩ | ⟨a0, v, oe, vs, T, oT, ts, he, hc, hd, _⟩
  · exact ⟨oe, vs, he, hc, hd⟩
  · exact ⟨oe, vs, he, hc.1, hd⟩
section
variable {X : Cx} {C ea : Addr} {H' : Hp} {σ : St} {s' : Shared}
theorem XS.keep (h : XS X C H' σ (.ref ea) s') : H' ea = none ∧ ∃ pins, Inv X pins σ (upd H' ea (excO ea C)) s' := by
  obtain ⟨ea', B, pins, H, sr, e, I, os, bare, un, ok, kp, x⟩ := h
  cases e
  obtain ⟨oe, vs, he, hc, hd⟩ := x.obj
  have hn : H' ea = none := by
    cases q : H' ea with
    | none => rfl
    | some u =>
      have := kp.trk ea u oe q he
      rw [x.ne] at this
      cases this
  have nfr : ea ∉ frs X.stack := fun z => x.nf ea z oe he vs hd
  have nold : ∀ o0, sr.heap.get? ea ≠ some o0 := fun o0 q => by
    have := kp.old ea o0 oe q nfr he
    rw [x.ne] at this
    cases this
  refine ⟨hn, pins, I.call' (ch := []) os ⟨un.keep, un.slot, fun b o q n hb => ?_, un.there, fun b xs q => ?_, fun b o u q => ?_, fun b ps q => ?_⟩ (fun b u q => ?_) bare fun b z => absurd z (by simp)⟩
  · have hbe : b ≠ ea := fun e => by subst e; exact nold o q
    rw [upd_ne hbe]
    exact un.free b o q n hb
  · have := un.tups b xs q
    rw [upd_ne (ne_of_none this hn)]
    exact this
  · have := un.frzs b o u q
    rw [upd_ne (ne_of_none this hn)]
    exact this
  · obtain ⟨more, this⟩ := un.tbls b ps q
    exact ⟨more, by rw [upd_ne (ne_of_none this hn)]; exact this⟩
  · by_cases e : b = ea
    · subst e
      rw [upd_same] at q
      cases q
      exact excO_ok he hc
    · rw [upd_ne e] at q
      exact (ok b u q).stay (fun c w' _ z => z) (fun c z => by rw [upd_ne (ne_of_none z hn)]; exact z) fun c xs z => by rw [upd_ne (ne_of_none z hn)]; exact z
/-- all but the locals stay -/
theorem Un.but {fs ex : List Addr} {H0 H1 : Hp} {g0 g1 g2 : Heap} {L : Addr} (u : Un fs ex H0 H1 g0 g1) (hs : Heap.SameBut L g1 g2) (hL : g0.objs.size ≤ L) : Un fs ex H0 H1 g0 g2 :=
  have ne : ∀ {b : Addr} {o : Obj}, g0.get? b = some o → g2.get? b = g1.get? b := fun e => hs.2 _ fun z => absurd (Nat.lt_of_lt_of_le (Heap.lt_size e) hL) (by rw [z]; exact Nat.lt_irrefl _)
  ⟨fun b o e n hb hx => (ne e).trans (u.keep b o e n hb hx), fun b o e n hb hx => (u.slot b o e n hb hx).imp fun _ z => (ne e).trans z, u.free, fun b o e hx => (u.there b o e hx).imp fun _ z => (ne e).trans z, u.tups, u.frzs, u.tbls⟩
theorem HOk.but {P : Program} {w : World} {H1 : Hp} {g1 g2 : Heap} {L : Addr} (ok : HOk P w H1 g1) (hs : Heap.SameBut L g1 g2) (hL : H1 L = none) : HOk P w H1 g2 := fun b ob e =>
  (ok b ob e).stay (fun c w' hc q => (hs.2 c fun z => by
    subst z
    rcases hc with z | z
    · rw [← z, hL] at e; cases e
    · rw [hL] at z; cases z).trans q) (fun _ q => q) fun _ _ q => q
/-- a name goes -/
theorem Inv.gone {pins : List (Addr × Obj)} {H : Hp} {s : Shared} {h' : Heap} {m : Str → Option Value} {i t' : Nat} {x : Str} {v : Option Value} (I : Inv X pins σ H s) (hN : X.N.Nodup) (hi : X.N[i]? = some x)
    (hm : ∀ (i : Nat) (x : Str) (v : V), X.N[i]? = some x → σ[i]? = some (some v) → Vis X.env.scope x → ∃ u, RelV v u ∧ Look X.env s.heap m x u)
    (hn' : h'.Ns X.env.locals (fun y => if y = x then v else m y)) (hs : Heap.SameBut X.env.locals s.heap h') : Inv X pins (σ.set i none) H { s with heap := h', toks := t' } where
  ok := I.ok
  os := I.os
  bare := I.bare
  base := I.base.but hs I.ok.above
  loc := ⟨_, hn', fun j y v' e1 e2 e3 => by
    have hj : i ≠ j := fun z => by
      subst z
      rw [List.getElem?_set_self (by rw [I.len]; exact (List.getElem?_eq_some_iff.mp hi).1)] at e2
      cases e2
    rw [List.getElem?_set_ne hj] at e2
    have hyx : y ≠ x := fun z => hj (nodup_ix hN hi (z ▸ e1))
    obtain ⟨u', r', ⟨k, e⟩ | ⟨k, c, e, z⟩⟩ := hm j y v' e1 e2 e3
    · exact ⟨u', r', .inl ⟨k, (if_neg hyx).trans e⟩⟩
    · exact ⟨u', r', .inr ⟨k, c, e, z.sameBut hs (I.cne y c e)⟩⟩⟩
  cell := fun y c e => (I.cell y c e).imp fun _ z => z.sameBut hs (I.cne y c e)
  free := I.free
  freeC := I.freeC
  pin := fun p hp => ⟨(hs.2 p.1 (I.pin p hp).2.2.1).trans (I.pin p hp).1, (I.pin p hp).2⟩
  hok := I.hok.but hs I.free
  len := by simpa using I.len
end
theorem SR.unset {K : PySem.W.Frag} {F : Hp} {A : List Addr} {S : Sl} {σ : St} (r : SR K F A S σ) (i : Nat) : SR K F A (S.set i none) (σ.set i none) := ⟨by simp [r.len], fun j e' q => by
  by_cases hj : i = j
  · subst hj
    have hi : i < S.length := by
      have := (List.getElem?_eq_some_iff.mp q).1
      simpa using this
    rw [List.getElem?_set_self hi] at q
    cases q
  · rw [List.getElem?_set_ne hj] at q
    obtain ⟨v', h1, h2⟩ := r.get j e' q
    exact ⟨v', by rw [List.getElem?_set_ne hj]; exact h1, h2⟩⟩
/-- behind a named handler its name is gone -/
abbrev DB.gone (i : Nat) (D : DB) : DB := { nx := fun S W => D.nx (S.set i none) W, rt := D.rt, bk := fun S W => D.bk (S.set i none) W, ct := fun S W => D.ct (S.set i none) W }
abbrev Ends.gone (i : Nat) (E : Ends) : Ends := { nx := fun σ H => E.nx (σ.set i none) H, rt := E.rt, bk := fun σ H => E.bk (σ.set i none) H, ct := fun σ H => E.ct (σ.set i none) H }
theorem Ends1.gone {K : PySem.W.Frag} {n : Nat} {F : Hp} {A : List Addr} {D : DB} {E : Ends} (q : Ends1 K n F A D E) (i : Nat) : Ends1 K n F A (D.gone i) (E.gone i) :=
  ⟨fun F' A' W' H' S' σ' y r sr h => q.nx F' A' W' H' _ _ y r (sr.unset i) h, fun F' A' W' H' S' σ' y r sr h => q.bk F' A' W' H' _ _ y r (sr.unset i) h, fun F' A' W' H' S' σ' y r sr h => q.ct F' A' W' H' _ _ y r (sr.unset i) h, q.rt⟩
section
variable {X : Bc} {n : Nat} {S : Sl} {W : Wl} {D : DB}
theorem bs_tryN {Dc : Addr} {x nm : Str} {i : Nat} {body suite : List Stmt} {b₀ : Stmt} {np hpos pos : Pos} (yk : Addr → Sl → Wl → Prop) (bd : Body X.toCx) (hm : X.mg x = some (.ref Dc)) (hN : X.N.Nodup) (hi : X.N[i]? = some nm) (hl : X.env.scope.names.lookup nm = some .local)
    (h : ∀ (X' : Bc) pn F A xe, X' = ⟨X.toCx.tryB pn xe, F, A, fun C' S' W' => PySem.W.exmOne X.K (.ref C') (.ref Dc) = some true ∧ yk C' S' W'⟩ → XOk X' → PassesOwn (model X.prog X.w) X.A X.env xe → BSs X' n S W body D)
    (hs : ∀ (X' : Bc) pn F A ea C' S' W', X' = ⟨X.toCx.hand pn ea, F, A, fun _ _ _ => False⟩ → yk C' S' W' → BSs X' n (S'.set i (some (.x C'))) W' (b₀ :: suite) (D.gone i))
    (hg : Gl X x := by rfl) (hdb : (x == ("__debug__" : Str)) = false := by decide) : BS X n S W (.Try body [.ExceptHandler (some (.Name x np)) (some nm) (b₀ :: suite) hpos] [] [] pos) D := by
  intro pins s σ H E I ⟨F, A, hn, x0, r, sr, q⟩
  have htl : (A.take n).length = n := by rw [List.length_take]; omega
  have ok := I.ok
  refine wpAny_Try_except ?_
  let X1 : Cx := X.toCx.tryB (X.pn ++ pins) (fun _ _ => False)
  have bd1 : Body X1 := ⟨bd.stk, bd.frm, bd.ex⟩
  let Ex : Addr → Hp → St → Prop := fun C' H' σ' => ∃ F' A' W' S', Ext F (A.take n) F' A' ∧ RW X.K F' A' W' H' ∧ SR X.K F' A' S' σ' ∧ PySem.W.exmOne X.K (.ref C') (.ref Dc) = some true ∧ yk C' S' W'
  have hb := h ⟨X1.wish (fun e s' => ∃ C' H' σ', XS X1 C' H' σ' e s' ∧ Ex C' H' σ'), F, A.take n, fun C' S' W' => PySem.W.exmOne X.K (.ref C') (.ref Dc) = some true ∧ yk C' S' W'⟩ (X.pn ++ pins) F (A.take n) _ rfl
    (fun F' A' W' H' S' σ' C' e s' am r' sr' hy ⟨ea, B, pins', H1, sr1, he, I1, rest⟩ => ⟨C', H', σ', ⟨ea, B, pins', H1, sr1, he, I1.unwish, rest⟩, F', A', W', S', am, r', sr', hy.1, hy.2⟩) (passes_XS bd1)
  refine wpAny_mono (hb [] s σ H E (I.tryB.wish _) ⟨F, A, hn, ⟨⟨.refl _, List.take_prefix _ _⟩, by rw [htl]; exact Nat.le_refl _⟩, r, sr, q⟩) (fun f s1 hf => ?_) (fun e s1 hf => ?_)
  · have hf1 : SP X pins E f s1 := SP.untryB (xe := fun _ _ => False) (SP.unwish hf)
    cases f with
    | next => exact wpAny_execs_nil hf1
    | brk => exact hf1
    | cont => exact hf1
    | ret v => exact hf1
  · obtain ⟨C', H', σ', ⟨ea, B, pins', H1, sr1, rfl, I1, os, bare, un, okh, kp, xf⟩, F', A', W', S', xt, rw', sr', hex, hy⟩ := hf
    have x1 := xf
    have hfr := I1.ok.frames
    rw [bd1.stk] at x1 hfr
    refine in_note hfr bd1.frm x1 fun h2 a0 hh up => ?_
    refine wpAny_landsW hh fun h3 hfl up3 => ?_
    have up13 := up.trans up3
    have f3 : InF B X1.stack ea (.ref C') h3 := by rw [bd1.stk]; exact hfl.inF
    obtain ⟨p3, I3⟩ := (XS.step (s' := s1) I1 os bare un okh kp xf f3 up13).inv
    have I3' : Inv (X.toCx.hand (X.pn ++ pins) ea) [] σ' H' { s1 with heap := h3 } := (Inv.untryB I3).toHand
    refine wpAny_handleBy_cons (codeAny_handlers_test (ld_glob (X := X.toCx.hand (X.pn ++ pins) ea) I3' hg hm ?_ hdb)) (by intro q; cases q)
    obtain ⟨ob, hob, hobc⟩ := hfl.there
    have LT : ∀ M, PySem.W.Looks M h3 (typeOf (.ref ea)) (.ref C') := fun M => hobc ▸ (PySem.W.Looks.ld hob).andThen .now
    refine (PySem.W.exm_one I3'.kIn (LT _) hex).here (codeAny_handlers_suite_as ?_)
    refine lands_againW hfl fun h6 hfl6 up6 => ?_
    have f6 : InF B X1.stack ea (.ref C') h6 := by rw [bd1.stk]; exact hfl6.inF
    obtain ⟨hnew, p6, I6⟩ := (XS.step (s' := s1) I1 os bare un okh kp xf f6 (up13.trans up6)).keep
    have I6' : Inv (X.toCx.hand (X.pn ++ pins) ea) [] σ' (upd H' ea (excO ea C')) { s1 with heap := h6 } := (Inv.untryB I6).toHand
    obtain ⟨rw6, ext6⟩ := rw'.newF hnew (excO ea C')
    have xt6 := xt.trans ext6
    refine store_ok (X := X.toCx.hand (X.pn ++ pins) ea) I6' hN hi (.inl hl) (show RelV (.ref ea) (.ref ea) from rfl) (fun s7 I7 => ?_) (.inr hl)
    have ex1 : Ex1 n F A (upd F' ea (excO ea C')) A' := ⟨xt6.same, xt6.pre, by have := xt6.pre.length_le; rw [htl] at this; exact this⟩
    have hsu := hs ⟨X.toCx.hand (X.pn ++ pins) ea, F, A.take n, fun _ _ _ => False⟩ (X.pn ++ pins) F (A.take n) ea C' S' W' rfl hy
    refine wpAny_mono (hsu [] s7 _ _ (E.gone i) I7 ⟨_, A', ex1.len, ⟨xt6, by rw [htl]; exact Nat.le_refl _⟩, rw6, (sr'.ext ext6).set (show ElR X.K (upd F' ea (excO ea C')) A' (.x C') (.ref ea) from ⟨ea, rfl, upd_same⟩) i, (q.ext hn ex1).gone i⟩) (fun f s8 hf => ?_) (fun _ _ z => z.elim)
    have hf : SP X pins (E.gone i) f s8 := SP.ofHand ok hf
    have go : ∀ {σ8 : St} {H8 : Hp} {Q : Unit → Shared → Prop} {E8 : Value → Shared → Prop}, Inv X.toCx pins σ8 H8 s8 → (∀ s9, Inv X.toCx pins (σ8.set i none) H8 s9 → Q () s9) → wpAny (model X.prog X.w) X.A (do bindName X.env nm .none; unbindBehindTheSuite X.env nm hpos) Q E8 s8 := fun {σ8 H8 Q E8} I8 hq => by
      obtain ⟨m, hns, hlk⟩ := id I8.loc
      exact wpAny_nameGoes_keeps hl hns (by rw [I8.ok.kind]; rfl) fun h' v hn' hsb => hq _ (I8.gone hN hi hlk hn' hsb)
    cases f with
    | next => obtain ⟨σ8, H8, I8, q8⟩ := hf; exact go I8 fun s9 I9 => ⟨_, H8, I9, q8⟩
    | brk => obtain ⟨σ8, H8, I8, q8⟩ := hf; exact go I8 fun s9 I9 => ⟨_, H8, I9, q8⟩
    | cont => obtain ⟨σ8, H8, I8, q8⟩ := hf; exact go I8 fun s9 I9 => ⟨_, H8, I9, q8⟩
    | ret u => obtain ⟨v, σ8, H8, I8, rv, q8⟩ := hf; exact go I8 fun s9 I9 => ⟨v, _, H8, I9, rv, q8⟩
end
end L2
namespace L2
open PySem PySem.Spec PyProof.Rows
theorem kV_is {P : Program} {w : World} {k : Key} {u : Value} (r : RelV (kV k) u) : (mixKind P w).is k u = true := by
  cases k with
  | inl i => obtain ⟨t, e⟩ := (show ∃ t, u = Value.int i t from r); subst e; exact mixKind_int P w i t
  | inr x => obtain ⟨t, e⟩ := (show ∃ t, u = Value.str x t from r); subst e; exact mixKind_str P w x t
theorem items_are {P : Program} {w : World} : ∀ {ks : List Key} {us : List Value}, Vals (ks.map kV) us → ItemsAre (mixKind P w) ks us
  | [], _, r => by rw [List.map_nil] at r; cases r; exact .nil
  | k :: ks, _, r => by
    rw [List.map_cons] at r
    cases r with
    | cons h t => exact .cons (kV_is h) (items_are t)
section
variable {X : Cx} {pins : List (Addr × Obj)} {σ : St} {H : Hp} {s : Shared} {a : Addr} {y v : V} {u r : Value} {o : Option V} {A : Around} {E : Value → Shared → Prop}
/-- a dict's object is replaced -/
theorem d_write {h' : Heap} {t' : Nat} {ob : HO} (I : Inv X pins σ H s) (mu : Mut (H a)) (hs : Heap.SameBut a s.heap h') (he : ∃ q, h'.get? a = some q) (new : ObjOk X.prog X.w (upd H a ob) h' a ob) :
    Inv X pins σ (upd H a ob) { s with heap := h', toks := t' } :=
  I.write (x := a) (e := a) mu (.inl rfl) (fun b q hb z => (hs.2 b hb).trans z) he new
end
theorem dt_empty {P : Program} {w : World} {H : Hp} (h : Heap) (hb : sysModules < h.objs.size) : ObjOk P w H (h.push { cls := .type "dict", data := .dict #[] }) h.objs.size (.dT []) :=
  ⟨Nat.zero_le _, beq_eq_false_iff_ne.mpr (Ne.symm (Nat.ne_of_lt hb)), [], .nil, _, #[], 0, Heap.get?_push_size _ rfl, ⟨rfl, rfl, rfl⟩, rfl, rfl, List.nodup_nil⟩
/-- {}, to be a dict of the kind that is wanted -/
def tDNewT : TE := fun _ H Q => ∀ p, H p = none → Q (.ref p) (upd H p (.dT []))
section
variable {X : Cx} {pos : Pos}
theorem pe_dnewT : PE X (.Dict [] [] pos) tDNewT := fun pins s σ H Q I h =>
  wpAny_Dict_empty ⟨.ref s.heap.objs.size, _, I.laid (a := s.heap.objs.size) (o := .dT []) (t' := s.toks) (fun _ _ q => Heap.get?_push_of_some _ q) (Nat.le_refl _) (dt_empty s.heap I.big), rfl, h _ (I.hok.fresh (Nat.le_refl _))⟩
end
end L2
namespace L2
open PySem PySem.Spec PyProof.Rows
theorem nd_last {α : Type} {l : List α} {k : α} (h : l.Nodup) (hk : k ∉ l) : (l ++ [k]).Nodup := List.nodup_append.mpr ⟨h, by simp, fun x hx y hy e => hk (by cases List.mem_singleton.mp hy; exact e ▸ hx)⟩
section
variable {X : Cx}
theorem key_sq {pins : List (Addr × Obj)} {σ : St} {H : Hp} {s : Shared} {b : Addr} {ks : List Key} (I : Inv X pins σ H s) (e : SqT X.K H b (ks.map kV)) : (tupleKind (mixKind X.prog X.w)).is s.heap ks b := by
  obtain ⟨its, r, ⟨o, h1, h2, n, h3⟩, _⟩ := I.tuple e
  exact ⟨o, its.toArray, n, h1, h2, h3, by simpa using items_are r⟩
end
end L2
namespace L2
open PySem PySem.Spec PyProof.Rows
def keyD : Key → PyData
  | .inl i => .int i
  | .inr x => .str x
abbrev tupK (ks : List Key) : PyData := .tuple (ks.map keyD)
theorem pd_keys {K : PySem.W.Frag} {F : Hp} : ∀ {ks : List Key} {vs : List V}, Paired (fun d v => Rq K F v d) (ks.map keyD) vs → vs = ks.map kV
  | [], _, .nil => rfl
  | .inl i :: ks, _, .cons h t => by rw [Rq.of_int h, pd_keys t]; rfl
  | .inr x :: ks, _, .cons h t => by rw [Rq.of_str h, pd_keys t]; rfl
theorem Rq.of_key {K : PySem.W.Frag} {F : Hp} {ks : List Key} {v : V} (r : Rq K F v (tupK ks)) : ∃ b, v = .ref b ∧ SqT K F b (ks.map kV) := by
  obtain ⟨b, vs, rfl, h, p⟩ := Rq.of_tup r
  cases pd_keys p
  exact ⟨b, rfl, h⟩
end L2
namespace L2
open PySem PySem.Spec PyProof.Rows
def tUGs (X : Bc) (es : List Expr) : TGs := fun vs σ H Q => ∃ t, PGs X es t ∧ t vs σ H Q
section
variable {X : Bc} {S : Sl} {W : Wl} {k : KB}
theorem pgs_U {es : List Expr} : PGs X es (tUGs X es) := fun pins s σ H vs us Q I r ⟨t, h, q⟩ => h pins s σ H vs us Q I r q
def BGs (X : Bc) (S : Sl) (W : Wl) (es : List Expr) (xs : List El) (k : Sl → Wl → Prop) : Prop := ∀ F A σ H vs (Q : St → Hp → Prop), X.Am F A → RW X.K F A W H → SR X.K F A S σ → Paired (ElR X.K F A) xs vs →
  (∀ F' A' W' H' S' σ', Ext F A F' A' → RW X.K F' A' W' H' → SR X.K F' A' S' σ' → k S' W' → Q σ' H') → tUGs X es vs σ H Q
theorem bgs_nil {k : Sl → Wl → Prop} (h : k S W) : BGs X S W [] [] k := fun F A σ H vs Q x0 r sr z q => by
  cases z
  exact ⟨gNil, pgs_nil, rfl, q F A W H S σ .refl r sr h⟩
theorem bgs_cons {t : Expr} {ts : List Expr} {e : El} {xs : List El} {k : Sl → Wl → Prop} (h : BG X S W t e fun S' W' => BGs X S' W' ts xs k)
    (hs : (assignEach (t :: ts) X.env).map (·.2) = assign t X.env :: (assignEach ts X.env).map (·.2) := by rfl) : BGs X S W (t :: ts) (e :: xs) k := fun F A σ H vs Q x0 r sr z q => by
  cases z with
  | @cons _ v _ vs z zs =>
    exact ⟨gCons (tUG X t) (tUGs X ts), pgs_cons pg_U pgs_U hs, v, vs, rfl, h F A σ H v _ x0 r sr z fun F' A' W' H' S' σ' e1 r' sr' h' =>
      h' F' A' σ' H' vs Q (x0.trans e1) r' sr' (pd_imp (fun _ _ y => y.ext e1) zs) fun F2 A2 W2 H2 S2 σ2 e2 r2 sr2 h2 => q F2 A2 W2 H2 S2 σ2 (e1.trans e2) r2 sr2 h2⟩
theorem bg_tupG {es : List Expr} {c : Nat} {pos : Pos} {ds : List PyData} {k : Sl → Wl → Prop} (hc : X.calm = true) (h : BGs X S W es (datas ds) k)
    (hn : (assignEach es X.env).length = ds.length := by rfl) (hst : (assignEach es X.env).findIdx? (·.1) = none := by rfl) : BG X S W (.Tuple es c pos) (.d (.tuple ds)) k :=
  fun F A σ H v Q x0 r sr z q => by
    obtain ⟨a, vs, rfl, hs, p⟩ := Rq.of_tup z
    exact ⟨_, pg_tup hc pgs_U hn hst, a, vs, rfl, r.sub.seqT hs, (pd_len p).symm, h F A σ H vs Q x0 r sr (pd_datas' p) q⟩
theorem cb_max2 {i j : Int} (hc : X.calm = true) (h : k (.d (.int (if j > i then j else i))) W) : CB X (.builtin "max") [.d (.int i), .d (.int j)] W k := .of (call_max2 hc) fun F A H Q vs r zs q => by
  obtain ⟨u, u', rfl, zu, zu'⟩ := pd_two zs
  obtain rfl := Rq.of_int zu
  obtain rfl := Rq.of_int zu'
  exact ⟨i, j, rfl, q.same r (.dd (Rq.int _)) h⟩
theorem cb_min2 {i j : Int} (hc : X.calm = true) (h : k (.d (.int (if j < i then j else i))) W) : CB X (.builtin "min") [.d (.int i), .d (.int j)] W k := .of (call_min2 hc) fun F A H Q vs r zs q => by
  obtain ⟨u, u', rfl, zu, zu'⟩ := pd_two zs
  obtain rfl := Rq.of_int zu
  obtain rfl := Rq.of_int zu'
  exact ⟨i, j, rfl, q.same r (.dd (Rq.int _)) h⟩
end
end L2
namespace L2
open PySem PySem.Spec PyProof.Rows
end L2
namespace L2
open PySem PySem.Spec PyProof.Rows
end L2
namespace L2
open PySem PySem.Spec PyProof.Rows
end L2
namespace L2
open PySem PySem.Spec PyProof.Rows PySem.SeqAt PySem.MeetsSeq
end L2
namespace L2
open PySem PySem.Spec PyProof.Rows
open Sem (wp)
section
variable {prog : Program} {w : World} {K : Type} [DecidableEq K] (knd : HeapKind prog w K)
inductive ItsH (h : Heap) : List K → List Value → Prop
  | nil : ItsH h [] []
  | cons {k : K} {a : Addr} {ks : List K} {vs : List Value} : knd.is h k a → ItsH h ks vs → ItsH h (k :: ks) (.ref a :: vs)
def IsTupH (h : Heap) (ks : List K) (a : Addr) : Prop := ∃ o items n, h.get? a = some o ∧ o.cls = .type "tuple" ∧ o.data = .seq items n ∧ ItsH knd h ks items.toList
variable {knd}
theorem ItsH.inj {h : Heap} {x y : List K} {vs : List Value} (hx : ItsH knd h x vs) (hy : ItsH knd h y vs) : x = y := by
  induction hx generalizing y with
  | nil => cases hy; rfl
  | cons h1 _ ih =>
    cases hy with
    | cons h2 t2 => rw [knd.inj h1 h2, ih t2]
theorem ItsH.keeps {h h' : Heap} {x : List K} {vs : List Value} {d : Addr} {o : Obj} {es ep} (hx : ItsH knd h x vs) (ho : h.get? d = some o) (hd : o.data = .dict es ep) (hs : Heap.SameBut d h h') : ItsH knd h' x vs := by
  induction hx with
  | nil => exact .nil
  | cons h1 _ ih => exact .cons (knd.keeps h1 ho hd hs) ih
theorem IsTupH.typeIs {s : Shared} {ks : List K} {a : Addr} (x : IsTupH knd s.heap ks a) : s.TypeIs (.ref a) "tuple" := let ⟨o, _, _, ho, hc, _⟩ := x; ⟨o, ho, hc⟩
theorem IsTupH.inj {h : Heap} {a : Addr} {x y : List K} (hx : IsTupH knd h x a) (hy : IsTupH knd h y a) : x = y := by
  obtain ⟨o, items, n, ho, _, hd, hi⟩ := hx
  obtain ⟨o', items', n', ho', _, hd', hi'⟩ := hy
  obtain rfl : o = o' := Option.some.inj (ho.symm.trans ho')
  rw [hd] at hd'
  injection hd' with h1 _
  subst h1
  exact hi.inj hi'
theorem IsTupH.keeps {h h' : Heap} {ks : List K} {a d : Addr} {o : Obj} {es ep} (x : IsTupH knd h ks a) (ho : h.get? d = some o) (hd : o.data = .dict es ep) (hs : Heap.SameBut d h h') : IsTupH knd h' ks a := by
  obtain ⟨o', items, n, ho', hc, hd', hi⟩ := x
  have hne : a ≠ d := by
    rintro rfl
    obtain rfl : o' = o := Option.some.inj (ho'.symm.trans ho)
    rw [hd] at hd'; exact nomatch hd'
  exact ⟨o', items, n, (hs.2 a hne).trans ho', hc, hd', hi.keeps ho hd hs⟩
def tupHashH (knd : HeapKind prog w K) (ks : List K) : Int := reduceHash (Builtin.Tuple.tupleHashOf (ks.map knd.hash))
def drawsH (knd : HeapKind prog w K) (ks : List K) : Nat := (ks.map knd.draws).sum + 1
variable {A : Around} {E : Value → Shared → Prop} {s : Shared}
theorem pyHash_tupH {ks : List K} {a : Addr} {Q : Int → Shared → Prop} (hr : knd.room A.in1) (hu : A.units < cLine) (hk : IsTupH knd s.heap ks a) (h : Q (tupHashH knd ks) { s with toks := s.toks + drawsH knd ks }) :
    wpAny (model prog w) A (pyHash (.ref a)) Q E s := by
  have hT := hk.typeIs
  obtain ⟨o, items, n, ho, _, hd, hi⟩ := hk
  unfold pyHash
  first | unfold pyHashByItsType | skip
  first | refine wpAny_bind (wpAny_cRoomFor_or (.inr hu) ?_) | skip
  refine wpAny_bind (wpAny_specialOf hT F.slot_tuple_hash.lookup ?_)
  show wpAny _ _ (if (some (Value.builtin "tuple.__hash__") == some Value.none) = true then _ else _) Q E s
  rw [if_neg (by rw [beq_builtin_none]; exact Bool.false_ne_true)]
  refine wpAny_bind (wpAny_specialOf hT F.slot_tuple_hash.lookup ?_)
  show wpAny _ _ (callSpecialIfBoundUnlessNone? (.ref a) "__hash__" _ >>= _) Q E s
  refine wpAny_bind (wpAny_callSpecialIfBoundUnlessNone?_slot hT F.slot_tuple_hash (wpAny_call_entry F.slot_tuple_hash hT F.entry_tuple_hash ?_ (F.args_tuple_hash_1 _)))
  show wpAny _ _ (Builtin.Tuple.tupleItemsOf (.ref a) >>= _) _ _ s
  refine wpAny_bind (wpAny_tupleItemsOf ho hd ?_)
  refine wpAny_bind ?_
  rw [← Array.forIn_toList]
  refine wpAny_forIn_list _
    (fun rest (b : Array Int) s' => ∃ done left, ks = done ++ left ∧ ItsH knd s.heap left rest ∧ b.toList = done.map knd.hash ∧ s' = { s with toks := s.toks + (done.map knd.draws).sum })
    _ ?_ ?_ _ _ ⟨[], ks, rfl, hi, rfl, rfl⟩
  · rintro x rest b s' ⟨done, left, rfl, hl, hb, rfl⟩
    cases hl with
    | @cons k _ ks' _ h1 hl' =>
      refine wpAny_bind (knd.pyHash hr h1 ?_)
      first
        | exact wpAny_pure ⟨done ++ [k], ks', by simp, hl', by simp [hb], by simp [Nat.add_assoc]⟩
        | exact wpAny_bind (wpAny_pure (wpAny_pure ⟨done ++ [k], ks', by simp, hl', by simp [hb], by simp [Nat.add_assoc]⟩))
  · rintro b s' ⟨done, left, rfl, hl, hb, rfl⟩
    cases hl
    rw [List.append_nil] at h
    show wpAny _ _ (retInt (Builtin.Tuple.tupleHashOf b.toList)) _ _ _
    rw [hb]
    refine wpAny_ret_mkInt ?_
    show wpAny _ _ (if (decide (-(2 : Int) ^ 63 ≤ Builtin.Tuple.tupleHashOf (done.map knd.hash)) && decide (Builtin.Tuple.tupleHashOf (done.map knd.hash) < 2 ^ 63)) = true then _ else _) Q E _
    unfold tupHashH reduceHash drawsH at h
    by_cases hr : (decide (-(2 : Int) ^ 63 ≤ Builtin.Tuple.tupleHashOf (done.map knd.hash)) && decide (Builtin.Tuple.tupleHashOf (done.map knd.hash) < 2 ^ 63)) = true
    · rw [if_pos hr]
      rw [if_pos hr] at h
      exact wpAny_pure (by simpa [Nat.add_assoc] using h)
    · rw [if_neg hr]
      rw [if_neg hr] at h
      exact wpAny_bind (wpAny_rule (wpAny_pure (by simpa [Nat.add_assoc] using h)))
theorem eq_treeH {x y : List K} {a b : Addr} {P : Fin → Shared → Prop} (hr : knd.room A) (hx : IsTupH knd s.heap x a) (hy : IsTupH knd s.heap y b) (h : P (.done (.ret (.bool (decide (x = y))))) s) :
    wpAny (model prog w) A (Builtin.«tuple.__eq__» ⟨[.ref a, .ref b], []⟩) P E s := by
  have hTb := hy.typeIs
  obtain ⟨oa, xs, na, hoa, _, hda, hia⟩ := hx
  obtain ⟨ob, ys, nb, hob, _, hdb, hib⟩ := hy
  show wpAny _ _ (isInstance (.ref b) (.type "tuple") >>= _) _ _ s
  refine wpAny_bind (wpAny_isInstance hTb isSubtype_tuple_tuple ?_)
  simp only [Bool.not_true, Bool.false_eq_true, if_false]
  refine wpAny_bind (wpAny_tupleItemsOf hoa hda ?_)
  refine wpAny_bind (wpAny_tupleItemsOf hob hdb ?_)
  refine wpAny_bind ?_
  refine wpAny_forIn_list _
    (fun rest r s' => r.1 = none ∧ s' = s ∧ ∃ x' y' xs' ys', rest = List.zip xs' ys' ∧ ItsH knd s.heap x' xs' ∧ ItsH knd s.heap y' ys' ∧ decide (x' = y') = decide (x = y) ∧ (xs'.length == ys'.length) = (xs.size == ys.size))
    _ ?_ ?_ _ _ ⟨rfl, rfl, x, y, xs.toList, ys.toList, rfl, hia, hib, rfl, by simp⟩
  · rintro ⟨u, v⟩ rest r s' ⟨hr', rfl, x', y', xs', ys', hz, hx', hy', hdec, hlen⟩
    cases hx' with
    | nil => simp at hz
    | @cons k1 u' x'' xs'' h1 hx'' =>
      cases hy' with
      | nil => simp at hz
      | @cons k2 v' y'' ys'' h2 hy'' =>
        simp only [List.zip_cons_cons, List.cons.injEq, Prod.mk.injEq] at hz
        obtain ⟨⟨rfl, rfl⟩, rfl⟩ := hz
        refine wpAny_bind (knd.eqBool (x := k1) (y := k2) hr h1 h2 ?_)
        by_cases hk : k1 = k2
        · subst hk
          rw [decide_eq_true rfl]
          simp only [Bool.not_true, Bool.false_eq_true, if_false]
          refine wpAny_pure ⟨rfl, rfl, x'', y'', xs'', ys'', rfl, hx'', hy'', ?_, by simpa using hlen⟩
          rw [← hdec]
          by_cases hxy : x'' = y''
          · simp [hxy]
          · simp [hxy]
        · rw [decide_eq_false hk]
          simp only [Bool.not_false, if_true]
          have hf : decide (x = y) = false := by rw [← hdec]; simp [hk]
          rw [hf] at h
          exact wpAny_bind (wpAny_pure (wpAny_pure (wpAny_pure h)))
  · rintro ⟨r1, r2⟩ s' ⟨hr', rfl, x', y', xs', ys', hz, hx', hy', hdec, hlen⟩
    simp only at hr'
    subst hr'
    refine wpAny_pure ?_
    have hfin : (xs.size == ys.size) = decide (x = y) := by
      rw [← hdec, ← hlen]
      cases hx' with
      | nil =>
        cases hy' with
        | nil => simp
        | cons _ _ => simp
      | cons _ _ =>
        cases hy' with
        | nil => simp
        | cons _ _ => simp at hz
    show P (.done (.ret (.bool (xs.size == ys.size)))) s'
    rw [hfin]; exact h
theorem eqBool_tupH {x y : List K} {a b : Addr} {Q : Bool → Shared → Prop} (hr : knd.room A.in1) (hu : A.units < cLine) (hx : IsTupH knd s.heap x a) (hy : IsTupH knd s.heap y b) (h : Q (decide (x = y)) s) :
    wpAny (model prog w) A (eqBool (.ref a) (.ref b)) Q E s := by
  unfold eqBool
  try with_reducible refine wpAny_holding ?_
  show wpAny _ _ (if (Value.ref a == Value.ref b) = true then _ else _) Q E s
  by_cases hab : (Value.ref a == Value.ref b) = true
  · rw [if_pos hab]
    have e : a = b := by have := eq_of_beq hab; injection this
    subst e
    obtain rfl := hx.inj hy
    exact wpAny_bind (wpAny_rule (wpAny_pure (by simpa using h)))
  · rw [if_neg hab]
    exact wpAny_bind (wpAny_richCompare_same_room (op := .Eq) hx.typeIs hy.typeIs F.slot_tuple_eq
      (wpAny_call_entry F.slot_tuple_eq hx.typeIs F.entry_tuple_eq (eq_treeH hr hx hy ⟨_, rfl, (fun e => nomatch e), wpAny_truthy_bool h⟩) (F.args_tuple_eq_2 _ _)) hu)
end
end L2
namespace L2
open PySem PySem.Spec PyProof.Rows
section
variable {prog : Program} {w : World} {A : Around} {E : Value → Shared → Prop} {s : Shared}
theorem quiet_in {K : Type} [DecidableEq K] {knd : KeyKind prog w K} {ks : List K} {a : Addr} {n : Nat} {Q : Bool → Shared → Prop} (hk : IsTupleKey knd s.heap ks a) (h : Q true s) : wpAny (model prog w) A (eqIsQuiet (n + 1) (.ref a)) Q E s := by
  have hT := hk.typeIs
  obtain ⟨o, items, n, ho, _, hd, hi⟩ := hk
  unfold eqIsQuiet
  refine wpAny_bind (wpAny_specialOf hT F.slot_tuple_eq.lookup ?_)
  show wpAny _ _ (isInstance (.ref a) (.type "tuple") >>= _) _ _ s
  refine wpAny_bind (wpAny_isInstance hT isSubtype_tuple_tuple ?_)
  simp only [Bool.not_true, Bool.false_eq_true, if_false]
  refine wpAny_bind (wpAny_seqItems ho hd ?_)
  refine wpAny_bind ?_
  show wpAny _ _ (forIn items _ _) _ _ s
  rw [← Array.forIn_toList]
  refine wpAny_forIn_list _ (fun rest r s' => r.1 = none ∧ s' = s ∧ ∀ v ∈ rest, carriedByValue v = true) _ ?_ ?_ _ _ ⟨rfl, rfl, hi.byValue⟩
  · rintro v rest r s' ⟨hr, rfl, hall⟩
    rw [eqIsQuiet_byValue _ (hall v List.mem_cons_self)]
    refine wpAny_bind (wpAny_pure ?_)
    simp only [Bool.not_true, Bool.false_eq_true, if_false]
    exact wpAny_pure ⟨rfl, rfl, fun u hu' => hall u (List.mem_cons_of_mem _ hu')⟩
  · rintro ⟨r1, r2⟩ s' ⟨hr, rfl, _⟩
    simp only at hr
    subst hr
    exact wpAny_pure h
theorem quiet_row {K : Type} [DecidableEq K] {knd : KeyKind prog w K} {ks : List (List K)} {a : Addr} {Q : Bool → Shared → Prop} (hk : IsTupH (tupleKind knd) s.heap ks a) (h : Q true s) : wpAny (model prog w) A (eqIsQuiet 8 (.ref a)) Q E s := by
  have hT := hk.typeIs
  obtain ⟨o, items, n, ho, _, hd, hi⟩ := hk
  unfold eqIsQuiet
  refine wpAny_bind (wpAny_specialOf hT F.slot_tuple_eq.lookup ?_)
  show wpAny _ _ (isInstance (.ref a) (.type "tuple") >>= _) _ _ s
  refine wpAny_bind (wpAny_isInstance hT isSubtype_tuple_tuple ?_)
  simp only [Bool.not_true, Bool.false_eq_true, if_false]
  refine wpAny_bind (wpAny_seqItems ho hd ?_)
  refine wpAny_bind ?_
  show wpAny _ _ (forIn items _ _) _ _ s
  rw [← Array.forIn_toList]
  refine wpAny_forIn_list _ (fun rest r s' => r.1 = none ∧ s' = s ∧ ∃ ks', ItsH (tupleKind knd) s.heap ks' rest) _ ?_ ?_ _ _ ⟨rfl, rfl, ks, hi⟩
  · rintro v rest r s' ⟨hr, rfl, ks', hit⟩
    cases hit with
    | @cons k a' ks'' _ h1 h2 =>
      refine wpAny_bind (quiet_in (n := 6) h1 ?_)
      simp only [Bool.not_true, Bool.false_eq_true, if_false]
      exact wpAny_pure ⟨rfl, rfl, ks'', h2⟩
  · rintro ⟨r1, r2⟩ s' ⟨hr, rfl, _⟩
    simp only at hr
    subst hr
    exact wpAny_pure h
end
/-- a row as a key: a tuple of tuples of texts and numbers -/
def rowKind (prog : Program) (w : World) : HeapKind prog w (List (List Key)) where
  is := IsTupH (tupleKind (mixKind prog w))
  hash := tupHashH (tupleKind (mixKind prog w))
  draws := drawsH (tupleKind (mixKind prog w))
  room := fun A => A.units + 1 < cLine
  inj := fun hx hy => hx.inj hy
  keeps := fun x ho hd hs => x.keeps ho hd hs
  pyHash := fun hu hk h => pyHash_tupH (tupleKind_room_in1 hu) (Nat.lt_of_le_of_lt (Nat.le_succ _) hu) hk h
  eqBool := fun hu hx hy h => eqBool_tupH (tupleKind_room_in1 hu) (Nat.lt_of_le_of_lt (Nat.le_succ _) hu) hx hy h
  quiet := fun hk h => quiet_row hk h
end L2
namespace L2
open PySem PySem.Spec PyProof.Rows
theorem ints_of : ∀ {ns : List Int} {us : List Value}, Vals (ns.map V.int) us → ∃ l : List (Int × Tok), us = l.map (fun p => Value.int p.1 p.2) ∧ l.map (·.1) = ns := by
  intro ns
  induction ns with
  | nil => intro us r; rw [List.map_nil] at r; cases r; exact ⟨[], rfl, rfl⟩
  | cons b bs ih =>
    intro us r
    rw [List.map_cons] at r
    cases r with
    | cons r1 r2 =>
      obtain ⟨t, rfl⟩ := r1
      obtain ⟨l, rfl, e⟩ := ih r2
      exact ⟨(b, t) :: l, rfl, by rw [List.map_cons, e]⟩
section
variable {X : Cx}
theorem call_sum (hc : X.calm = true) : CallR X (.builtin "sum") (fun xs H Q => ∃ (p : Addr) (ns : List Int), xs = [.ref p] ∧ SqL X.K H p (ns.map V.int) ∧ Q (.int ns.sum) H) := by
  intro pins s σ H xs us Q I r h
  obtain ⟨p, ns, rfl, hq, q⟩ := h
  cases r with
  | cons r rr =>
    cases rr
    cases r
    obtain ⟨its, rv, pl, hz⟩ := I.list hq
    obtain ⟨l, rfl, e⟩ := ints_of rv
    refine sum_intListG (xs := l.toArray) (I.ok.hd hc) ?_ fun h' tk t' hk => ?_
    · have := pl.isList
      simpa [intItems] using this
    · have e2 : preSum (numAt l.toArray) l.toArray.size = ns.sum := by
        rw [preSum_eq, List.take_of_length_le (by simp), ← e]
      rw [e2]
      exact ⟨.int ns.sum, H, I.kept hk, ⟨_, rfl⟩, q⟩
end
section
variable {X : Bc} {W : Wl} {k : KB}
theorem cb_sum {x : El} {ns : List Int} (hc : X.calm = true) (hx : lstD W x (ns.map .int)) (h : k (.d (.int ns.sum)) W) : CB X (.builtin "sum") [x] W k := .of (call_sum hc) fun F A H Q vs r zs q => by
  obtain ⟨v, rfl, z⟩ := pd_one zs
  obtain ⟨a, vs, rfl, hs, z⟩ := r.lst z hx
  obtain rfl := pd_ints z
  exact ⟨a, ns, rfl, .inl hs, q.same r (.dd (Rq.int _)) h⟩
end
end L2
namespace L2
open PySem PySem.Spec PyProof.Rows
end L2
namespace L2
open PySem PySem.Spec PyProof.Rows
end L2
namespace L2
open PySem PySem.Spec PyProof.Rows
end L2
namespace L2
open PySem PySem.Spec PyProof.Rows
end L2
namespace L2
open PySem PySem.Spec PyProof.Rows
section
variable {P : Program} {w : World} {A : Around} {E : Value → Shared → Prop} {s : Shared} {it a tp : Addr} {es : Array (Int × Value)} {ep n i : Nat} {t : SetTable}
theorem stop_raise {α : Type} {R : α → Shared → Prop} {E' : Value → Shared → Prop} (hh : A.handled = none) (h : ∀ h' e, (∀ b o, s.heap.get? b = some o → h'.get? b = some o) → Shared.TypeIs { s with heap := h' } e "StopIteration" → E' e { s with heap := h' }) :
    wpAny (model P w) A (newExc (.type "StopIteration") [] >>= fun e => (raiseNew e : Sem α)) R E' s := by
  refine wpAny_bind ?_
  simp only [newExc, newTuple]
  refine wpAny_bind (wpAny_newObj_type ?_ (by size_fits))
  refine wpAny_bind (m := firstArgMember _ _) (wpAny_of_eq (a := Value.none) (by first | rfl | (simp only [firstArgMember]; rfl)) ?_)
  refine wpAny_newObj_type ?_ (by size_fits)
  refine wpAny_raiseNew_none hh (h _ _ (fun b o q => Heap.get?_push_of_some _ (Heap.get?_push_of_some _ q)) ⟨_, Heap.get?_push_size _ rfl, rfl⟩)
end
end L2
namespace L2
open PySem PySem.Spec PyProof.Rows
end L2
namespace L2
open PySem PySem.Spec PyProof.Rows
end L2
namespace L2
open PySem PySem.Spec PyProof.Rows
end L2
namespace L2
open PySem PySem.Spec PyProof.Rows
end L2
namespace L2
open PySem PySem.Spec PyProof.Rows
end L2
namespace L2
open PySem PySem.Spec PyProof.Rows
/-- the entries of a dict -/
def rawD (h : Heap) (d : Addr) (es : Array DictEntry) (ep : Nat) : Prop := ∃ o, h.get? d = some o ∧ o.ExactDict ∧ o.data = .dict es ep
section
variable {P : Program} {w : World} {A : Around} {E : Value → Shared → Prop} {s : Shared} {it d : Addr} {i ep : Nat} {es : Array DictEntry}
theorem rawD.move {h h' : Heap} (x : rawD h d es ep) (k : ∀ o, h.get? d = some o → h'.get? d = some o) : rawD h' d es ep := by
  obtain ⟨o, c, r⟩ := x
  exact ⟨o, k o c, r⟩
theorem raw_next {Q : Option Value → Shared → Prop} {en : DictEntry} (hit : s.heap.IsKeyIter it d i es.size ep) (hm : rawD s.heap d es ep) (hx : es[i]? = some en)
    (hQ : ∀ h', h'.IsKeyIter it d (i + 1) es.size ep → Heap.SameBut it s.heap h' → Q (some en.key) { s with heap := h' }) : wpAny (model P w) A (pyNext (.ref it)) Q E s := by
  obtain ⟨o, c1, c2, c3⟩ := id hit
  obtain ⟨b, b1, b2, b3⟩ := hm
  have ty := hit.typeIs
  have lt : i < es.size := by
    rcases Nat.lt_or_ge i es.size with z | z
    · exact z
    · rw [Array.getElem?_eq_none z] at hx; cases hx
  unfold pyNext
  refine wpAny_bind (wpAny_attempt (wpAny_callSpecial?_slot (name := Str.ofString "__next__") ty F.slot_dict_keyiterator_next (wpAny_call_entry F.slot_dict_keyiterator_next ty F.entry_dict_keyiterator_next ?_ (F.args_dict_keyiterator_next_1 _))))
  refine wpAny_bind (wpAny_pure (wpAny_bind (wpAny_bind ?_)))
  first | refine wpAny_bind (wpAny_typeNameOfWhole_keyiter ty (wpAny_pure ?_)) | refine wpAny_bind (wpAny_typeNameOf_keyiter ty (wpAny_pure ?_))
  refine wpAny_bind (wpAny_fieldsOf c1 c3 ?_)
  have own : Builtin.Dict_items.ownsTuple "dict_keyiterator" = false := by decide
  simp only [own, Bool.false_eq_true, if_false]
  show wpAny _ _ (if (Value.ref d == Value.none) = true then _ else _) _ _ s
  rw [if_neg (show ¬ ((Value.ref d == Value.none) = true) from Bool.false_ne_true)]
  refine wpAny_bind (wpAny_pure (wpAny_bind (wpAny_dictEntries b1 b3 ?_)))
  rw [if_neg (by simp)]
  refine wpAny_bind (wpAny_pure (wpAny_bind (wpAny_dictEpoch b1 b3 ?_)))
  rw [if_neg (by simp)]
  refine wpAny_pure ?_
  simp only [show ¬ ((i : Int) < 0) from by omega, if_false, Int.toNat_natCast, hx]
  refine wpAny_bind ?_
  first | refine wpAny_bind (wpAny_typeNameOfWhole_keyiter ty (wpAny_pure ?_)) | refine wpAny_bind (wpAny_typeNameOf_keyiter ty (wpAny_pure ?_))
  refine wpAny_bind (wpAny_isOneOf_keyiter ty ?_)
  show wpAny _ _ (setField (.ref it) 1 (rawInt ((i : Int) + 1)) >>= _) _ _ s
  refine wpAny_bind (wpAny_setField c1 c3 (by simp) ?_)
  have hit' : (s.heap.update it (Obj.mapFields (·.setIfInBounds 1 (rawInt ((i : Int) + 1))))).IsKeyIter it d (i + 1) es.size ep :=
    ⟨_, Heap.get?_update_self _ c1 (Obj.isFreed_of_fields (Obj.data_mapFields c3 _)), (Obj.cls_mapFields ..).trans c2, by rw [Obj.data_mapFields c3]; simp [rawInt]⟩
  refine wpAny_bind (wpAny_holding (wpAny_bind (wpAny_isOneOf_keyiter (s := { s with heap := s.heap.update it (Obj.mapFields (·.setIfInBounds 1 (rawInt ((i : Int) + 1)))) }) hit'.typeIs ?_)))
  show wpAny _ _ (pure en.key) _ _ _
  exact wpAny_pure (wpAny_pure ⟨_, rfl, wpAny_pure (hQ _ hit' (Heap.SameBut.update ..))⟩)
theorem raw_end {Q : Option Value → Shared → Prop} (hh : A.handled = none) (hit : s.heap.IsKeyIter it d i es.size ep) (hm : rawD s.heap d es ep) (hx : es.size ≤ i)
    (hQ : ∀ h', Heap.ExtBut it s.heap h' → Q none { s with heap := h' }) : wpAny (model P w) A (pyNext (.ref it)) Q E s := by
  obtain ⟨o, c1, c2, c3⟩ := id hit
  obtain ⟨b, b1, b2, b3⟩ := hm
  have ty := hit.typeIs
  unfold pyNext
  refine wpAny_bind (wpAny_attempt (wpAny_callSpecial?_slot (name := Str.ofString "__next__") ty F.slot_dict_keyiterator_next (wpAny_call_entry F.slot_dict_keyiterator_next ty F.entry_dict_keyiterator_next ?_ (F.args_dict_keyiterator_next_1 _))))
  refine wpAny_bind (wpAny_pure (wpAny_bind (wpAny_bind ?_)))
  first | refine wpAny_bind (wpAny_typeNameOfWhole_keyiter ty (wpAny_pure ?_)) | refine wpAny_bind (wpAny_typeNameOf_keyiter ty (wpAny_pure ?_))
  refine wpAny_bind (wpAny_fieldsOf c1 c3 ?_)
  have own : Builtin.Dict_items.ownsTuple "dict_keyiterator" = false := by decide
  simp only [own, Bool.false_eq_true, if_false]
  show wpAny _ _ (if (Value.ref d == Value.none) = true then _ else _) _ _ s
  rw [if_neg (show ¬ ((Value.ref d == Value.none) = true) from Bool.false_ne_true)]
  refine wpAny_bind (wpAny_pure (wpAny_bind (wpAny_dictEntries b1 b3 ?_)))
  rw [if_neg (by simp)]
  refine wpAny_bind (wpAny_pure (wpAny_bind (wpAny_dictEpoch b1 b3 ?_)))
  rw [if_neg (by simp)]
  refine wpAny_pure ?_
  simp only [show ¬ ((i : Int) < 0) from by omega, if_false, Int.toNat_natCast, Array.getElem?_eq_none hx]
  refine wpAny_bind ?_
  first | refine wpAny_bind (wpAny_typeNameOfWhole_keyiter ty (wpAny_pure ?_)) | refine wpAny_bind (wpAny_typeNameOf_keyiter ty (wpAny_pure ?_))
  show wpAny _ _ (setField (.ref it) 0 .none >>= _) _ _ s
  refine wpAny_bind (wpAny_setField c1 c3 (by simp) ?_)
  refine stop_raise (by simpa using hh) fun h' e k te => ?_
  refine wpAny_bind (wpAny_isInstance te isSubtype_stop ?_)
  exact wpAny_pure (hQ _ fun b' o' hb q => k _ _ ((Heap.get?_update_other _ _ (Ne.symm hb)).trans q))
theorem raw_iter {Q : Value → Shared → Prop} (hd : (d == sysModules) = false) (hm : rawD s.heap d es ep)
    (hQ : Q (.ref s.heap.objs.size) { s with heap := s.heap.push { cls := .type "dict_keyiterator", data := .fields #[.ref d, .int 0 0, .int es.size 0, .int ep 0] } }) : wpAny (model P w) A (pyIter (.ref d)) Q E s := by
  obtain ⟨b, b1, b2, b3⟩ := hm
  have ty : s.TypeIs (.ref d) "dict" := ⟨b, b1, b2.1⟩
  refine wpAny_pyIter_slot ty F.slot_dict_iter (wpAny_call_entry F.slot_dict_iter ty F.entry_dict_iter ?_ (F.args_dict_iter_1 _))
  unfold Builtin.«dict.__iter__»
  refine wpAny_bind ?_
  unfold Builtin.Dict.dictSlotNone
  refine wpAny_bind (wpAny_notOrdered_dict ty (wpAny_pure ?_))
  show wpAny _ _ (Builtin.Dict.showsAll d >>= _) _ _ s
  unfold Builtin.Dict.showsAll
  rw [if_neg (by rw [hd]; exact Bool.false_ne_true)]
  refine wpAny_bind (wpAny_pure (wpAny_bind (wpAny_dictEntries b1 b3 (wpAny_bind (wpAny_dictEpoch b1 b3 ?_)))))
  refine wpAny_bind (wpAny_newObj_type (wpAny_pure ⟨_, rfl, "dict_keyiterator", _, ⟨_, Heap.get?_push_size _ rfl, rfl⟩, F.slot_dict_keyiterator_next.lookup, ?_⟩))
  simpa [rawInt] using hQ
end
end L2
namespace L2
open PySem PySem.Spec PyProof.Rows
open PySem.W
end L2
namespace L2
open PySem PySem.Spec PyProof.Rows
end L2
namespace L2
open PySem PySem.Spec PyProof.Rows
end L2
namespace L2
open PySem PySem.Spec PyProof.Rows
end L2
namespace L2
open PySem PySem.Spec PyProof.Rows
end L2
namespace L2
open PySem PySem.Spec PyProof.Rows
end L2
namespace L2
open PySem PySem.Spec PyProof.Rows
def ofT : Sum PyData Nat → El
  | .inl d => .d d
  | .inr k => .o k
theorem pd_ofT {K : PySem.W.Frag} {F : Hp} {A : List Addr} : ∀ {xs : List (Sum PyData Nat)} {vs : List V}, Paired (TiR K F A) xs vs → Paired (ElR K F A) (xs.map ofT) vs
  | [], _, .nil => .nil
  | .inl d :: xs, _, .cons h t => .cons (.dd h) (pd_ofT t)
  | .inr k :: xs, _, .cons h t => .cons h (pd_ofT t)
theorem pd_toT {K : PySem.W.Frag} {F : Hp} {A : List Addr} : ∀ {xs : List (Sum PyData Nat)} {vs : List V}, Paired (ElR K F A) (xs.map ofT) vs → Paired (TiR K F A) xs vs
  | [], _, .nil => .nil
  | .inl d :: xs, _, .cons h t => .cons h (pd_toT t)
  | .inr k :: xs, _, .cons h t => .cons h (pd_toT t)
section
variable {X : Bc} {S : Sl} {W : Wl} {k : KB}
/-- a tuple of data and of things that are changed -/
theorem be_tupT {es : List Expr} {x1} {pos : Pos} (h : BA X S W es fun as W1 => ∃ xs, as = xs.map ofT ∧ xs.length ≤ sizeLine ∧ k (.t xs) W1) : BE X S W (.Tuple es x1 pos) k :=
  .of (pe_tup pa_U) fun F A σ H Q x0 r sr q => h.use x0 r sr fun F1 A1 W1 H1 as vs e1 r1 z1 ⟨xs, hd, hl, h1⟩ => by
    subst hd
    have z2 := pd_toT z1
    refine ⟨by rw [← pd_len z2]; exact hl, fun p hp => ?_⟩
    obtain ⟨r', x⟩ := r1.newF hp (.tup vs)
    exact (q.ext e1) _ _ _ _ (.t xs) _ x r' ⟨p, vs, rfl, upd_same, pd_imp (fun _ _ z => z.ext x) z2⟩ h1
theorem bg_tupT {es : List Expr} {is : List Nat} {c : Nat} {pos : Pos} {xs : List (Sum PyData Nat)} {k : Sl → Wl → Prop} (hc : X.calm = true) (hm : Nms X es is) (hl : is.length = xs.length) (h : k (setAll S is (xs.map ofT)) W)
    (hn : (assignEach es X.env).length = is.length := by rfl) (hst : (assignEach es X.env).findIdx? (·.1) = none := by rfl) : BG X S W (.Tuple es c pos) (.t xs) k :=
  fun F A σ H v Q x0 r sr z q => by
    obtain ⟨a, vs, rfl, hs, p⟩ := z
    exact ⟨_, pg_tup hc hm.pgs hn hst, a, vs, rfl, SqT.of (r.sub _ _ hs), by rw [← pd_len p, hl], gNms_set (by rw [hl, pd_len p]) (q F A W H _ _ .refl r (sr.setAll (pd_ofT p)) h)⟩
end
end L2
namespace L2
open PySem PySem.Spec PyProof.Rows
end L2
namespace L2
open PySem PySem.Spec PyProof.Rows
section
variable {X : Bc} {n : Nat} {S : Sl} {W : Wl} {D : DB} {tg : Expr}
/-- for, over an owned list of anything -/
theorem bs_forO {iter : Expr} {body : List Stmt} {pos : Pos} (hp : PassesOwn (model X.prog X.w) X.A X.env X.xe) (hc : X.calm = true)
    (h : BE X S W iter fun y W1 => ∃ (j : Nat) (es : List El) (mb : Nat) (P : Nat → Sl → Wl → Prop), y = .o j ∧ n ≤ mb ∧ j + 1 ≤ mb ∧ mb ≤ W1.length ∧ P 0 S W1 ∧ (∀ i S' W', i ≤ es.length → P i S' W' → W'[j]? = some (.lst es)) ∧
      (∀ i e S' W', es[i]? = some e → P i S' W' → BG X S' W' tg e fun S2 W2 => BSs X mb S2 W2 body { D with nx := P (i + 1), ct := P (i + 1), bk := D.nx }) ∧ ∀ S' W', P es.length S' W' → D.nx S' W')
    (hs : ∀ x, foldedSetIterable iter X.env x = pure x := by intro _; rfl) : BS X n S W (.For tg iter body [] pos) D :=
  .of (ps_for hp hc (pi_list pe_U) pg_U pss_U hs) fun F A σ H E hn x0 r sr q => h.use x0.am r sr fun F1 A1 W1 H1 y vy e1 r1 z1 ⟨j, es, mb, P, hy, hnm, hjm, hmb, p0, hG, hs, hd⟩ => by
    subst hy
    obtain ⟨a, ha, rfl⟩ := z1
    have hmA : mb ≤ A1.length := by rw [r1.len]; exact hmb
    have ha' : ∀ {F' A'}, Ex1 mb F1 A1 F' A' → A'[j]? = some a := fun {F' A'} x => by
      have e := take_pre x.pre (by omega)
      have := congrArg (fun l => l[j]?) e
      simp only [List.getElem?_take_of_lt (show j < mb by omega)] at this
      rw [this]; exact ha
    have key : ∀ {F' A' W' H'}, Ex1 mb F1 A1 F' A' → RW X.K F' A' W' H' → W'[j]? = some (.lst es) → ∃ vs, H' a = some (.lst vs) ∧ Paired (ElR X.K F' A') es vs := fun x r' hG => by
      obtain ⟨u, e, vs, rfl, p⟩ := r'.obj j a _ (ha' x) hG
      exact ⟨vs, e, p⟩
    obtain ⟨v0, e0, p0'⟩ := key (.refl hmA) r1 (hG 0 S W1 (Nat.zero_le _) p0)
    refine ⟨a, rfl, ⟨v0, SqL.of e0⟩, fun i μ σ' H' => μ = es.length - i ∧ i ≤ es.length ∧ ∃ F' A' S' W', Ex1 mb F1 A1 F' A' ∧ RW X.K F' A' W' H' ∧ SR X.K F' A' S' σ' ∧ P i S' W', ⟨es.length, by simp, Nat.zero_le _, F1, A1, S, W1, .refl hmA, r1, sr.ext e1, p0⟩, ?_⟩
    rintro i μ σ' H' ⟨rfl, hi, F', A', S', W', x, r', sr', p⟩
    obtain ⟨vs, eH, pv⟩ := key x r' (hG i S' W' hi p)
    have hvl : es.length = vs.length := pd_len pv
    by_cases hlt : i < es.length
    · refine .inr ⟨⟨vs, vs[i], SqL.of eH, by simp⟩, fun σ2 H2 => ∃ F2 A2 S2 W2, Ex1 mb F1 A1 F2 A2 ∧ RW X.K F2 A2 W2 H2 ∧ SR X.K F2 A2 S2 σ2 ∧ P (i + 1) S2 W2, fun σ2 H2 p2 => ⟨es.length - (i + 1), by omega, rfl, hlt, p2⟩, fun v H'' hy => ?_⟩
      obtain ⟨rfl, hy⟩ := hy
      obtain ⟨e, he, ze⟩ := pd_getR pv (hy vs (SqL.of eH))
      refine hs i e S' W' he p F' A' σ' H'' v _ ((x0.ext e1).up hnm |>.ex1 hmA x).am r' sr' ze fun F2 A2 W2 H2 S2 σ2 x2 r2 sr2 h2 => ?_
      have x12 : Ex1 mb F1 A1 F2 A2 := x.trans hmA (x2.ex1 x.len)
      have q2 := q.ext hn ((e1.ex1 hn).trans hn (x12.le hnm))
      exact h2.use x12.len (((x0.ext e1).up hnm).ex1 hmA x12) r2 sr2 ⟨fun F3 A3 W3 H3 S3 σ3 x3 r3 sr3 h3 => ⟨F3, A3, S3, W3, x12.trans hmA x3, r3, sr3, h3⟩, fun F3 A3 W3 H3 S3 σ3 x3 => q2.nx F3 A3 W3 H3 S3 σ3 (x3.le hnm), fun F3 A3 W3 H3 S3 σ3 x3 r3 sr3 h3 => ⟨F3, A3, S3, W3, x12.trans hmA x3, r3, sr3, h3⟩, fun F3 A3 W3 H3 e v x3 => q2.rt F3 A3 W3 H3 e v (x3.le hnm)⟩
    · have hie : i = es.length := by omega
      subst hie
      exact .inl ⟨⟨vs, SqL.of eH, by omega⟩, (q.ext hn (e1.ex1 hn)).nx F' A' W' H' S' σ' (x.le hnm) r' sr' (hd S' W' p)⟩
end
end L2
namespace L2
open PySem PySem.Spec PyProof.Rows
end L2
namespace L2
open PySem PySem.Spec PyProof.Rows
open PySem.W
end L2
namespace L2
open PySem PySem.Spec PyProof.Rows
open PySem.W
end L2
namespace L2
open PySem PySem.Spec PyProof.Rows
open PySem.W
end L2
namespace L2
open PySem PySem.Spec PyProof.Rows
open PySem.W
section
variable {P : Program} {w : World} {A : Around} {E : Value → Shared → Prop} {s : Shared} {d : Addr} {ep : Nat} {es : Array DictEntry}
abbrev accObj (acc : Array Value) (c : Nat) : Obj := { cls := .type "list", dict := none, data := .seq acc c, slots := #[] }
end
end L2
namespace L2
open PySem PySem.Spec PyProof.Rows
open PySem.W
end L2
namespace L2
open PySem PySem.Spec PyProof.Rows
open PySem.W
instance : Inhabited PyData := ⟨.none⟩
end L2
namespace L2
open PySem PySem.Spec PyProof.Rows
end L2
namespace L2
open PySem PySem.Spec PyProof.Rows
end L2
namespace L2
open PySem PySem.Spec PyProof.Rows
end L2
namespace L2
open PySem PySem.Spec PyProof.Rows
open PySem.W
end L2
namespace L2
open PySem PySem.Spec PyProof.Rows
open PySem.W
section
variable {P : Program} {w : World} {A : Around} {E : Value → Shared → Prop} {s : Shared} {d : Addr} {ep : Nat} {es : Array DictEntry}
theorem key_loop {S I : Addr} {R : Result → Shared → Prop} (hh : A.handled = none) (hSI : S ≠ I) (hSd : d ≠ S) (hId : d ≠ I) (hn : es.size ≤ sizeLine) (res : Value) {h1 : Heap}
    (hR : ∀ h' tk c, (∀ b o, b ≠ S → b ≠ I → h1.get? b = some o → h'.get? b = some o) → h'.get? S = some (accObj (es.toList.map (·.key)).toArray c) → R (.ok (.ret res)) { s with heap := h', toks := tk }) :
    ∀ (k i : Nat) (h : Heap) (tk c : Nat), i + k = es.size → h.IsKeyIter I d i es.size ep → rawD h d es ep → (∀ b o, b ≠ S → b ≠ I → h1.get? b = some o → h.get? b = some o) →
      h.get? S = some (accObj ((es.toList.take i).map (·.key)).toArray c) → codeAny (model P w) A (.builtin "list.extend.loop" ⟨[.ref S, .ref I, res], []⟩) R { s with heap := h, toks := tk } := by
  intro k
  induction k with
  | zero =>
    intro i h tk c hk hst hD hkeep hS
    refine codeAny_builtin PySem.F.entry_extend_loop ?_
    rw [Around.under_plainId PySem.F.plain_extend_loop _]
    show wpAny _ A.in1 (pyNext (.ref I) >>= _) _ _ _
    refine wpAny_bind (raw_end (s := { s with heap := h, toks := tk }) (A := A.in1) hh hst hD (by omega) fun h' he => ?_)
    rw [List.take_of_length_le (by rw [Array.length_toList]; omega)] at hS
    exact wpAny_pure (hR h' tk c (fun b o z1 z2 e => he b o z2 (hkeep b o z1 z2 e)) (he S _ hSI hS))
  | succ k ih =>
    intro i h tk c hk hst hD hkeep hS
    have hlt : i < es.size := by omega
    obtain ⟨en, hx⟩ : ∃ p, es[i]? = some p := ⟨es[i], Array.getElem?_eq_getElem hlt⟩
    refine codeAny_builtin PySem.F.entry_extend_loop ?_
    rw [Around.under_plainId PySem.F.plain_extend_loop _]
    show wpAny _ A.in1 (pyNext (.ref I) >>= _) _ _ _
    refine wpAny_bind (raw_next (s := { s with heap := h, toks := tk }) hst hD hx fun h' hst' hs' => ?_)
    have hkp : ∀ b o, b ≠ I → h.get? b = some o → h'.get? b = some o := fun b o hb e => hs'.extBut b o hb e
    have hS' := hkp S _ hSI hS
    have up : ∀ b o, b ≠ S → h'.get? b = some o → (h'.update S (Obj.mapSeq (·.push en.key))).get? b = some o := fun b o hb e => (Heap.get?_update_other _ _ (Ne.symm hb)).trans e
    show wpAny _ A.in1 (updateSeq S (·.push en.key) >>= _) _ _ _
    refine wpAny_bind ?_
    have hsz : (((es.toList.take i).map (·.key)).toArray).size = i := by simp; omega
    obtain ⟨c', eS⟩ : ∃ c', (h'.update S (Obj.mapSeq (·.push en.key))).get? S = some (accObj ((es.toList.take (i + 1)).map (·.key)).toArray c') := ⟨_, by
      have := get?_update_seq (n := c) (c := "list") (xs := ((es.toList.take i).map (·.key)).toArray) hS' (fun x => x.push en.key)
      rw [show ((es.toList.take (i + 1)).map (·.key)).toArray = (((es.toList.take i).map (·.key)).toArray).push en.key by
        rw [List.take_add_one, Array.getElem?_toList, hx]
        simp]
      exact this⟩
    refine wpAny_updateSeq hS' rfl (wpAny_pure ⟨plainId_quiet PySem.F.plain_extend_loop _, ih (i + 1) _ tk c' (by omega) ?_ (hD.move fun o e => up d o hSd (hkp d o hId e)) (fun b o z1 z2 e => up b o z1 (hkp b o z2 (hkeep b o z1 z2 e))) eS⟩) (by rw [hsz]; omega) (by rw [Array.size_push, hsz]; omega)
    obtain ⟨oi, e1, e2⟩ := hst'
    exact ⟨oi, up I oi (Ne.symm hSI) e1, e2⟩
end
end L2
namespace L2
open PySem PySem.Spec PyProof.Rows PySem.SeqAt PySem.MeetsSeq
end L2
namespace L2
open PySem PySem.Spec PyProof.Rows
end L2
namespace L2
open PySem PySem.Spec PyProof.Rows
end L2
namespace L2
open PySem PySem.Spec PyProof.Rows
end L2
namespace L2
open PySem PySem.Spec PyProof.Rows
end L2
namespace L2
open PySem PySem.Spec PyProof.Rows
end L2
namespace L2
open PySem PySem.Spec PyProof.Rows
end L2
namespace L2
open PySem PySem.Spec PyProof.Rows
end L2
namespace L2
open PySem PySem.Spec PyProof.Rows
open PySem.W
end L2
namespace L2
open PySem PySem.Spec PyProof.Rows
open PySem.W
end L2
namespace L2
open PySem PySem.Spec PyProof.Rows
open PySem.W
end L2
namespace L2
open PySem PySem.Spec PyProof.Rows
open PySem.W
end L2
namespace L2
open PySem PySem.Spec PyProof.Rows
open PySem.W
end L2
namespace L2
open PySem PySem.Spec PyProof.Rows
open PySem.W
end L2
namespace L2
open PySem PySem.Spec PyProof.Rows
end L2
namespace L2
open PySem PySem.Spec PyProof.Rows
open PySem.W
end L2
namespace L2
open PySem PySem.Spec PyProof.Rows
end L2
namespace L2
open PySem PySem.Spec PyProof.Rows
end L2
namespace L2
open PySem PySem.Spec PyProof.Rows
end L2
namespace L2
open PySem PySem.Spec PyProof.Rows
open PySem.W
section
variable {P : Program} {w : World} {A : Around} {E : Value → Shared → Prop} {s : Shared} {d : Addr} {ep : Nat} {es : Array DictEntry}
theorem raw_len {Q : Value → Shared → Prop} (hsm : (d == sysModules) = false) (hm : rawD s.heap d es ep) (hfit : (es.size : Int) < 2 ^ 63)
    (h : Q (.int es.size (s.toks + 1)) { s with toks := s.toks + 1 + 1 }) : wpAny (model P w) A (call (.builtin "len") [.ref d]) Q E s := by
  obtain ⟨o, ho, hx, hdat⟩ := id hm
  have ty : s.TypeIs (.ref d) "dict" := ⟨o, ho, hx.1⟩
  refine Calls.call_function_entry kind_len plain_len entry_len (args_len1 _) ?_
  unfold Builtin.«len»
  refine wpAny_bind (m := oneArg "len" _) (wpAny_pure ?_)
  refine wpAny_bind (m := callSpecial? (.ref d) (Str.ofString "__len__")) (wpAny_callSpecial?_slot (name := Str.ofString "__len__") ty F.slot_dict_len (wpAny_call_entry F.slot_dict_len ty F.entry_dict_len ?_ (F.args_dict_len_1 _)))
  show wpAny _ _ (dictSize d >>= _) _ _ s
  unfold dictSize
  refine wpAny_bind (wpAny_bind (wpAny_dictEntries ho hdat (wpAny_pure ?_)))
  show wpAny _ _ (Builtin.Dict.pendingCount d >>= _) _ _ s
  refine wpAny_bind (wpAny_pendingCount_other hsm ?_)
  refine wpAny_ret_mkInt ?_
  rw [show ((es.size : Int) + ((0 : Nat) : Int)) = (es.size : Int) by simp]
  refine wpAny_bind (wpAny_holding (wpAny_pure ?_))
  refine wpAny_bind (wpAny_letGo ?_)
  show wpAny _ _ (if ((es.size : Nat) : Int) < 0 then _ else _) _ _ _
  rw [if_neg (by omega)]
  show wpAny _ _ (if ((es.size : Nat) : Int) ≥ 2 ^ 63 then _ else _) _ _ _
  rw [if_neg (by omega)]
  exact wpAny_bind (wpAny_mkInt (wpAny_pure ⟨_, rfl, h⟩))
theorem raw_extend {R : Result → Shared → Prop} (hh : A.handled = none) (hsm : (d == sysModules) = false) (S : Addr) (res : Value) (c0 : Nat) (hm : rawD s.heap d es ep) (hn : es.size ≤ sizeLine) (hdS : d ≠ S) (hS : s.heap.get? S = some (accObj #[] c0))
    (hR : ∀ h' tk c, (∀ b o, b ≠ S → s.heap.get? b = some o → h'.get? b = some o) → h'.get? S = some (accObj (es.toList.map (·.key)).toArray c) → R (.ok (.ret res)) { s with heap := h', toks := tk }) :
    wpAny (model P w) A.in1 (Builtin.List.listExtendWith (.ref S) (.ref d) res)
      (fun fin s' => match fin with | .done f => R (.ok f) s' | .again c' => c'.quiet = true ∧ codeAny (model P w) A c' R s') (fun e s' => R (.error e) s') s := by
  obtain ⟨od, d1, d2, d3⟩ := id hm
  have ty : s.TypeIs (.ref d) "dict" := ⟨od, d1, d2.1⟩
  have hd : d < s.heap.objs.size := Heap.lt_size d1
  have hSs : S < s.heap.objs.size := Heap.lt_size hS
  have key : ∀ (h : Heap) (c1 tk : Nat), (∀ b o, b ≠ S → (s.heap.push { cls := .type "dict_keyiterator", data := .fields #[.ref d, .int 0 0, .int es.size 0, .int ep 0] }).get? b = some o → h.get? b = some o) →
      h.get? S = some (accObj #[] c1) → codeAny (model P w) A (.builtin "list.extend.loop" ⟨[.ref S, .ref s.heap.objs.size, res], []⟩) R { s with heap := h, toks := tk } := by
    intro h c1 tk hk hS1
    have hI := hk s.heap.objs.size _ (Nat.ne_of_gt hSs) (Heap.get?_push_size _ rfl)
    exact key_loop (s := s) (h1 := s.heap) hh (Nat.ne_of_lt hSs) hdS (Nat.ne_of_lt hd) hn _ (fun h' tk' c hk' hS' => hR h' tk' c (fun b o hb e => hk' b o hb (Nat.ne_of_lt (Heap.lt_size e)) e) hS')
      es.size 0 h tk c1 (by omega) ⟨_, hI, rfl, rfl⟩ (hm.move fun o e => hk d o hdS (Heap.get?_push_of_some _ e)) (fun b o hb _ e => hk b o hb (Heap.get?_push_of_some _ e)) (by simpa using hS1)
  unfold Builtin.List.listExtendWith
  refine wpAny_bind (wpAny_typeOf (T := "dict") ty ?_)
  have g1 : Builtin.List.listSameRef (.ref S) (.ref d) = false := by simp [Builtin.List.listSameRef, Ne.symm hdS]
  have g2 : (Value.type "dict" == Value.type "list") = false := by decide
  have g3 : (Value.type "dict" == Value.type "tuple") = false := by decide
  simp only [g1, g2, g3, Bool.or_false, Bool.false_eq_true, if_false]
  refine wpAny_bind (raw_iter hsm hm ?_)
  have hS2 := Heap.get?_push_of_some { cls := .type "dict_keyiterator", data := .fields #[.ref d, .int 0 0, .int es.size 0, .int ep 0] } hS
  refine wpAny_bind (wpAny_holding (kdl_hint_dict (let ⟨o, ho, hc⟩ := ty; ⟨o, Heap.get?_push_of_some _ ho, hc⟩) ?_))
  refine wpAny_ite_split (fun _ => ?_) (fun _ => wpAny_pure ⟨plainId_quiet PySem.F.plain_extend_loop _, key _ c0 s.toks (fun b o _ e => e) hS2⟩)
  refine wpAny_bind (wpAny_rule (wpAny_bind ?_))
  show wpAny _ _ (updateSeq S (·.push .none) >>= fun _ => updateSeq S (·.pop)) _ _ _
  refine wpAny_bind (wpAny_updateSeq hS2 rfl ?_)
  have hS3 := Heap.get?_update_self (Obj.mapSeq (·.push Value.none)) hS2 rfl
  refine wpAny_updateSeq (hz := by seq_fits) hS3 rfl ?_
  have hS4 := Heap.get?_update_self (Obj.mapSeq (·.pop)) hS3 rfl
  exact wpAny_pure ⟨plainId_quiet PySem.F.plain_extend_loop _, key _ _ s.toks (fun b o hb e => (Heap.get?_update_other _ _ (Ne.symm hb)).trans ((Heap.get?_update_other _ _ (Ne.symm hb)).trans e)) hS4⟩
theorem raw_list {Q : Value → Shared → Prop} (hh : A.handled = none) (hsm : (d == sysModules) = false) (hm : rawD s.heap d es ep) (hn : es.size ≤ sizeLine)
    (hQ : ∀ (h' : Heap) (tk c : Nat), (∀ b o, s.heap.get? b = some o → h'.get? b = some o) → h'.get? s.heap.objs.size = some (accObj (es.toList.map (·.key)).toArray c) → Q (.ref s.heap.objs.size) { s with heap := h', toks := tk }) :
    wpAny (model P w) A (call (.type "list") [.ref d]) Q E s := by
  obtain ⟨od, d1, d2, d3⟩ := id hm
  have hd : d < s.heap.objs.size := Heap.lt_size d1
  refine callType_codes (Q₁ := fun obj s₁ => obj = .ref s.heap.objs.size ∧ s₁ = { s with heap := s.heap.push { cls := .type "list", data := .seq #[] } }) F.called_list (F.typeCall_list_1 _) F.entry_list_init
    (code_list_new _ ⟨rfl, rfl⟩) fun obj s₁ h₁ => ?_
  obtain ⟨rfl, rfl⟩ := h₁
  have hS : (s.heap.push { cls := .type "list", data := .seq #[] }).get? s.heap.objs.size = some { cls := .type "list", data := .seq #[] } := Heap.get?_push_size _ rfl
  refine ⟨⟨_, hS, rfl⟩, F.args_list_init_2 _ _, ?_⟩
  show wpAny _ _ (do let old ← Builtin.List.listItems (.ref s.heap.objs.size); Builtin.List.listUpdate (.ref s.heap.objs.size) (fun _ => #[]); letGo old.toList.reverse; Builtin.List.listExtendWith (.ref s.heap.objs.size) (.ref d) .none) _ _ _
  refine wpAny_bind ?_
  unfold Builtin.List.listItems
  refine wpAny_bind (wpAny_seqItems hS rfl (wpAny_pure ?_))
  show wpAny _ _ (updateSeq s.heap.objs.size (fun _ => #[]) >>= fun _ => letGo (#[] : Array Value).toList.reverse >>= fun _ => Builtin.List.listExtendWith (.ref s.heap.objs.size) (.ref d) .none) _ _ _
  refine wpAny_bind (wpAny_updateSeq hS rfl ?_)
  have hS2 := Heap.get?_update_self (Obj.mapSeq (fun _ => (#[] : Array Value))) hS rfl
  have oth : ∀ b o, b ≠ s.heap.objs.size → (s.heap.push { cls := .type "list", data := .seq #[] }).get? b = some o → ((s.heap.push { cls := .type "list", data := .seq #[] }).update s.heap.objs.size (Obj.mapSeq (fun _ => (#[] : Array Value)))).get? b = some o :=
    fun b o hb e => (Heap.get?_update_other _ _ (Ne.symm hb)).trans e
  refine wpAny_bind (wpAny_letGo ?_)
  refine raw_extend (by simpa using hh) hsm _ .none _ (hm.move fun o e => oth _ _ (Nat.ne_of_lt hd) (Heap.get?_push_of_some _ e)) hn (Nat.ne_of_lt hd) hS2 fun h' tk c hk hS' => ?_
  exact ⟨rfl, hQ h' tk c (fun b o e => hk b o (Nat.ne_of_lt (Heap.lt_size e)) (oth b o (Nat.ne_of_lt (Heap.lt_size e)) (Heap.get?_push_of_some _ e))) hS'⟩
end
end L2
namespace L2
open PySem PySem.Spec PyProof.Rows
abbrev RowK := List (List Key)
abbrev rowD (r : RowK) : PyData := .tuple (r.map tupK)
def RowsP (P : Program) (w : World) (rs : List RowK) (K : PySem.W.Frag) (F : Hp) (a : Addr) (ψ : Heap → Prop) : Prop :=
  ∃ (o : Obj) (es : Array DictEntry) (ep : Nat) (xs : List (RowK × Addr × Value)), ψ = (fun h => h.get? a = some o) ∧ (a == sysModules) = false ∧ rs.length ≤ sizeLine ∧ o.ExactDict ∧ o.data = .dict es ep ∧ es.toList = xs.map (entryOfKey (rowKind P w)) ∧ xs.map (·.1) = rs ∧ rs.Nodup ∧ ∀ x ∈ xs, Rq K F (.ref x.2.1) (rowD x.1)
theorem RowsP.mono {P : Program} {w : World} {rs : List RowK} {K : PySem.W.Frag} {F F' : Hp} {a : Addr} {ψ : Heap → Prop} (h : RowsP P w rs K F a ψ) (s : Same F F') : RowsP P w rs K F' a ψ := by
  obtain ⟨o, es, ep, xs, h1, h2, h3, h4, h5, h6, h7, h8, h9⟩ := h
  exact ⟨o, es, ep, xs, h1, h2, h3, h4, h5, h6, h7, h8, fun x hx => Rq.same s _ (h9 x hx)⟩
def putR (rs : List RowK) (r : RowK) : List RowK := if (rs.any fun x => decide (x = r)) = true then rs else rs ++ [r]
theorem any_mem {rs : List RowK} {r : RowK} : (rs.any fun x => decide (x = r)) = true ↔ r ∈ rs := by simp
theorem stored_keys {xs : List (RowK × Addr × Value)} {r : RowK} {b : Addr} {u : Value} : (storedH xs r b u).map (·.1) = putR (xs.map (·.1)) r := by
  unfold putR
  by_cases h : r ∈ xs.map (·.1)
  · rw [if_pos (any_mem.mpr h)]
    obtain ⟨x, hx, e⟩ := List.mem_map.mp h
    have hs : (atKey xs r).isSome = true := by
      unfold atKey
      rw [Option.isSome_map, List.find?_isSome]
      exact ⟨x, hx, by simpa using e⟩
    unfold storedH
    rw [if_pos hs, List.map_map]
    refine List.map_congr_left fun y _ => ?_
    show (putAt r u y).1 = y.1
    unfold putAt
    split <;> rfl
  · rw [if_neg fun z => h (any_mem.mp z)]
    have hs : atKey xs r = none := by
      unfold atKey
      rw [Option.map_eq_none_iff, List.find?_eq_none]
      intro x hx
      simp only [decide_eq_true_eq]
      exact fun e => h (List.mem_map.mpr ⟨x, hx, e⟩)
    rw [storedH_new hs]
    simp
theorem putR_nd {rs : List RowK} {r : RowK} (h : rs.Nodup) : (putR rs r).Nodup := by
  unfold putR
  split
  · exact h
  · exact nd_last h fun z => ‹¬ _› (any_mem.mpr z)
theorem putR_len (rs : List RowK) (r : RowK) : (putR rs r).length ≤ rs.length + 1 := by
  unfold putR
  split
  · omega
  · simp
section
variable {X : Cx}
theorem row_its {pins : List (Addr × Obj)} {σ : St} {H : Hp} {s : Shared} (I : Inv X pins σ H s) : ∀ {r : RowK} {vs : List V} {us : List Value}, Paired (fun d v => Rq X.K H v d) (r.map tupK) vs → Vals vs us → ItsH (tupleKind (mixKind X.prog X.w)) s.heap r us
  | [], _, _, .nil, .nil => .nil
  | ks :: r, _, _, .cons h t, .cons rv rt => by
    obtain ⟨b, rfl, hb⟩ := Rq.of_key h
    cases rv
    exact .cons (key_sq I hb) (row_its I t rt)
theorem row_is {pins : List (Addr × Obj)} {σ : St} {H : Hp} {s : Shared} {r : RowK} {b : Addr} (I : Inv X pins σ H s) (h : Rq X.K H (.ref b) (rowD r)) : (rowKind X.prog X.w).is s.heap r b := by
  obtain ⟨a, vs, e, hs, p⟩ := Rq.of_tup h
  cases e
  obtain ⟨its, rv, ⟨o, h1, h2, n, h3⟩, _⟩ := I.tuple hs
  exact ⟨o, its.toArray, n, h1, h2, h3, by simpa using row_its I p rv⟩
theorem ext_new {H : Hp} {h : Heap} {a : Addr} {o : Obj} (e : h.get? a = some o) : ObjOk X.prog X.w H h a (.ext fun h => h.get? a = some o) := ⟨e, ⟨o, e⟩, fun _ _ z k => k _ z⟩
theorem set_row (hu : X.A.units + 2 < cLine) : PSet X fun o i v H Q => ∃ a b rs r ψ F, o = .ref a ∧ i = .ref b ∧ H a = some (.ext ψ) ∧ Same F H ∧ RowsP X.prog X.w rs X.K F a ψ ∧ Rq X.K F (.ref b) (rowD r) ∧ rs.length < sizeLine ∧ ∀ ψ', RowsP X.prog X.w (putR rs r) X.K F a ψ' → Q (upd H a (.ext ψ')) := by
  intro pins s σ H o i v ov iv u Q I r1 r2 r3 ⟨a, b, rs, r, ψ, F, e1, e2, e, sF, hR, hr, hl, q⟩
  subst e1 e2
  obtain rfl : ov = Value.ref a := r1
  obtain rfl : iv = Value.ref b := r2
  obtain ⟨ob, es, ep, xs, rfl, hsm, hz, hx, hd, hes, hk, nd, hrq⟩ := hR
  have hget : s.heap.get? a = some ob := (show ObjOk X.prog X.w H s.heap a (.ext _) from I.hok a _ e).1
  have hxl : xs.length = rs.length := by rw [← hk, List.length_map]
  have dd : s.heap.DictOfH (rowKind X.prog X.w) a xs := ⟨ob, es, ep, hget, hx, hd, hes, fun x hx => row_is I (Rq.same sF _ (hrq x hx)), by rw [hk]; exact nd⟩
  refine wpAny_setItem_heap (knd := rowKind X.prog X.w) (hsz := by omega) (show X.A.units + 1 + 1 < cLine by omega) (row_is I (Rq.same sF _ hr)) dd fun h' dd' hs => ?_
  obtain ⟨q', es', ep', hq, h2, h3, h4, h5, h6⟩ := dd'
  refine ⟨_, d_write I (by rw [e]; trivial) hs ⟨q', hq⟩ (ext_new hq), q _ ⟨q', es', ep', storedH xs r b u, rfl, hsm, ?_, h2, h3, h4, ?_, putR_nd nd, fun x hx => ?_⟩⟩
  · have := putR_len rs r
    omega
  · rw [stored_keys, hk]
  · rcases mem_storedH hx with ⟨y, hy, e1, e2⟩ | ⟨e1, e2⟩
    · rw [e1, e2]; exact hrq y hy
    · rw [e1, e2]; exact hr
theorem pe_dnewR {pos : Pos} : PE X (.Dict [] [] pos) fun σ H Q => ∀ p ψ, H p = none → (∀ K F, RowsP X.prog X.w [] K F p ψ) → Q (.ref p) (upd H p (.ext ψ)) := by
  intro pins s σ H Q I h
  refine thn (pe_dnewT pins s σ H (fun v H' => ∃ p, H p = none ∧ v = .ref p ∧ H' = upd H p (.dT [])) I fun p hp => ⟨p, hp, rfl, rfl⟩) fun v s1 ⟨y, H1, I1, r1, p, hp, e1, e2⟩ => ?_
  subst e1 e2
  obtain ⟨_, hs, xs, pr, o, es, ep, h1, h2, h3, h4, h5⟩ := show ObjOk X.prog X.w _ s1.heap p (.dT []) from I1.hok p _ upd_same
  cases pr
  have I2 := d_write (h' := s1.heap) (t' := s1.toks) (ob := .ext fun h => h.get? p = some o) I1 (by rw [upd_same]; trivial) (Heap.SameBut.refl _ _) ⟨o, h1⟩ (ext_new h1)
  rw [upd_upd] at I2
  exact ⟨.ref p, _, I2, r1, h p _ hp fun K F => ⟨o, es, ep, [], rfl, hs, Nat.zero_le _, h2, h3, h4, rfl, List.nodup_nil, fun x hx => by simp at hx⟩⟩
theorem call_lenR : CallR X (.builtin "len") fun xs H Q => ∃ a ψ rs F, xs = [.ref a] ∧ H a = some (.ext ψ) ∧ RowsP X.prog X.w rs X.K F a ψ ∧ Q (.int rs.length) H := by
  intro pins s σ H xs us Q I r ⟨a, ψ, rs, F, e0, e, hR, q⟩
  subst e0
  obtain ⟨u, rfl, rx⟩ := vals1 r
  cases rx
  obtain ⟨ob, es, ep, xs, rfl, hsm, hz, hx, hd, hes, hk, nd, hrq⟩ := hR
  have hget : s.heap.get? a = some ob := (show ObjOk X.prog X.w H s.heap a (.ext _) from I.hok a _ e).1
  have hsz : es.size = rs.length := by rw [← Array.length_toList, hes, List.length_map, ← hk, List.length_map]
  have hn := line63
  exact raw_len hsm ⟨ob, hget, hx, hd⟩ (by omega) ⟨.int rs.length, H, I.tok _, ⟨_, by rw [hsz]⟩, q⟩
theorem call_listR (hc : X.calm = true) : CallR X (.type "list") fun xs H Q => ∃ a ψ rs F, xs = [.ref a] ∧ H a = some (.ext ψ) ∧ RowsP X.prog X.w rs X.K F a ψ ∧ ∀ l vs, H l = none → Paired (fun d v => Rq X.K F v d) (rs.map rowD) vs → Q (.ref l) (upd H l (.lst vs)) := by
  intro pins s σ H xs us Q I r ⟨a, ψ, rs, F, e0, e, hR, q⟩
  subst e0
  obtain ⟨u, rfl, rx⟩ := vals1 r
  cases rx
  obtain ⟨ob, es, ep, xs, rfl, hsm, hz, hx, hd, hes, hk, nd, hrq⟩ := hR
  have hget : s.heap.get? a = some ob := (show ObjOk X.prog X.w H s.heap a (.ext _) from I.hok a _ e).1
  have hsz : es.size = rs.length := by rw [← Array.length_toList, hes, List.length_map, ← hk, List.length_map]
  have hxl : xs.length = rs.length := by rw [← hk, List.length_map]
  refine raw_list (I.ok.hd hc) hsm ⟨ob, hget, hx, hd⟩ (by omega) fun h' tk c kp hS => ?_
  have hks : es.toList.map (·.key) = xs.map fun x => Value.ref x.2.1 := by rw [hes, List.map_map]; rfl
  rw [hks] at hS
  have hv : ∀ l : List (RowK × Addr × Value), Vals (l.map fun x => V.ref x.2.1) (l.map fun x => Value.ref x.2.1) := fun l => by
    induction l with
    | nil => exact .nil
    | cons x l ih => exact .cons rfl ih
  refine ⟨.ref s.heap.objs.size, _, I.laid (t' := tk) (o := .lst (xs.map fun x => V.ref x.2.1)) kp (Nat.le_refl _) (show ObjOk X.prog X.w _ h' _ (.lst _) from ⟨by rw [List.length_map]; omega, _, c, hv xs, hS⟩), rfl, q _ _ (I.hok.fresh (Nat.le_refl _)) ?_⟩
  rw [← hk, List.map_map]
  have : ∀ l : List (RowK × Addr × Value), (∀ x ∈ l, Rq X.K F (.ref x.2.1) (rowD x.1)) → Paired (fun d v => Rq X.K F v d) (l.map (rowD ∘ fun x => x.1)) (l.map fun x => V.ref x.2.1) := fun l => by
    induction l with
    | nil => exact fun _ => .nil
    | cons x l ih => exact fun h => .cons (h x List.mem_cons_self) (ih fun y hy => h y (List.mem_cons_of_mem _ hy))
  exact this xs hrq
end
section
variable {X : Bc} {S : Sl} {W : Wl} {k : KB}
theorem be_dnewR {pos : Pos} (h : k (.o W.length) (W ++ [.x (RowsP X.prog X.w [])])) : BE X S W (.Dict [] [] pos) k :=
  .of pe_dnewR fun F A σ H Q x0 r sr q => fun p ψ hp hR => q.newO r hp (o := .x (RowsP X.prog X.w [])) ⟨ψ, rfl, F, .refl _, hR _ _⟩ h
theorem sb_row {j : Nat} {rs : List RowK} {r : RowK} {v : El} {k : Wl → Prop} (hu : X.A.units + 64 < cLine) (hj : W[j]? = some (.x (RowsP X.prog X.w rs))) (hl : rs.length < sizeLine) (h : k (W.set j (.x (RowsP X.prog X.w (putR rs r))))) : SB X (.o j) (.d (rowD r)) v W k :=
  fun F A H vo vi vv Q r' zo zi zv q => by
    obtain ⟨a, ha, rfl⟩ := zo
    obtain ⟨u, e, ψ, rfl, F0, s0, hR⟩ := r'.obj j a _ ha hj
    obtain ⟨b, vs, rfl, _, _⟩ := Rq.of_tup zi
    exact ⟨_, set_row (by omega), a, b, rs, r, ψ, F, rfl, rfl, e, r'.sub, hR.mono s0, zi, hl, fun ψ' hR' => q F A _ _ .refl (r'.put ha (o := .x (RowsP X.prog X.w (putR rs r))) ⟨ψ', rfl, F, .refl _, hR'⟩) h⟩
theorem cb_lenR {j : Nat} {rs : List RowK} (hj : W[j]? = some (.x (RowsP X.prog X.w rs))) (h : k (.d (.int rs.length)) W) : CB X (.builtin "len") [.o j] W k := .of call_lenR fun F A H Q vs r zs q => by
  obtain ⟨v, rfl, a, ha, rfl⟩ := pd_one zs
  obtain ⟨u, e, ψ, rfl, F0, s0, hR⟩ := r.obj j a _ ha hj
  exact ⟨a, ψ, rs, F0, rfl, e, hR, q.same r (.dd (Rq.int _)) h⟩
theorem cb_listR {j : Nat} {rs : List RowK} (hc : X.calm = true) (hj : W[j]? = some (.x (RowsP X.prog X.w rs))) (h : k (.o W.length) (W ++ [.lst (datas (rs.map rowD))])) : CB X (.type "list") [.o j] W k := .of (call_listR hc) fun F A H Q vs r zs q => by
  obtain ⟨v, rfl, a, ha, rfl⟩ := pd_one zs
  obtain ⟨u, e, ψ, rfl, F0, s0, hR⟩ := r.obj j a _ ha hj
  exact ⟨a, ψ, rs, F, rfl, e, hR.mono s0, fun l vs hl p => q.newO r hl (o := .lst (datas (rs.map rowD))) ⟨vs, rfl, pd_datas' p⟩ h⟩
end
end L2
namespace L2
open PySem PySem.Spec PyProof.Rows
end L2
namespace L2
open PySem PySem.Spec PyProof.Rows
end L2
namespace L2
open PySem PySem.Spec PyProof.Rows
end L2
namespace L2
open PySem PySem.Spec PyProof.Rows
end L2
namespace L2
open PySem PySem.Spec PyProof.Rows PySem.SeqAt PySem.MeetsSeq
end L2
namespace PySem.W
open PySem PySem.Calls PyProof.Rows PySem.Spec Builtin Builtin.ObjectAttr Builtin.Getset_descriptor
section
variable {prog : Program} {w : World} {A : Around} {E : Value → Shared → Prop} {s : Shared} {K : Frag} {x C : Addr}
/-- an exception's class, as the text asks for it -/
theorem x_class_get {R : Result → Shared → Prop} {tp : Value} (X : K.In s.heap) (LT : ∀ M, Looks M s.heap (typeOf (.ref x)) (.ref C)) (hm : mroIn K C (.type "object") = some true) (h : R (.ok (.ret (.ref C))) s) :
    codeAny (model prog w) A (.call (.builtin "getset_descriptor.__get__") ⟨[.builtin "object.__class__", .ref x, tp], []⟩) R s := by
  obtain ⟨hh, g, dr, t, os⟩ := s
  have L0 := LT (model prog w)
  have L1 := looks_mroIn (M := model prog w) X hm
  refine codeAny_call_builtin KF.slot_gs.plain KF.entry_gs (KF.slot_gs.check _ _ _ _ _ _ _ _ KF.type_class (KF.args_gs _ _ _) ?_)
  unfold Builtin.«getset_descriptor.__get__» descrGet
  rw [dga_obj]
  refine wpAny_bind (wpAny_pure ?_)
  unfold descrGetter descrCheckInstance descrNameAndClass isInstance
  simp only [KF.owner_class]
  repeat lk
  refine ⟨Code.quiet_builtin _ (by decide +kernel), codeAny_builtin KF.entry_class ?_⟩
  unfold Builtin.«object.__class__» shownTypeOf
  repeat lk
  exact h
/-- what K tells of an exception's class -/
structure ExcCls (K : Frag) (C : Addr) : Prop where
  ga : findIn K (.ref C) "__getattribute__" = some (some (.builtin "BaseException.__getattribute__"))
  gh : findIn K (.ref C) "__getattr__" = some none
  cl : findIn K (.ref C) "__class__" = some (some (.builtin "object.__class__"))
  gt : specialIn K (.builtin "object.__class__") "__get__" = some (some (.builtin "getset_descriptor.__get__"))
  st : takesIn K (.builtin "object.__class__") = some true
  ob : mroIn K C (.type "object") = some true
  be : mroIn K C (.type "BaseException") = some true
theorem x_class_entry {tk : Tok} {Q : PySem.Fin → Shared → Prop} (X : K.In s.heap) (LT : ∀ M, Looks M s.heap (typeOf (.ref x)) (.ref C)) (c : ExcCls K C) (h : Q (.done (.ret (.ref C))) s) :
    wpAny (model prog w) A (Builtin.«object.__getattribute__» ⟨[.ref x, .str "__class__" tk], []⟩) Q E s := by
  have L0 := LT (model prog w)
  have L1 := looks_findIn (M := model prog w) X c.cl
  have L2 := looks_specialIn (M := model prog w) X c.gt
  have L3 := looks_takesIn (M := model prog w) X c.st
  unfold Builtin.«object.__getattribute__»
  refine wpAny_bind (wpAny_pure (wpAny_bind (wpAny_pure (wpAny_bind (L0.here ?_)))))
  unfold Builtin.ObjectAttr.find Builtin.ObjectAttr.getOf
  refine wpAny_bind (wpAny_bind (L1.here (wpAny_bind (L2.here (wpAny_bind ?_)))))
  unfold Builtin.ObjectAttr.dataDescriptor?
  refine wpAny_bind (L3.here (wpAny_pure (wpAny_bind (wpAny_rule (wpAny_pure ?_)))))
  dsimp only
  show wpAny _ _ (holding [Value.builtin "object.__class__"] (call (.builtin "getset_descriptor.__get__") [.builtin "object.__class__", .ref x, .ref C]) >>= ret) _ _ _
  refine wpAny_bind (wpAny_holding (wpAny_call (x_class_get X LT c.ob ?_)))
  exact wpAny_pure h
theorem slot_bexc_ga : Slot "BaseException" "__getattribute__" "BaseException.__getattribute__" :=
  .of (owner := "BaseException") (n := "__getattribute__") (by rw [typeLookup_type, builtinLookup_eq_fast]; kernel_rfl) (by decide +kernel) (by decide +kernel) (by decide +kernel) (by first | exact .inl (by decide +kernel) | exact .inr (by decide +kernel)) (by rw [isSubtype_type]; kernel_rfl)
theorem x_class_attr {Q : Option Value → Shared → Prop} (X : K.In s.heap) (LT : ∀ M, Looks M s.heap (typeOf (.ref x)) (.ref C)) (c : ExcCls K C) (h : Q (some (.ref C)) { s with toks := s.toks + 1 }) : wpAny (model prog w) A (getAttr? (.ref x) "__class__") Q E s := by
  have L0 := LT (model prog w)
  have L1 := looks_findIn (M := model prog w) X c.ga
  have L2 := looks_findIn (M := model prog w) X c.gh
  unfold getAttr? getAttrBy? getAttrBy
  refine wpAny_bind (wpAny_mkText (wpAny_bind (wpAny_attempt (wpAny_holding (wpAny_bind (L0.at (wpAny_bind (L1.at ?_))))))))
  have ne : (onTheHeap (Value.ref C) && Value.builtin "BaseException.__getattribute__" == Value.builtin "object.__getattribute__") = false := by
    rw [show (Value.builtin "BaseException.__getattribute__" == Value.builtin "object.__getattribute__") = false from by decide +kernel, Bool.and_false]
  dsimp only
  rw [if_neg (by rw [ne]; exact Bool.false_ne_true)]
  unfold getAttrByItsOwn hookBefore
  refine wpAny_bind ?_
  show wpAny _ _ (typeLookup (.ref C) "__getattr__") _ _ _
  refine L2.at (wpAny_bind (wpAny_attempt ?_))
  show wpAny _ _ (holding [] (boundAndCalled (.builtin "BaseException.__getattribute__") (.ref x) (.str "__class__" s.toks))) _ _ _
  refine wpAny_holding ?_
  unfold boundAndCalled
  have bd : bindSpecial (.builtin "BaseException.__getattribute__") (.ref x) = pure (.builtin "BaseException.__getattribute__", [.ref x]) := slot_bexc_ga.bind (.ref x)
  refine wpAny_bind (wpAny_of_eq bd ?_)
  refine wpAny_call (codeAny_call_builtin slot_bexc_ga.plain F.entry_bexc_ga ?_)
  have hk : builtinKind "BaseException.__getattribute__" = some .slot := by decide +kernel
  have hsp : splitId "BaseException.__getattribute__" = some ("BaseException", "__getattribute__") := by decide +kernel
  have L3 := looks_mroIn (M := model prog w) X c.be
  have ha := F.args_bexc_ga (.ref x) (.str "__class__" s.toks)
  simp only [checkBuiltinCall, hk, hsp]
  refine wpAny_bind ?_
  unfold isInstance
  refine wpAny_bind (L0.at (L3.at ?_))
  simp only [Bool.not_true, Bool.false_eq_true, if_false]
  refine wpAny_of_eq ha ?_
  refine x_class_entry (s := { s with toks := s.toks + 1 }) X LT c ?_
  exact wpAny_pure (wpAny_pure h)
end
end PySem.W
namespace PySem.W
open PySem PySem.Spec PySem.Calls PyProof.Rows
/-- an exception of a class of the text, for isinstance -/
theorem kitx_exc {K : Frag} {a C : Addr} (c : ExcCls K C) (hc : (clsIn K C).isSome = true) : KitX K (.ref a) (.ref C) (fun h => ∃ o, h.get? a = some o ∧ o.cls = .ref C) where
  ty := fun M h _ ⟨o, h1, h2⟩ => h2 ▸ (Looks.ld h1).andThen .now
  it := fun M h X _ => by
    unfold clsIn at hc
    split at hc
    · rename_i c' d' cd' sl' ho
      intro A' Q' E' s' k q
      unfold isType loadHead
      exact wpAny_bind (wpAny_loadPart (k _ _ (X _ _ ho)) (wpAny_pure q))
    · cases hc
  ne := fun h tp dd its n sl X htp => by
    unfold clsIn at hc
    split at hc
    · rename_i c' d' cd' sl' ho
      refine Bool.eq_false_iff.mpr fun q => ?_
      have e : C = tp := by
        have := beq_iff_eq.mp q
        exact Value.ref.inj this
      subst e
      have h2 := X _ _ ho
      rw [htp] at h2
      cases h2
    · cases hc
  ca := fun {_ _ _ _ _ s} X ⟨o, h1, h2⟩ q => x_class_attr X (fun M => h2 ▸ (Looks.ld h1).andThen .now) c q
end PySem.W
namespace L2
open PySem PySem.Spec PyProof.Rows
section
variable {X : Bc} {n : Nat} {S : Sl} {W : Wl} {k : KB} {D : DB}
/-- the class of an exception: what isinstance wants to know -/
structure ExcK (K : PySem.W.Frag) (C : Addr) : Prop where
  cls : PySem.W.ExcCls K C
  is_ : (PySem.W.clsIn K C).isSome = true
theorem call_isX : CallR X (.builtin "isinstance") (fun xs H Q => ∃ (a C : Addr) (cv : V) (c : Value) (b : Bool), xs = [.ref a, cv] ∧ H a = some (excO a C) ∧ ExcK X.K C ∧ (∀ u, RelV cv u → u = c) ∧ PySem.W.kitOne X.K (.ref C) c = some b ∧ Q (.bl b) H) := by
  intro pins s σ H xs us Q I r h
  obtain ⟨a, C, cv, c, b, rfl, hH, ek, hcv, e, q⟩ := h
  obtain ⟨u, v, rfl, ru, rv⟩ := r.two
  cases hcv v rv
  cases (show u = Value.ref a from ru)
  obtain ⟨o, h1, h2⟩ := (show ObjOk X.prog X.w H s.heap a (.ext _) from I.hok a _ hH).1
  exact PySem.W.kia_one (PySem.W.kitx_exc ek.cls ek.is_) I.kIn ⟨o, h1, h2⟩ e (fun z => nomatch z) fun tk => ⟨.bl b, H, I.tok tk, rfl, q⟩
end
end L2
namespace L2
open PySem PySem.Spec PyProof.Rows
end L2
namespace L2
open PySem
section
variable {X : Bc} {n : Nat} {S : Sl} {W : Wl} {D : DB}
/-- a, b = x, y -/
theorem bs_par {i j : Nat} {x y : Str} {a b : Expr} {px py pt pt2 pos : Pos} {kt k2} (hc : X.calm = true) (hN : X.N.Nodup) (hi : X.N[i]? = some x) (hj : X.N[j]? = some y) (hij : i ≠ j)
    (hx : X.env.scope.names.lookup x = some .local) (hy : X.env.scope.names.lookup y = some .local) (h : BA X S W [a, b] fun as W1 => ∃ u v, as = [u, v] ∧ D.nx ((S.set i (some u)).set j (some v)) W1)
    (hw : swappedStores [.Tuple [.Name x px, .Name y py] kt pt] (.Tuple [a, b] k2 pt2) X.env = pure (some [x, y]) := by rfl)
    (hs : swapsWithSole [.Tuple [.Name x px, .Name y py] kt pt] (.Tuple [a, b] k2 pt2) pos.line X.env = pure false := by rfl) :
    BS X n S W (.Assign [.Tuple [.Name x px, .Name y py] kt pt] (.Tuple [a, b] k2 pt2) pos) D :=
  .of (ps_par hc hN hi hj hij hx hy pa_U hw hs) fun F A σ H E hn x0 r sr q => h.use x0.am r sr fun F1 A1 W1 H1 as vs e1 r1 z1 ⟨u, v, e, h1⟩ => by
    subst e
    cases z1 with
    | cons p z2 =>
      cases z2 with
      | cons p' z3 =>
        cases z3
        exact ⟨_, _, rfl, q.nx F1 A1 W1 H1 _ _ (e1.ex1 hn) r1 (((sr.ext e1).set p i).set p' j) h1⟩
end
end L2
namespace L2
open PySem
end L2
namespace L2
open PySem PySem.Spec PyProof.Rows
open PySem.W
end L2
namespace L2
open PySem PySem.Spec PyProof.Rows
open PySem.W
end L2
namespace L2
open PySem PySem.Spec PyProof.Rows
open PySem.W
end L2
namespace L2
open PySem PySem.Spec PyProof.Rows
end L2
namespace L2
open PySem PySem.Spec PyProof.Rows
open PySem.W
end L2
namespace L2
open PySem PySem.Spec PyProof.Rows PySem.SeqAt PySem.MeetsSeq
end L2
namespace L2
open PySem PySem.Spec PyProof.Rows
def xeC (X : Cx) (scope : Scope) (cl : List (Str × Addr)) (C : Addr) : Value → Shared → Prop := notedBy (model X.prog X.w) X.A (compEnvC scope cl C X.env) fun x s' => compPost (model X.prog X.w) X.A X.xe none (fun _ _ => False) .none C (.error x) s'
def cxCX (X : Cx) (N : List Str) (scope : Scope) (cl : List (Str × Addr)) (C : Addr) (ex : List Addr) (s : Shared) (H : Hp) : Cx := { cxComp X N scope cl C ex s H with xe := xeC X scope cl C }
/-- what is raised in a turn leaves as it may leave outside -/
def CanX (X : Cx) (σ : St) (N : List Str) (scope : Scope) (cl : List (Str × Addr)) (C : Addr) (ex : List Addr) (s : Shared) (H : Hp) : Prop :=
  ∀ Cc H' σ' e s', XS (cxCX X N scope cl C ex s H) Cc H' σ' e s' → (∀ s'', XS X Cc H' σ e s'' → X.xe e s'') → xeC X scope cl C e s'
theorem ff_but {h h' B B' : Heap} : ∀ {l : List Env}, h.FunFrames B l → (∀ b ∈ frs l, B.get? b = none → B'.get? b = none ∧ ∀ o, h.get? b = some o → h'.get? b = some o) → h'.FunFrames B' l
  | [], _, _ => by unfold Heap.FunFrames; trivial
  | env :: r, x, k => by
    unfold Heap.FunFrames at x ⊢
    obtain ⟨x1, ⟨L, o, x2, x3, x4, x5⟩, x6⟩ := x
    obtain ⟨k1, k2⟩ := k L (List.mem_filterMap.mpr ⟨env, List.mem_cons_self, x2⟩) x3
    refine ⟨x1, ⟨L, o, x2, k1, k2 o x4, x5⟩, ff_but x6 fun b hb => k b ?_⟩
    obtain ⟨e, he, q⟩ := List.mem_filterMap.mp hb
    exact List.mem_filterMap.mpr ⟨e, List.mem_cons_of_mem _ he, q⟩
theorem hide_get {h : Heap} {C b : Addr} (hb : b ≠ C) : (PySem.W.hideAll h [C]).get? b = h.get? b := by
  cases e : h.get? b with
  | none =>
    cases q : (PySem.W.hideAll h [C]).get? b with
    | none => rfl
    | some o => rw [PySem.W.of_hideAll _ q] at e; cases e
  | some o => exact PySem.W.hideAll_get _ e (by simpa using hb)
section
variable {X : Cx} {scope : Scope} {pins : List (Addr × Obj)} {σ : St} {H : Hp} {s : Shared} {N : List Str} {cl : List (Str × Addr)} {fp : List Addr} {C D : Addr} {h0 : Heap}
theorem Inv.uncompE {pins4 : List (Addr × Obj)} {σ' : St} {H' : Hp} {s4 : Shared} {h' : Heap} (I : Inv X pins σ H s)
    (hf : ∀ b ∈ fp, FpOk X pins H b) (hs : s.heap.objs.size ≤ C) (hD : s.heap.objs.size ≤ D)
    (k0 : ∀ b o, s.heap.get? b = some o → h0.get? b = some o)
    (I4 : Inv (cxCX X N scope cl C (D :: fp) { s with heap := h0 } H) pins4 σ' H' s4)
    (sb : ∀ b, b ≠ C → h'.get? b = s4.heap.get? b) : Inv X pins σ H' { s4 with heap := h' } := by
  have kC : ∀ b o, b ≠ C → s4.heap.get? b = some o → h'.get? b = some o := fun b o hb e => (sb b hb).trans e
  have lt : ∀ b o, s.heap.get? b = some o → b < s.heap.objs.size := fun b o e => Heap.lt_size e
  have neD : ∀ b o, s.heap.get? b = some o → b ≠ D := fun b o e => Nat.ne_of_lt (Nat.lt_of_lt_of_le (lt b o e) hD)
  have neC : ∀ b o, s.heap.get? b = some o → b ≠ C := fun b o e => Nat.ne_of_lt (Nat.lt_of_lt_of_le (lt b o e) hs)
  have nin : ∀ b o, s.heap.get? b = some o → b ∉ fp → b ∉ D :: fp := fun b o e h hb => (List.mem_cons.mp hb).elim (neD b o e) h
  have fC : H' C = none := I4.free
  have un : Un (frs X.stack) (D :: fp) H H' h0 s4.heap := I4.base
  refine I.call' (ch := fp) (s' := { s4 with heap := h' }) (H' := H') I4.os ⟨fun b o e n hb hx => ?_, fun b o e n hb hx => ?_, fun b o e n hx => ?_, fun b o e hx => ?_, fun b xs e => ?_, fun b o u e => ?_, fun b ps e => ?_⟩ (fun b u e => ?_) I4.bare (fun b hb => ?_)
  · exact kC b o (neC b o e) (un.keep b o (k0 b o e) n hb (nin b o e hx))
  · obtain ⟨sl, q⟩ := un.slot b o (k0 b o e) n hb (nin b o e hx)
    exact ⟨sl, kC b _ (neC b o e) q⟩
  · exact un.free b o (k0 b o e) n (nin b o e hx)
  · obtain ⟨o', q⟩ := un.there b o (k0 b o e) (nin b o e hx)
    exact ⟨o', kC b _ (neC b o e) q⟩
  · exact un.tups b xs e
  · exact un.frzs b o u e
  · exact un.tbls b ps e
  · refine (I4.hok b u e).stay (fun c v hc q => kC c v ?_ q) (fun c q => q) fun c xs q => q
    rcases hc with q | q
    · rw [q]; exact ne_of_none e fC
    · exact ne_of_none q fC
  · obtain ⟨_, h1, _, h2, h3, h4⟩ := hf b hb
    exact ⟨h2, h1, h3, h4⟩
theorem can_comp (bd : Body X) (I : Inv X pins σ H s) (hf : ∀ b ∈ fp, FpOk X pins H b) (hs : s.heap.objs.size ≤ C) (hD : s.heap.objs.size ≤ D) (k0 : ∀ b o, s.heap.get? b = some o → h0.get? b = some o) :
    CanX X σ N scope cl C (D :: fp) { s with heap := h0 } H := by
  rintro Cc H' σ' _ s' ⟨ea, B, pins4, H4, sr, rfl, I4, os, bare, un, ok, kp, x⟩ hxe
  have x : InF B X.stack ea (.ref Cc) s'.heap := x
  have un : Un (frs X.stack) [] H4 H' sr.heap s'.heap := un
  have kp : Kp B (frs X.stack) H' sr.heap s'.heap := kp
  have x1 := x
  have hfr := I.ok.frames
  rw [bd.stk] at x1 hfr
  have hC4 : H4 C = none := I4.free
  obtain ⟨m, hm, _⟩ := id I4.loc
  have hm : sr.heap.Ns C m := hm
  obtain ⟨oC, es, ep, hoC, hdC, hkC⟩ := id hm
  -- the block's names are no frame
  have hCf : C ∉ frs X.stack := fun z => by
    obtain ⟨_, o', e', _⟩ := I.stack.mem z
    exact absurd (Nat.lt_of_lt_of_le (Heap.lt_size e') hs) (Nat.lt_irrefl _)
  have hCs : s'.heap.get? C = some oC := un.keep C oC hoC hC4 hCf (by simp)
  have hCB : B.get? C = some oC := kp.old C oC oC hoC hCf hCs
  have hCH : H' C = none := un.free C oC hoC hC4 (by simp)
  show wpAny (model X.prog X.w) X.A (noteFrame (.ref ea) X.env) _ _ s'
  refine in_note hfr bd.frm x1 fun h1 a0 hh up => ?_
  refine ⟨m, ⟨oC, es, ep, hh.1 C oC hCB, hdC, hkC⟩, fun h' sb cenv hcl => ?_⟩
  have sb' : ∀ b, b ≠ C → h'.get? b = h1.get? b := sb.2
  obtain ⟨st1, ne1, ff1, oe, vs, T, oT, ts, he, hcls, hd, hv1, hnT, hTe, hT, hdT, h3⟩ := hh
  have heC : ea ≠ C := fun z => by rw [z, hCB] at ne1; cases ne1
  have hTC : T ≠ C := fun z => by rw [z, hCB] at hnT; cases hnT
  have neB : ∀ {b}, B.get? b = none → (PySem.W.hideAll B [C]).get? b = none := fun {b} e => by
    cases q : (PySem.W.hideAll B [C]).get? b with
    | none => rfl
    | some o => rw [PySem.W.of_hideAll _ q] at e; cases e
  have hideC : ∀ h : Heap, (PySem.W.hideAll h [C]).get? C = none := fun h => Heap.hide_self _ _
  have stB : (PySem.W.hideAll B [C]).StaysIn h' := fun b o q => by
    have hb : b ≠ C := fun z => by rw [z, hideC] at q; cases q
    rw [sb' b hb]
    exact st1 b o (PySem.W.of_hideAll _ q)
  have ffB : h'.FunFrames (PySem.W.hideAll B [C]) X.stack := by
    rw [bd.stk]
    refine ff_but ff1 fun b hb hn => ⟨neB hn, fun o q => ?_⟩
    have hbC : b ≠ C := fun z => hCf (by rw [bd.stk, ← z]; exact hb)
    rw [sb' b hbC]
    exact q
  have hfin : ∀ h2 : Heap, (PySem.W.hideAll B [C]).StaysIn h2 → h2.FunFrames (PySem.W.hideAll B [C]) X.stack → h2.TracedAtW (PySem.W.hideAll B [C]) ea (.ref Cc) a0 (cenv.frame.elim .none fun f => rawInt f) → (∀ b o, b ≠ C → s'.heap.get? b = some o → (∀ vs, o.data ≠ .fields vs) → ∃ sl, h2.get? b = some { o with slots := sl }) → X.xe (.ref ea) { s' with heap := h2 } := fun h2 k1 k2 k3 k4 => by
    refine hxe _ ⟨ea, PySem.W.hideAll B [C], pins, H4, { sr with heap := PySem.W.hideAll sr.heap [C] }, rfl, Inv.uncompE I hf hs hD k0 I4 fun b hb => hide_get hb, os, bare, ⟨?_, ?_, ?_, ?_, un.tups, un.frzs, un.tbls⟩, ?_, ⟨?_, ?_⟩, ⟨k1, neB x.ne, k2, .inr ⟨a0, _, k3⟩⟩⟩
    · intro b o q n hb _
      have hbC : b ≠ C := fun z => by rw [z, hideC] at q; cases q
      rw [hide_get hbC] at q
      exact k1 b o (by rw [hide_get hbC]; exact kp.old b o o q hb (un.keep b o q n hb (by simp)))
    · intro b o q n hb _
      have hbC : b ≠ C := fun z => by rw [z, hideC] at q; cases q
      rw [hide_get hbC] at q
      obtain ⟨sl, e⟩ := un.slot b o q n hb (by simp)
      obtain ⟨sl', e'⟩ := k4 b _ hbC e (x.nf b hb _ e)
      exact ⟨sl', e'⟩
    · intro b o q n _
      have hbC : b ≠ C := fun z => by rw [z, hideC] at q; cases q
      rw [hide_get hbC] at q
      exact un.free b o q n (by simp)
    · intro b o q _
      have hbC : b ≠ C := fun z => by rw [z, hideC] at q; cases q
      rw [hide_get hbC] at q
      obtain ⟨o', e⟩ := un.there b o q (by simp)
      by_cases hb : b ∈ frs X.stack
      · obtain ⟨sl', e'⟩ := k4 b _ hbC e (x.nf b hb _ e)
        exact ⟨_, e'⟩
      · exact ⟨o', k1 b o' (by rw [hide_get hbC]; exact kp.old b o o' q hb e)⟩
    · intro a o e
      refine (ok a o e).stay (fun b u hb q => ?_) (fun _ q => q) fun _ _ q => q
      have hbC : b ≠ C := by
        rcases hb with z | z
        · rw [z]; exact ne_of_none e hCH
        · exact ne_of_none z hCH
      refine k1 b u (by rw [hide_get hbC]; rcases hb with rfl | hb; exact kp.trk _ o u e q; exact kp.trk _ _ u hb q)
    · intro b o0 o q hb e
      have hbC : b ≠ C := fun z => by rw [z, hideC] at q; cases q
      rw [hide_get hbC] at q ⊢
      obtain ⟨o', e1⟩ := un.there b o0 q (by simp)
      have hB := kp.old b o0 o' q hb e1
      have := k1 b o' (by rw [hide_get hbC]; exact hB)
      rw [e] at this
      cases this
      exact hB
    · intro b u o q e
      have hbC : b ≠ C := ne_of_none q hCH
      obtain ⟨o', e1⟩ := (ok b u q).at
      have hB := kp.trk b u o' q e1
      rw [hide_get hbC]
      have := k1 b o' (by rw [hide_get hbC]; exact hB)
      rw [e] at this
      cases this
      exact hB
  unfold PySem.passOn
  refine wpAny_bind (wpAny_field (by rw [sb' ea heC]; exact he) hd hv1 ?_)
  rw [if_neg (by simp)]
  refine wpAny_bind (in_flight (fl := cenv.frame) (B := PySem.W.hideAll B [C]) (a0 := a0) (cls := .ref Cc) stB ffB ⟨oe, vs, T, oT, ts, by rw [sb' ea heC]; exact he, hcls, hd, hv1, neB hnT, hTe, by rw [sb' T hTC]; exact hT, hdT, h3⟩ fun h2 k1 k2 k3 k4 => wpAny_throw (hfin h2 k1 k2 k3 fun b o hb e nf => ?_))
  obtain ⟨sl, e1⟩ := up b o e nf
  have e1' : h'.get? b = some { cls := o.cls, dict := o.dict, data := o.data, slots := sl } := (sb' b hb).trans e1
  obtain ⟨sl', e2⟩ := k4 b _ e1' nf
  exact ⟨sl', e2⟩
end
end L2
namespace L2
open PySem PySem.Spec PyProof.Rows
section
variable {prog : Program} {w : World} {A : Around} {R : Result → Shared → Prop} {s : Shared}
/-- a comprehension's loop, whatever its target -/
theorem compLoop_anyX {elt target iter : Expr} {ifs : List Expr} {scope : Scope} {pos : Pos} {it acc : Value} {env : Env} (J : Nat → Shared → Prop)
    (Er : Value → Shared → Prop) (hEr : ∀ x s, Er x s → notedBy (model prog w) A env (fun x s' => R (.error x) s') x s)
    (turn : ∀ n s, J n s → wpAny (model prog w) A (pyNext it) (fun r s1 => match r with
      | none => R (.ok .next) s1
      | some v => wpAny (model prog w) A (letOwnedTupleGo target it v) (fun _ s1' => wpAny (model prog w) A (assign target env v) (fun _ s2 =>
          wpAny (model prog w) A (forIn ifs true fun c r => if r = true then do let ok ← isTrue c env (eval c env); pure (ForInStep.yield ok) else pure (ForInStep.yield r)) (fun ok s3 =>
            if ok = true then wpAny (model prog w) A (eval elt env) (fun x s4 =>
              wpAny (model prog w) A (call (.builtin "list.append") [acc, x]) (fun _ s5 => ∃ m, m < n ∧ J m s5) (fun _ _ => False) s4) Er s3
            else ∃ m, m < n ∧ J m s3) Er s2) Er s1') (fun _ _ => False) s1) (fun _ _ => False) s)
    (n : Nat) (h : J n s) : codeAny (model prog w) A (.compLoop (.ListComp elt [⟨target, iter, ifs, 0⟩] scope pos) 0 it acc env) R s := by
  refine codeAny_loop rfl J (fun n s hI => ?_) n h
  show wpAny _ A ((compTurn (.ListComp elt [⟨target, iter, ifs, 0⟩] scope pos) 0 it acc env).onRaise (fun x => do noteFrame x env; theTreesLotGoes x)) _ _ s
  refine wpAny_noted ?_
  rw [compTurn_list]
  refine wpAny_bind (wpAny_standAt (wpAny_bind (wpAny_mono (turn n s hI) (fun r s1 h1 => ?_) fun _ _ h' => h'.elim)))
  cases r with
  | none => exact wpAny_pure h1
  | some v =>
    refine wpAny_bind (wpAny_mono h1 (fun _ s1' h1' => ?_) fun _ _ h' => h'.elim)
    refine wpAny_bind (wpAny_mono h1' (fun _ s2 h2 => wpAny_bind (wpAny_mono h2 (fun ok s3 h3 => ?_) fun _ _ h' => hEr _ _ h')) fun _ _ h' => hEr _ _ h')
    cases ok with
    | false => exact wpAny_pure ⟨rfl, h3⟩
    | true =>
      exact wpAny_bind (wpAny_bind (wpAny_mono h3 (fun x s4 h4 => wpAny_bind (wpAny_mono h4 (fun _ s5 h5 => wpAny_pure (wpAny_pure ⟨rfl, h5⟩)) fun _ _ h' => h'.elim)) fun _ _ h' => hEr _ _ h'))
end
section
variable {X : Cx} {tg iter elt : Expr} {ifs : List Expr} {scope : Scope} {pos : Pos} {wi : TI} {g : TG} {tt : TT} {te : St → TE} {O F : List Str} {cap : List Nat}
/-- a comprehension's block, whatever becomes of its list -/
theorem comp_coreX {use : Option (Value → Sem Unit)} {R : Value → Shared → Prop} {pins : List (Addr × Obj)} {s : Shared} {σ : St} {H : Hp} {Q : VK} {ps0 : Pos} (bd : Body X) (hc : X.calm = true) (S : CmpScope X.N X.env.scope O F cap scope) (hi : PI X tg iter wi)
    (hg : ∀ cl C ex s H, PG (cxCX X (O ++ F) scope cl C ex s H) tg g) (ht : ∀ cl C ex s H, PTs (cxCX X (O ++ F) scope cl C ex s H) ifs tt) (he : ∀ σ cl C ex s H, CanX X σ (O ++ F) scope cl C ex s H → PE (cxCX X (O ++ F) scope cl C ex s H) elt (te σ))
    (ho : Own O.length g) (hs : ∀ x, foldedSetIterable iter X.env x = pure x) (I : Inv X pins σ H s) (h : tComp wi O cap g tt (te σ) σ H Q)
    (post : ∀ (s4 : Shared) (D C : Addr) (H4 : Hp) (ys : List V), (∃ m, s4.heap.Ns C m) → D ≠ C → (∀ h', Heap.SameBut C s4.heap h' → Inv X pins σ (upd H4 D (.lst ys)) { s4 with heap := h' }) → FpOk X pins (upd H4 D (.lst ys)) C → Q (.ref D) (upd H4 D (.lst ys)) →
      compPost (model X.prog X.w) X.A X.xe use R (.ref D) C (.ok .next) s4) :
    wpAny (model X.prog X.w) X.A (comprehension (.ListComp elt [⟨tg, iter, ifs, 0⟩] scope pos) scope X.env ps0 (newList []) false (eval iter X.env) use) R X.xe s := by
  have hfr : ∀ y ∈ scope.names, y.2 = .free → ∃ c, X.env.cells.lookup y.1 = some c := fun y hy e => I.ok.has y.1 (S.frees y hy e)
  refine wpAny_comprehension_free (use := use) rfl hs (closure_is hfr) S.kind S.names (thn (hi pins s σ H _ I h) fun v s1 h1 => thn h1 fun itv s2 h2 => ?_)
  obtain ⟨it, fp, tn, J, H2, e, I2, T, st2, f2, W, ⟨m0, w0⟩, turn⟩ := h2
  subst e
  refine wpAny_newObj_type (wpAny_newFunctionEnv S.nocell (by intro y hy; simp at hy) (fun h1 hns1 hsb1 => ?_) S.kind)
  dsimp only at hns1 hsb1 ⊢
  generalize hH0 : s2.heap.push { cls := .type "list", dict := none, data := .seq ([] : List Value).toArray } = h0 at hns1 hsb1 ⊢
  have h0s : h0.objs.size = s2.heap.objs.size + 1 := by rw [← hH0, Heap.size_push]
  have k0 : ∀ b o, s2.heap.get? b = some o → h0.get? b = some o := fun b o e => hH0 ▸ Heap.get?_push_of_some _ e
  have k1 : ∀ b o, h0.get? b = some o → h1.get? b = some o := fun b o e => hsb1.extBut b o (Nat.ne_of_lt (Heap.lt_size e)) (Heap.get?_push_of_some _ e)
  have oD0 : h0.get? s2.heap.objs.size = some { cls := .type "list", data := .seq ([] : List Value).toArray } := hH0 ▸ Heap.get?_push_size _ rfl
  have hDC : s2.heap.objs.size < h0.objs.size := by rw [h0s]; exact Nat.lt_succ_self _
  have hsC : s2.heap.objs.size ≤ h0.objs.size := Nat.le_of_lt hDC
  have flt : ∀ b ∈ fp, b < s2.heap.objs.size := fun b hb => by
    obtain ⟨o, e, _⟩ := T.obj _ _ st2 b hb
    exact Heap.lt_size e
  have Dfp : s2.heap.objs.size ∉ fp := fun z => Nat.lt_irrefl _ (flt _ z)
  have I3 : Inv (cxCX X (O ++ F) scope (clOf X.env.cells scope.names []) h0.objs.size (s2.heap.objs.size :: fp) { s2 with heap := h0 } H2) [] (cmpSt O cap σ) H2 { s2 with heap := h1, toks := s2.toks + ([] : List (Str × Value)).length } :=
    (I2.comp S f2 (T.obj _ _ st2) hsC s2.heap.objs.size (Nat.le_refl _) hDC rfl k0 k1 hns1).wish (xeC X scope (clOf X.env.cells scope.names []) h0.objs.size)
  have can := can_comp (N := O ++ F) (scope := scope) (cl := clOf X.env.cells scope.names []) bd I2 f2 hsC (Nat.le_refl _) k0
  generalize hX' : cxCX X (O ++ F) scope (clOf X.env.cells scope.names []) h0.objs.size (s2.heap.objs.size :: fp) { s2 with heap := h0 } H2 = X' at I3
  have hg' : PG X' tg g := hX' ▸ hg _ _ _ _ _
  have ht' : PTs X' ifs tt := hX' ▸ ht _ _ _ _ _
  have he' : PE X' elt (te σ) := hX' ▸ he σ _ _ _ _ _ can
  have fpok : ∀ {H' : Hp}, (∀ b ∈ s2.heap.objs.size :: fp, H' b = none) → ∀ b ∈ s2.heap.objs.size :: fp, FpOk X' [] H' b := fun {H'} hn b hb => by
    have hex : b ∈ X'.ex := by rw [← hX']; exact hb
    refine ⟨hn b hb, (I3.ok.exf b hex).1, I3.ok.exfs b hex, .inl hex, (I3.ok.exf b hex).2, fun p hp => ?_⟩
    rw [← hX'] at hp
    exact absurd (show p ∈ ([] : List (Addr × Obj)) from hp) (by simp)
  have eP : X'.prog = X.prog := by rw [← hX']; rfl
  have eW : X'.w = X.w := by rw [← hX']; rfl
  have eK : X'.K = X.K := by rw [← hX']; rfl
  have eA : X'.A = X.A := by rw [← hX']; rfl
  have eC : X'.calm = true := by rw [← hX']; exact hc
  have eE : X'.env = compEnvC scope (clOf X.env.cells scope.names []) h0.objs.size X.env := by rw [← hX']; rfl
  have eX : X'.xe = xeC X scope (clOf X.env.cells scope.names []) h0.objs.size := by rw [← hX']; rfl
  have loop : ∀ s3 : Shared, s3 = { s2 with heap := h1, toks := s2.toks + ([] : List (Str × Value)).length } →
      codeAny (model X.prog X.w) X.A (.compLoop (.ListComp elt [⟨tg, iter, ifs, 0⟩] scope pos) 0 (.ref it) (.ref s2.heap.objs.size) (compEnvC scope (clOf X.env.cells scope.names []) h0.objs.size X.env))
        (compPost (model X.prog X.w) X.A X.xe use R (.ref s2.heap.objs.size) h0.objs.size) s3 := by
    rintro s3 rfl
    refine compLoop_anyX (Er := xeC X scope (clOf X.env.cells scope.names []) h0.objs.size) (hEr := fun x s' h => h) (fun n s' => ∃ i ys us k H', Inv X' [] (cmpSt O cap σ) H' s' ∧ tn i s'.heap ∧ (∀ b ∈ s2.heap.objs.size :: fp, H' b = none) ∧ s'.heap.get? s2.heap.objs.size = some { cls := .type "list", data := .seq us.toArray k } ∧ Vals ys us ∧ W i n ys H') ?_ m0
      ⟨0, [], [], _, H2, I3, T.keep _ _ _ st2 (fun b _ o e => k1 b o (k0 b o e)), fun b hb => ?_, k1 _ _ oD0, .nil, w0⟩
    · rintro n s3 ⟨i, ys, us, k, H3, I3', st3, fr3, o3, rv3, w3⟩
      obtain ⟨hz, step⟩ := turn i n ys H3 w3
      have fpI : ∀ b ∈ fp, FpOk X' [] H3 b := fun b hb => fpok fr3 b (List.mem_cons_of_mem _ hb)
      rcases step with ⟨stop, q⟩ | ⟨go, NN, hNN, step⟩
      · have := T.done X' eP eW eK eC i [] s3 (cmpSt O cap σ) H3 (fun _ _ => False) I3' fpI st3 stop
        rw [eA] at this
        have hk : ∀ {s4 : Shared}, Inv X' [] (cmpSt O cap σ) H3 s4 → s4.heap.get? s2.heap.objs.size = some { cls := .type "list", data := .seq us.toArray k } → compPost (model X.prog X.w) X.A X.xe use R (.ref s2.heap.objs.size) h0.objs.size (.ok .next) s4 := fun {s4} I4 o4 => by
          obtain ⟨m, hm, _⟩ := id I4.loc
          rw [eE] at hm
          have fC : H3 h0.objs.size = none := by
            have := I4.free
            rw [eE] at this
            exact this
          have nCD : h0.objs.size ≠ s2.heap.objs.size := Nat.ne_of_gt hDC
          refine post s4 s2.heap.objs.size h0.objs.size H3 ys ⟨m, hm⟩ (Ne.symm nCD) (fun h' sb => ?_) (I2.fpOk hsC (by rw [upd_ne nCD]; exact fC)) (q _ (fr3 _ List.mem_cons_self))
          rw [← hX'] at I4
          exact I2.uncomp f2 hsC (Nat.le_refl _) hDC k0 (I4.wish fun _ _ => False) (fr3 _ List.mem_cons_self) o4 rv3 hz sb
        -- the accumulator is pinned while the iterator ends
        have J3 : Inv X' [(s2.heap.objs.size, { cls := .type "list", data := .seq us.toArray k })] (cmpSt O cap σ) H3 s3 := I3'.pins_of fun p hp => by
          have : p = (s2.heap.objs.size, { cls := .type "list", data := .seq us.toArray k }) := by simpa using hp
          subst this
          obtain ⟨f0, f1, f2', _⟩ := fpok fr3 s2.heap.objs.size List.mem_cons_self
          exact ⟨o3, f0, f1, f2', fun v z => by cases z⟩
        have fpJ : ∀ b ∈ fp, FpOk X' [(s2.heap.objs.size, { cls := .type "list", data := .seq us.toArray k })] H3 b := fun b hb => by
          obtain ⟨f0, f1, f3, f4, f5, f6⟩ := fpI b hb
          refine ⟨f0, f1, f3, f4, f5, fun p hp => ?_⟩
          rcases List.mem_append.mp hp with z | z
          · exact f6 p (List.mem_append_left _ z)
          · have : p = (s2.heap.objs.size, { cls := .type "list", data := .seq us.toArray k }) := by simpa using z
            subst this
            intro e
            exact Dfp (by rw [show s2.heap.objs.size = b from e]; exact hb)
        have fin := T.done X' eP eW eK eC i _ s3 (cmpSt O cap σ) H3 (fun _ _ => False) J3 fpJ st3 stop
        rw [eA] at fin
        refine thn fin fun r s4 ⟨hr, J4⟩ => ?_
        subst hr
        exact hk (J4.pins_of fun p hp => absurd hp (by simp)) (J4.pin (s2.heap.objs.size, { cls := .type "list", data := .seq us.toArray k }) (List.mem_append_right _ (List.mem_singleton.mpr rfl))).1
      · have J3 : Inv X' (pinsAt [s2.heap.objs.size] s3.heap) (cmpSt O cap σ) H3 s3 := by
          have := I3'.pinned (fp := [s2.heap.objs.size]) (fun b hb => fpok fr3 b (by simp at hb; simp [hb])) (fun b hb => by
            have e : b = s2.heap.objs.size := by simpa using hb
            subst e
            exact ⟨_, o3, fun v z => by cases z⟩)
          simpa using this
        have fpJ : ∀ b ∈ fp, FpOk X' (pinsAt [s2.heap.objs.size] s3.heap) H3 b := fun b hb => by
          obtain ⟨f0, f1, f3, f4, f5, f6⟩ := fpI b hb
          refine ⟨f0, f1, f3, f4, f5, fun p hp => ?_⟩
          rcases List.mem_append.mp hp with z | z
          · exact f6 p (List.mem_append_left _ z)
          · have := (of_pinsAt z).1
            have e' : p.1 = s2.heap.objs.size := by simpa using this
            intro e
            exact Dfp (by rw [← e', e]; exact hb)
        have it3 := T.item X' eP eW eK eC i _ s3 (cmpSt O cap σ) H3 (fun _ _ => False) J3 fpJ st3 go
        rw [eA] at it3
        refine thn it3 fun r s4 ⟨u, hr, h4⟩ => ?_
        subst hr
        refine thn h4 fun _ s5 ⟨x, H5, I5, r5, y5, st5, fr5⟩ => ?_
        have o5 : s5.heap.get? s2.heap.objs.size = some { cls := .type "list", data := .seq us.toArray k } := (I5.pin (_, _) (List.mem_append_right _ (mem_pinsAt (by simp) o3))).1
        have d5 : H5 s2.heap.objs.size = none := (I5.pin (_, _) (List.mem_append_right _ (mem_pinsAt (by simp) o3))).2.1
        have fr5' : ∀ b ∈ s2.heap.objs.size :: fp, H5 b = none := fun b hb => (List.mem_cons.mp hb).elim (fun z => by rw [z]; exact d5) (fr5 b)
        have I5' : Inv X' (pinsAt (s2.heap.objs.size :: fp) s5.heap) (cmpSt O cap σ) H5 s5 := by
          have := (I5.pins_of (pins' := []) fun p hp => absurd hp (by simp)).pinned (fp := s2.heap.objs.size :: fp) (fpok fr5') (fun b hb => by
            rcases List.mem_cons.mp hb with e | hb
            · subst e
              exact ⟨_, o5, fun v z => by cases z⟩
            · exact T.obj _ _ st5 b hb)
          simpa using this
        have a5 := hg' _ s5 (cmpSt O cap σ) H5 x u _ I5' r5 (ho _ _ _ _ (step x H5 y5))
        rw [eP, eW, eA, eE, eX] at a5
        refine thn a5 fun _ s6 ⟨σ6, H6, I6, ⟨l6, w6⟩, q6⟩ => ?_
        have t6 := ht' _ s6 σ6 H6 _ I6 q6
        rw [eP, eW, eA, eE, eX] at t6
        refine thn t6 fun ok s7 ⟨H7, I7, q7⟩ => ?_
        -- behind the turn
        have back : ∀ {σ8 : St} {H8 : Hp} {s8 : Shared}, σ8.length = (cmpSt O cap σ).length → Inv X' (pinsAt (s2.heap.objs.size :: fp) s5.heap) σ8 H8 s8 → (∀ (j : Nat) v, (cmpSt O cap σ)[j]? = some (some v) → σ8[j]? = some (some v)) →
            Inv X' [] (cmpSt O cap σ) H8 s8 ∧ tn (i + 1) s8.heap ∧ (∀ b ∈ s2.heap.objs.size :: fp, H8 b = none) ∧ s8.heap.get? s2.heap.objs.size = some { cls := .type "list", data := .seq us.toArray k } := fun {σ8 H8 s8} hl I8 hw => by
          have pin8 : ∀ b ∈ s2.heap.objs.size :: fp, ∀ o, s5.heap.get? b = some o → s8.heap.get? b = some o ∧ H8 b = none := fun b hb o e => by
            have := I8.pin (b, o) (List.mem_append_right _ (mem_pinsAt hb e))
            exact ⟨this.1, this.2.1⟩
          refine ⟨(I8.pins_of fun p hp => absurd hp (by simp)).weak hl.symm hw, T.keep _ _ _ st5 fun b hb o e => (pin8 b (List.mem_cons_of_mem _ hb) o e).1, fun b hb => ?_, (pin8 _ List.mem_cons_self _ o5).1⟩
          rcases List.mem_cons.mp hb with e | hb'
          · exact (pin8 b hb _ (by rw [e]; exact o5)).2
          · obtain ⟨o, e, _⟩ := T.obj _ _ st5 b hb'
            exact (pin8 b hb o e).2
        have w6' : ∀ (j : Nat) v, (cmpSt O cap σ)[j]? = some (some v) → σ6[j]? = some (some v) := fun j v e => by
          by_cases hj : O.length ≤ j
          · rw [w6 j hj]; exact e
          · exfalso
            unfold cmpSt at e
            rw [List.getElem?_append_left (by simpa using Nat.not_le.mp hj), List.getElem?_map] at e
            cases q : O[j]? with
            | none => rw [q] at e; cases e
            | some z => rw [q] at e; cases e
        cases ok with
        | false =>
          rw [if_neg Bool.false_ne_true] at q7 ⊢
          obtain ⟨m', hm, w7⟩ := hNN _ _ q7
          obtain ⟨b1, b2, b3, b4⟩ := back l6 I7 w6'
          exact ⟨m', hm, i + 1, ys, us, k, H7, b1, b2, b3, b4, rv3, w7⟩
        | true =>
          rw [if_pos rfl] at q7 ⊢
          have e7 := he' _ s7 σ6 H7 _ I7 q7
          rw [eP, eW, eA, eE, eX] at e7
          refine thn e7 fun y s8 ⟨z, H8, I8, r8, q8⟩ => ?_
          obtain ⟨m', hm, w8⟩ := hNN _ _ q8
          obtain ⟨b1, b2, b3, b4⟩ := back l6 I8 w6'
          have hzs : us.toArray.size ≤ sizeLine := by rw [List.size_toArray, ← rv3.length]; exact hz
          refine append_at (hsz := hzs) b4 fun h9 hs9 hD9 => ?_
          obtain ⟨f0, f1, f2', f3, f4, f5⟩ := fpok b3 s2.heap.objs.size List.mem_cons_self
          have I9 : Inv X' [] (cmpSt O cap σ) H8 { s8 with heap := h9 } := b1.turned (t' := s8.toks) (fun b o hb e => (hs9.2 b hb).trans e) f0 f1 f3 f4 f5
          refine ⟨m', hm, i + 1, ys ++ [z], us ++ [y], k + 1, H8, I9, T.keep _ _ _ b2 fun b hb o e => (hs9.2 b fun q => Dfp (by rw [← q]; exact hb)).trans e, b3, ?_, rv3.snoc r8, w8⟩
          rw [hD9, List.push_toArray]
    · rcases List.mem_cons.mp hb with e | hb
      · rw [e]; exact I2.hok.fresh (Nat.le_refl _)
      · exact (f2 b hb).1
  exact codeAny_compStart_list (loop _ rfl) (T.self _ 0 _ _ _ (T.keep _ _ _ st2 (fun b _ o e => k1 b o (k0 b o e))) (loop _ rfl))
/-- x = [elt for tg in iter if ..] -/
theorem ps_setcX {i : Nat} {x : Str} {pos' spos : Pos} (hN : X.N.Nodup) (hix : X.N[i]? = some x) (hx : Loc X.env.scope x) (bd : Body X) (hc : X.calm = true) (S : CmpScope X.N X.env.scope O F cap scope) (hi : PI X tg iter wi)
    (hg : ∀ cl C ex s H, PG (cxCX X (O ++ F) scope cl C ex s H) tg g) (ht : ∀ cl C ex s H, PTs (cxCX X (O ++ F) scope cl C ex s H) ifs tt) (he : ∀ σ cl C ex s H, CanX X σ (O ++ F) scope cl C ex s H → PE (cxCX X (O ++ F) scope cl C ex s H) elt (te σ))
    (ho : Own O.length g) (hsw : swapsWith (.ListComp elt [⟨tg, iter, ifs, 0⟩] scope pos) (some (.Name x pos')) spos.line X.env = pure true := by rfl) (hs : ∀ x, foldedSetIterable iter X.env x = pure x := by intro _; rfl)
    (hf : X.fn x = true ∨ X.env.scope.names.lookup x = some .local := by first | exact .inl rfl | exact .inr rfl | assumption) :
    PS X (.Assign [.Name x pos'] (.ListComp elt [⟨tg, iter, ifs, 0⟩] scope pos) spos) (tAsg (fun σ H Q => tComp wi O cap g tt (te σ) σ H Q) (gName i)) := by
  intro pins s σ H D I h
  have h : tComp wi O cap g tt (te σ) σ H (fun x H1 => gName i x σ H1 D.nx) := h
  rw [exec_Assign_Name_used _ _ _ _ hsw]
  refine wpAny_bind (wpAny_standAt (wpAny_bind ?_))
  show wpAny _ X.A (do let _ ← comprehension (.ListComp elt [⟨tg, iter, ifs, 0⟩] scope pos) scope X.env _ (newList []) false (eval iter X.env) (some (assign (.Name x pos') X.env))) _ _ s
  refine wpAny_bind (wpAny_mono (comp_coreX (R := fun _ s' => SP X pins D .next s') bd hc S hi hg ht he ho hs I h ?_) (fun _ s' hq => wpAny_pure (wpAny_pure hq)) fun _ _ e => e)
  intro s4 D' C H4 ys ⟨m, hm⟩ hDC hI fp q
  show wpAny (model X.prog X.w) X.A (assign (.Name x pos') X.env (.ref D')) (fun _ s'' => ∃ m, s''.heap.Ns C m ∧ ∀ h', Heap.SameBut C s''.heap h' → SP X pins D .next { s'' with heap := h' }) X.xe s4
  obtain ⟨f0, f1, f2, f3, f4, f5⟩ := fp
  refine wpAny_assign_Name (store_ok2 (v := .ref D') (hI s4.heap ⟨rfl, fun _ _ => rfl⟩) hN hix hx rfl (fun s5 I5 z => ?_) hf)
  obtain ⟨a, sb, ha⟩ := z
  have hCa : C ≠ a := by
    rcases ha with e | e
    · rw [e]; exact f1
    · exact Ne.symm (f4 x a e)
  refine ⟨m, hm.sameBut sb hCa, fun h' sb' => ?_⟩
  exact ⟨_, upd H4 D' (.lst ys), I5.turned (t' := s5.toks) (fun b o hb e => (sb'.2 b hb).trans e) f0 f1 f3 f4 f5, q⟩
end
end L2
namespace L2
open PySem PySem.Spec PyProof.Rows
section
variable {X : Bc} {n : Nat} {S : Sl} {W : Wl} {D : DB} {iter elt : Expr} {O Fv : List Str} {cap : List Nat} {scope : Scope} {pos : Pos}
/-- the block of a comprehension whose turn may raise: what is kept outside is S -/
abbrev cxBX (X : Bc) (N : List Str) (scope : Scope) (S : Sl) (F : Hp) (A : List Addr) (cl : List (Str × Addr)) (C : Addr) (ex : List Addr) (s : Shared) (H : Hp) : Bc := ⟨cxCX X.toCx N scope cl C ex s H, F, A, fun Cc _ W' => X.xk Cc S W'⟩
def tUEX (X : Bc) (σ : St) (N : List Str) (scope : Scope) (e : Expr) : TE := fun σ' H' Q => ∃ t, (∀ cl C ex s H, CanX X.toCx σ N scope cl C ex s H → PE (cxCX X.toCx N scope cl C ex s H) e t) ∧ t σ' H' Q
abbrev KCX (X : Bc) (O Fv : List Str) (cap : List Nat) (scope : Scope) (S : Sl) (j : Nat) (elt : Expr) (k : List El → Wl → Prop) : Nat → (Wl → Prop) → List PyData → Wl → Prop := fun m G ds W1 => ∃ P : Nat → List El → Wl → Prop,
  P 0 [] W1 ∧ (∀ i ys W', i ≤ ds.length → P i ys W' → G W' ∧ ys.length ≤ sizeLine) ∧
    (∀ i d ys W', ds[i]? = some d → P i ys W' → ∀ F A cl C ex s H, XOk (cxBX X (O ++ Fv) scope S F A cl C ex s H) → BE (cxBX X (O ++ Fv) scope S F A cl C ex s H) ((cmpS O cap S).set j (some (.d d))) W' elt fun y W4 => P (i + 1) (ys ++ [y]) W4) ∧
    ∀ ys W', P ds.length ys W' → k ys W'
theorem comp_readX {tg : Expr} {j : Nat} {F : Hp} {A : List Addr} {σ : St} {H : Hp} {Q : VK} {k : List El → Wl → Prop} (xo : XOk X) (h : BI X S W tg iter (KCX X O Fv cap scope S j elt k)) (x0 : X.Am F A) (r : RW X.K F A W H) (sr : SR X.K F A S σ)
    (q : ∀ F' A' W' H' ys vs p, Ext F A F' A' → RW X.K F' A' W' H' → Paired (ElR X.K F' A') ys vs → H' p = none → k ys W' → Q (.ref p) (upd H' p (.lst vs))) :
    tComp (tUI X tg iter) O cap (gName j) tTrue (tUEX X σ (O ++ Fv) scope elt) σ H Q :=
  h F A σ H _ x0 r sr fun m G F1 A1 W1 H1 ds J e1 r1 hm1 wk ⟨P, p0, hG, hs, hd⟩ => by
    refine ⟨fun i μ ys H' => μ = ds.length - i ∧ i ≤ ds.length ∧ ∃ F' A' W' yd, Ext F1 A1 F' A' ∧ RW X.K F' A' W' H' ∧ Paired (ElR X.K F' A') yd ys ∧ P i yd W', ⟨ds.length, by simp, Nat.zero_le _, F1, A1, W1, [], .refl, r1, .nil, p0⟩, ?_⟩
    rintro i μ ys H' ⟨rfl, hi, F', A', W', yd, x, r', z', p⟩
    obtain ⟨g, hz⟩ := hG i yd W' hi p
    refine ⟨by rw [← pd_len z']; exact hz, ?_⟩
    by_cases hlt : i < ds.length
    · refine .inr ⟨wk.go i F' A' W' H' hlt (x.ex1 hm1) r' g, fun ys2 H2 => ∃ F2 A2 W2 yd2, Ext F1 A1 F2 A2 ∧ RW X.K F2 A2 W2 H2 ∧ Paired (ElR X.K F2 A2) yd2 ys2 ∧ P (i + 1) yd2 W2, fun ys2 H2 p2 => ⟨ds.length - (i + 1), by omega, rfl, hlt, p2⟩, fun v H'' hy => ?_⟩
      obtain ⟨rfl, d, hd', zd⟩ := wk.yld i F' A' W' H' v H'' hlt (x.ex1 hm1) r' g hy
      have srx := sr.ext (e1.trans x)
      show tUEX X σ (O ++ Fv) scope elt ((cmpSt O cap σ).set j (some v)) H'' _
      refine ⟨fun σ' H3 Q3 => ∃ F3 A3, Ext F' A' F3 A3 ∧ RW X.K F3 A3 W' H3 ∧ SR X.K F3 A3 ((cmpS O cap S).set j (some (.d d))) σ' ∧ Post X.K F3 A3 (fun y W4 => P (i + 1) (yd ++ [y]) W4) Q3, fun cl C ex s0 H0 can => ?_, F', A', .refl, r', srx.cmp.set (ElR.dd zd) j, fun F4 A4 W4 H4 y vy e4 r4 z4 h4 => ?_⟩
      · refine hs i d yd W' hd' p F' A' cl C ex s0 H0 fun F5 A5 W5 H5 S5 σ5 Cc e s5 am5 r5 sr5 hx xs => ?_
        exact can Cc H5 σ5 e s5 xs fun s6 xs6 => xo F5 A5 W5 H5 S σ Cc e s6 ((x0.trans (e1.trans x)).trans am5) r5 (srx.ext am5) hx xs6
      · exact ⟨F4, A4, W4, yd ++ [y], x.trans e4, r4, pd_app (pd_imp (fun _ _ t => t.ext e4) z') (.cons z4 .nil), h4⟩
    · have hie : i = ds.length := by omega
      subst hie
      exact .inl ⟨wk.stop F' A' W' H' (x.ex1 hm1) r' g, fun l hl => q F' A' W' H' yd ys l (e1.trans x) r' z' hl (hd yd W' p)⟩
/-- x = [elt for y in iter], of owned things; a turn may raise -/
theorem bs_setcX {i j : Nat} {x y : Str} {p pos' spos : Pos} (bd : Body X.toCx) (xo : XOk X) (hN : X.N.Nodup) (hix : X.N[i]? = some x) (hx : Loc X.env.scope x) (hc : X.calm = true) (cs : CmpScope X.N X.env.scope O Fv cap scope)
    (hO : (O ++ Fv).Nodup) (hj : (O ++ Fv)[j]? = some y) (hjO : j < O.length) (hy : ∀ cl C ex s H, Loc (cxComp X.toCx (O ++ Fv) scope cl C ex s H).env.scope y) (hyl : ∀ cl C ex s H, (cxComp X.toCx (O ++ Fv) scope cl C ex s H).env.scope.names.lookup y = some .local)
    (h : BI X S W (.Name y p) iter (KCX X O Fv cap scope S j elt fun ys W' => D.nx (S.set i (some (.o W'.length))) (W' ++ [.lst ys])))
    (hsw : swapsWith (.ListComp elt [⟨.Name y p, iter, [], 0⟩] scope pos) (some (.Name x pos')) spos.line X.env = pure true := by rfl) (hs : ∀ x, foldedSetIterable iter X.env x = pure x := by intro _; rfl)
    (hf : X.fn x = true ∨ X.env.scope.names.lookup x = some .local := by first | exact .inl rfl | exact .inr rfl | assumption) : BS X n S W (.Assign [.Name x pos'] (.ListComp elt [⟨.Name y p, iter, [], 0⟩] scope pos) spos) D :=
  .of (ps_setcX (g := gName j) (tt := tTrue) (te := fun σ => tUEX X σ (O ++ Fv) scope elt) hN hix hx bd hc cs pi_U (fun cl C ex s H => pg_name hO hj (hy cl C ex s H) (.inr (hyl cl C ex s H))) (fun cl C ex s H => pts_nil) (fun σ cl C ex s H can => fun pins s' σ' H' Q I ⟨t, h, q⟩ => h cl C ex s H can pins s' σ' H' Q I q) (own_name hjO) hsw hs hf) fun F A σ H E hn x0 r sr q => show tComp (tUI X (Expr.Name y p) iter) O cap (gName j) tTrue (tUEX X σ (O ++ Fv) scope elt) σ H (fun x H1 => gName i x σ H1 E.nx) from comp_readX xo h x0.am r sr fun F' A' W' H' ys vs p x r' z hp hk => by
      obtain ⟨r2, y⟩ := r'.newO hp (o := .lst ys) (u := .lst vs) ⟨vs, rfl, z⟩
      exact q.nx _ _ _ _ _ _ ((x.trans y).ex1 hn) r2 ((sr.ext (x.trans y)).set (ElR.oo (k := W'.length) (by rw [← r'.len]; simp)) i) hk
end
end L2
namespace K1
open PySem L2
def top (i : Nat) : Stmt := PySem.Challenge.pw_talehands_k28_plots_refused.main.body.getD i (.Pass ⟨0, 0, 0, 0⟩)
abbrev sWhole : Stmt := top 3
abbrev sName : Stmt := top 4
abbrev sDeed : Stmt := top 7
abbrev s_is_row : Stmt := top 8
abbrev s_is_plot : Stmt := top 25
abbrev s_are_plots : Stmt := top 26
abbrev s_is_again : Stmt := top 27
abbrev s_plot_rows : Stmt := top 28
abbrev s_rows_of : Stmt := top 29
abbrev s_rows_or : Stmt := top 30
abbrev s_rows_then : Stmt := top 31
abbrev s_rows_again : Stmt := top 32
abbrev s_each_behind : Stmt := top 33
abbrev s_find_row : Stmt := top 34
abbrev sMixed : Stmt := top 36
abbrev sPack : Stmt := top 37
abbrev sTake : Stmt := top 38
abbrev sl_deeds : Stmt := top 39
abbrev sl_sum : Stmt := top 40
abbrev sl_counted : Stmt := top 41
abbrev sl_kinds : Stmt := top 42
abbrev sl_asked : Stmt := top 43
abbrev sLaw : Stmt := top 44
end K1
namespace K1
open PySem L2
theorem b_isi : bootBuiltins "isinstance" = some (.builtin "isinstance") := by decide +kernel
theorem b_int : bootBuiltins "int" = some (.type "int") := by decide +kernel
theorem b_tuple : bootBuiltins "tuple" = some (.type "tuple") := by decide +kernel
theorem b_len : bootBuiltins "len" = some (.builtin "len") := by decide +kernel
theorem b_all : bootBuiltins "all" = some (.builtin "all") := by decide +kernel
theorem b_divmod : bootBuiltins "divmod" = some (.builtin "divmod") := by decide +kernel
theorem b_sum : bootBuiltins "sum" = some (.builtin "sum") := by decide +kernel
theorem b_str : bootBuiltins "str" = some (.type "str") := by decide +kernel
theorem b_max : bootBuiltins "max" = some (.builtin "max") := by decide +kernel
theorem b_list : bootBuiltins "list" = some (.type "list") := by decide +kernel
theorem b_bool : bootBuiltins "bool" = some (.type "bool") := by decide +kernel
/-- what the top leaves -/
theorem b_min : bootBuiltins "min" = some (.builtin "min") := by decide +kernel
structure Txt (mg : Str → Option Value) : Prop where
  isi : mg "isinstance" = none
  int_ : mg "int" = none
  tuple_ : mg "tuple" = none
  len_ : mg "len" = none
  all_ : mg "all" = none
  range_ : mg "range" = none
  divmod_ : mg "divmod" = none
  sum_ : mg "sum" = none
  str_ : mg "str" = none
  max_ : mg "max" = none
  bool_ : mg "bool" = none
  list_ : mg "list" = none
  min_ : mg "min" = none
  enum_ : mg "enumerate" = none
  zip_ : mg "zip" = none
  sorted_ : mg "sorted" = none
  set_ : mg "set" = none
  any_ : mg "any" = none
  dict_ : mg "dict" = none
/-- a def of the text, and where it stands -/
structure Def (K : PySem.W.Frag) (mg : Str → Option Value) (x : Str) (st : Stmt) (f : Addr) (fd : FuncData) (ps : List Str) : Prop where
  fn : Fun K x x st f fd
  bd : Binds K fd ps []
  at_ : mg x = some (.ref f)
def noSc : Scope := { kind := .function, names := [], isGenerator := false, isCoroutine := false }
theorem small_le {n : Nat} (h : n ≤ 100000) : n ≤ sizeLine := Nat.le_trans h (by decide)
theorem set_last {W : Wl} {a b : OD} : (W ++ [a]).set W.length b = W ++ [b] := by simp
theorem get_last {W : Wl} {a : OD} : (W ++ [a])[W.length]? = some a := by simp
abbrev bits (n : Int) : Nat := Builtin.Int.intBits n
theorem bits_lt {n : Int} {B : Nat} (h : bits n ≤ B) : n.natAbs < 2 ^ B := by
  unfold bits Builtin.Int.intBits at h
  by_cases h0 : n = 0
  · subst h0; simp; exact Nat.two_pow_pos B
  · rw [if_neg (by simpa using h0)] at h
    have hn : n.natAbs ≠ 0 := by omega
    exact (Nat.log2_lt hn).mp (by omega)
theorem bits_of {n : Int} {B : Nat} (h : n.natAbs < 2 ^ B) : bits n ≤ B := by
  unfold bits Builtin.Int.intBits
  by_cases h0 : n = 0
  · subst h0; simp
  · rw [if_neg (by simpa using h0)]
    have hn : n.natAbs ≠ 0 := by omega
    have := (Nat.log2_lt hn).mpr h
    omega
def wl (n : Int) : OD := .lst [.d (.int n)]
def WellAt (W : Wl) (p : Nat) : Prop := ∃ n, W[p]? = some (wl n) ∧ 0 ≤ n
def WellW (W : Wl) (p : Nat) (W' : Wl) : Prop := ∃ n, W' = W.set p (wl n) ∧ 0 ≤ n
theorem WellAt.lt {W : Wl} {p : Nat} (h : WellAt W p) : p < W.length := by
  obtain ⟨n, h, _⟩ := h
  exact (List.getElem?_eq_some_iff.mp h).1
theorem WellW.at {W W' : Wl} {p : Nat} (h : WellW W p W') (hp : p < W.length) : WellAt W' p := by
  obtain ⟨n, rfl, q⟩ := h
  exact ⟨n, by rw [List.getElem?_set_self hp], q⟩
theorem WellW.trans {W W1 W2 : Wl} {p : Nat} (h : WellW W p W1) (h' : WellW W1 p W2) : WellW W p W2 := by
  obtain ⟨n, rfl, _⟩ := h
  obtain ⟨n', rfl, q⟩ := h'
  exact ⟨n', by rw [List.set_set], q⟩
theorem WellW.len {W W' : Wl} {p : Nat} (h : WellW W p W') : W'.length = W.length := by
  obtain ⟨n, rfl, _⟩ := h
  simp
theorem WellW.last {U W' : Wl} {o : OD} (h : WellW (U ++ [o]) U.length W') : ∃ n, W' = U ++ [wl n] ∧ 0 ≤ n := by
  obtain ⟨n, e, pb⟩ := h
  exact ⟨n, by rw [e]; simp, pb⟩
theorem WellAt.last {U : Wl} {n : Int} (h : 0 ≤ n) : WellAt (U ++ [wl n]) U.length := ⟨n, by simp, h⟩
theorem mul_sum {a b : Int} (h : bits a + bits b ≤ 100000000) : IntMulOk a b := by
  have : Builtin.Int.intTooBig (Builtin.Int.intBits a + Builtin.Int.intBits b) = false := by
    unfold Builtin.Int.intTooBig
    refine decide_eq_false ?_
    have e : (bitsLine : Nat) = 134217728 := by decide
    show ¬ ((bits a : Int) + (bits b : Int) > ((bitsLine : Nat) : Int))
    rw [e]
    omega
  unfold IntMulOk
  rw [this]
  simp
theorem op_mulS {X : Cx} : OpR X (binaryOp .Mult) (rI (fun i j => bits i + bits j ≤ 100000000) fun i j => .int (i * j)) := opI fun _ _ _ _ _ _ _ hc q => PyProof.Rows.mul_int q (mul_sum hc)
theorem bits_add {n m : Int} {B : Nat} (h : bits n ≤ B) (hm : m.natAbs ≤ 1000) : bits (n + m) ≤ B + 10 := by
  have h1 := bits_lt h
  refine bits_of ?_
  have h2 : (n + m).natAbs ≤ n.natAbs + m.natAbs := Int.natAbs_add_le n m
  have h3 : 2 ^ (B + 10) = 2 ^ B * 1024 := by rw [Nat.pow_add]
  rw [h3]
  have h4 : 1 ≤ 2 ^ B := Nat.one_le_two_pow
  generalize 2 ^ B = X at *
  omega
section
variable {P : Program} {w : World} {K : PySem.W.Frag} {mg : Str → Option Value} {base : Heap}
theorem ob_mulS {X : Bc} {W : Wl} {k : KB} {i j : Int} (hc : bits i + bits j ≤ 100000000) (h : k (.d (.int (i * j))) W) : OB X (binaryOp .Mult) (.d (.int i)) (.d (.int j)) W k := ob_int op_mulS hc h
def rMixed : RB := fun as W k => ∃ n : Int, as = [.d (.int n)] ∧ bits n ≤ 2000000 ∧ ∀ r : Int, 0 ≤ r → k (.d (.int r)) W
theorem scMx : FnScope ["_law_cell"] ["_law_cell"] (defScope sMixed) := ⟨rfl, rfl, rfl, by decide +kernel, rfl, by decide +kernel, by decide +kernel⟩
theorem ok_mixed {f : Addr} {fd : FuncData} (F : Fun K "_law_mixed" "_law_mixed" sMixed f fd) : FnOk P w K mg base CX0 1 f fd ["_law_cell"] (spB K rMixed) := by
  refine fn_B F scMx (fun as W k ⟨n, e, _⟩ => by subst e; rfl) fun cdv A outer s H E hr F0 A0 as W k hcl ⟨n, e, hb, hk⟩ => ?_
  subst e
  have hc : bits 577350269189625764509148780501957455647601751270126876018603 ≤ 1000 := by decide +kernel
  have h10 : (0 : Int) < 10 ^ (60 : Int).toNat := by decide +kernel
  exact bs_one (bs_ret (be_op (be_op (bv 0 rfl (be_int (ob_mulS (by omega) (be_op (be_int (be_int (ob_pow ⟨by decide, by decide, by decide⟩ (ob_mod h10 (hk _ (Int.emod_nonneg _ (by omega))))))))))))))
abbrev pPa : List Str := ["_law_script", "_law_k"]
def rPack : RB := fun as W k => ∃ (ns : List Int) (i : Nat), as = [.s ns, .d (.int i)] ∧ (∀ m ∈ ns, bits m ≤ 2 ^ 20) ∧ i ≤ 30 ∧ ∀ m : Int, 0 ≤ m → k (.o W.length) (W ++ [wl m])
theorem scPk : FnScope pPa pPa (defScope sPack) := ⟨rfl, rfl, rfl, by decide +kernel, rfl, by decide +kernel, by decide +kernel⟩
theorem ok_pack {f fM : Addr} {fd dM : FuncData} (F : Fun K "_law_pack" "_law_pack" sPack f fd) (T : Txt mg) (DM : Def K mg "_law_mixed" sMixed fM dM ["_law_cell"]) : FnOk P w K mg base CX0 2 f fd pPa (spB K rPack) := by
  have N := @ok_mixed P w K mg base _ _ DM.fn
  refine fn_B F scPk (fun as W k ⟨ns, i, e, _⟩ => by subst e; rfl) fun cdv A outer s H E hr F0 A0 as W k hcl ⟨ns, i, e, hb, hi, hk⟩ => ?_
  subst e
  refine bs_cons (bs_if (bt_cmp rfl (bv 1 rfl (be_callB rfl T.len_ b_len (ba_one (bv 0 rfl (cb_lenScript (ob_lt ⟨_, rfl, ?_⟩))))))))
  by_cases h : (i : Int) < ns.length
  · rw [decide_eq_true h]
    have hlt : i < ns.length := by omega
    have h1 := hb ns[i] (List.getElem_mem hlt)
    have h2 : bits (ns[i] + 17 * (i : Int)) ≤ 2 ^ 20 + 10 := bits_add h1 (by omega)
    have e20 : (2 : Nat) ^ 20 = 1048576 := by decide
    refine iteT (bs_one (bs_ret (be_lstO (ba_one (be_call N (hr.mono (by decide)) rfl DM.at_ DM.fn.kp DM.bd (ba_one (be_op (be_ix (by intro _ _; rfl) (bv 0 rfl (bv 1 rfl (ib_script (n := ns[i]) (atI_nat' (by simp [hlt])) (be_op (be_int (bv 1 rfl (ob_mul (.inl ⟨by decide, by decide⟩) (ob_add ⟨_, rfl, by omega, fun r r0 => ⟨by show 1 ≤ sizeLine; decide, hk r r0⟩⟩))))))))))))))))
  · rw [decide_eq_false h]
    have e30 : (2 : Nat) ^ 30 = 1073741824 := by decide
    have h2 : bits (6089 * (i : Int) + 5) ≤ 30 := bits_of (by omega)
    refine iteF (bs_nil (bs_one (bs_ret (be_lstO (ba_one (be_call N (hr.mono (by decide)) rfl DM.at_ DM.fn.kp DM.bd (ba_one (be_op (be_op (be_int (bv 1 rfl (ob_mul (.inl ⟨by decide, by decide⟩) (be_int (ob_add ⟨_, rfl, by omega, fun r r0 => ⟨by show 1 ≤ sizeLine; decide, hk r r0⟩⟩))))))))))))))
def rTake : RB := fun as W k => ∃ (p : Nat) (n : Int), as = [.o p, .d (.int n)] ∧ WellAt W p ∧ 1 ≤ n ∧ n ≤ 1000000 ∧ ∀ r W', 0 ≤ r → r < n → WellW W p W' → k (.d (.int r)) W'
abbrev pTk : List Str := ["_law_pack_here", "_law_size"]
abbrev nTk : List Str := ["_law_pack_here", "_law_size", "_law_digit"]
theorem scTk : FnScope nTk pTk (defScope sTake) := ⟨rfl, rfl, rfl, by decide +kernel, rfl, by decide +kernel, by decide +kernel⟩
theorem ndTk : nTk.Nodup := by decide +kernel
theorem ok_take {f : Addr} {fd : FuncData} (F : Fun K "_law_take" "_law_take" sTake f fd) (T : Txt mg) : FnOk P w K mg base CX0 1 f fd pTk (spB K rTake) := by
  refine fn_B F scTk (fun as W k ⟨p, n, e, _⟩ => by subst e; rfl) fun cdv A outer s H E hr F0 A0 as W k hcl ⟨p, n, e, ⟨a, hp, ha0⟩, hn1, hn2, hk⟩ => ?_
  subst e
  refine bs_cons (bs_asg (be_callB rfl T.divmod_ b_divmod (ba_cons (be_ix (by intro _ _; rfl) (bv 0 rfl (be_int (ib_own hp (e := .d (.int a)) rfl (ba_one (bv 1 rfl (cb_divmod ⟨by omega, by omega⟩ (bg_tupG rfl (bgs_cons (bg_sub (bv 0 rfl (be_int (sb_lst hp (m := 0) rfl (bgs_cons (bg_name (i := 2) ndTk rfl (Or.inl rfl) (bgs_nil ?_)))))))))))))))))))
  exact bs_one (bs_ret (bv 2 rfl (hk _ _ (Int.emod_nonneg _ (by omega)) (Int.emod_lt_of_pos _ (by omega)) ⟨a / n, rfl, Int.ediv_nonneg ha0 (by omega)⟩)))
end
end K1
namespace K1
open PySem L2
/-- what the top leaves of words and deeds -/
structure TxtN (K : PySem.W.Frag) (mg : Str → Option Value) (kA : Addr) : Prop where
  t : Txt mg
  letters : ∃ t, mg "LETTERS" = some (.str LET t)
  longest : ∃ t, mg "LONGEST_NAME" = some (.int 8 t)
  kinds : mg "KINDS" = some (.ref kA)
  kindsT : ∀ H, SqT K H kA [.str "send", .str "take"]
/-- of any thing -/
def nmD : PyData → Bool
  | .str x => isNm x
  | _ => false
section
variable {P : Program} {w : World} {K : PySem.W.Frag} {mg : Str → Option Value} {base : Heap} {kA : Addr}
/-- data whose text, if it is one, is not long -/
def shortD : PyData → Prop
  | .str x => x.length ≤ sizeLine
  | _ => True
def rName : RB := fun es W k => ∃ d, es = [.d d] ∧ shortD d ∧ k (.d (.bool (nmD d))) W
theorem scName : FnScope ["thing"] ["thing"] (defScope sName) := ⟨rfl, rfl, rfl, by decide +kernel, rfl, by decide +kernel, by decide +kernel⟩
def cSign : Scope := match defBody sName with
  | [_, .Return (some (.Call _ [.ListComp _ _ sc _] _ _)) _] => sc
  | _ => { kind := .function, names := [], isGenerator := false, isCoroutine := false }
theorem nd_sign : (["sign"] : List Str).Nodup := by decide +kernel
theorem csName : CmpScope ["thing"] (defScope sName) ["sign"] [] [] cSign := ⟨rfl, by decide +kernel, by decide +kernel, by decide +kernel, rfl, by decide +kernel⟩
theorem isNm_short {x : Str} (h : ¬ 1 ≤ x.length ∨ ¬ x.length ≤ 8) : isNm x = false := by
  unfold isNm
  rcases h with h | h <;> simp [h]
theorem ok_name {f : Addr} {fd : FuncData} (F : Fun K "is_name" "is_name" sName f fd) (T : TxtN K mg kA) : FnOk P w K mg base CX0 1 f fd ["thing"] (spB K rName) := by
  obtain ⟨tl, hlong⟩ := T.longest
  obtain ⟨tt, hlet⟩ := T.letters
  refine fn_B F scName (fun es W k ⟨d, e, _⟩ => by subst e; rfl) fun cdv A outer s H E hr F0 A0 es W k hcl ⟨d, e, hd, hk⟩ => ?_
  subst e
  refine bs_cons (bs_if (BW.bt (bw_or (bt_not (bt_val (be_isinst rfl T.t.isi b_isi rfl T.t.str_ b_str (by simp) (bv 0 rfl ⟨d, .inl rfl, _, rfl, ?_⟩)))))))
  cases d with
  | str x =>
    refine iteF (bw_or1 (bt_not (bt_chain (be_int (be_callB rfl T.t.len_ b_len (ba_one (bv 0 rfl (cb_lenS hd (ob_le ⟨_, rfl, ?_⟩)))))))))
    by_cases h1 : 1 ≤ x.length
    · rw [decide_eq_true (by omega)]
      refine iteT (gI hlong (ob_le ⟨_, rfl, ?_⟩))
      by_cases h2 : x.length ≤ 8
      · rw [decide_eq_true (by omega)]
        refine iteF (bs_nil ?_)
        refine bs_one (bs_ret (be_callB rfl T.t.all_ b_all (ba_one (be_comp rfl csName (bi_str (bv 0 rfl ⟨x, rfl, kc_map (fun d => match d with | .str y => .bool (y.cps.toList.all fun c => decide (97 ≤ c) && decide (c ≤ 122)) | _ => .none) trivial ?_ ?_ ?_⟩))))))
        · unfold signsD
          rw [List.length_map]
          exact Nat.le_trans h2 (by decide)
        · intro d hd'
          obtain ⟨c, hc, rfl⟩ := List.mem_map.mp hd'
          refine bgc_name (i := 0) nd_sign rfl (by decide) (fun _ _ _ _ _ => Or.inl rfl) (fun _ _ _ _ _ => rfl) fun cl C ex s H => ?_
          refine be_cmp rfl (bv 0 rfl (gS hlet (ob_inS ⟨?_, rfl⟩)))
          rw [in_let]
          simp
        · refine cb_all rfl (bs := x.cps.toList.map fun c => (decide (97 ≤ c) && decide (c ≤ 122))) (.inl ?_) ?_
          · unfold signsD
            rw [List.map_map, List.map_map]
            congr 2
            apply List.map_congr_left
            intro c hc
            simp
          · have : nmD (.str x) = ((x.cps.toList.map fun c => (decide (97 ≤ c) && decide (c ≤ 122))).all id) := by
              show isNm x = _
              unfold isNm
              rw [decide_eq_true h1, decide_eq_true h2, List.all_map]
              rfl
            rw [← this]
            exact hk
      · rw [decide_eq_false (by omega)]
        have : nmD (.str x) = false := isNm_short (.inr h2)
        rw [this] at hk
        exact iteT (bs_one (bs_ret (be_bl hk)))
    · rw [decide_eq_false (by omega)]
      have : nmD (.str x) = false := isNm_short (.inl h1)
      rw [this] at hk
      exact iteF (iteT (bs_one (bs_ret (be_bl hk))))
  | _ => exact iteT (iteT (bs_one (bs_ret (be_bl hk))))
end
end K1
namespace K1
open PySem L2
def kdD : PyData → Bool
  | .str x => decide (x = "send" ∨ x = "take")
  | _ => false
def neqD : PyData → PyData → Bool
  | .str x, .str y => !decide (x = y)
  | _, _ => false
def deedD : PyData → Bool
  | .tuple [a, b, c, d] => kdD a && (nmD b && nmD c && nmD d && neqD b c)
  | _ => false
def shortT : PyData → Prop
  | .tuple ds => ∀ d ∈ ds, shortD d
  | _ => True
section
variable {P : Program} {w : World} {K : PySem.W.Frag} {mg : Str → Option Value} {base : Heap} {kA : Addr}
def rDeed : RB := fun es W k => ∃ d, es = [.d d] ∧ shortT d ∧ k (.d (.bool (deedD d))) W
abbrev nDd : List Str := ["thing", "kind", "giver", "taker", "word"]
theorem scDeed : FnScope nDd ["thing"] (defScope sDeed) := ⟨rfl, rfl, rfl, by decide +kernel, rfl, by decide +kernel, by decide +kernel⟩
theorem ndDd : nDd.Nodup := by decide +kernel
theorem be_andn {X : Bc} {S : Sl} {W : Wl} {k : KB} {a b : Expr} {rest : List Expr} {pos : Pos} {c : Bool} (h : BE X S W a fun x W1 => x = .d (.bool c) ∧ (c = true → BE X S W1 (.BoolOp .And (b :: rest) pos) k) ∧ (c = false → k (.d (.bool false)) W1)) : BE X S W (.BoolOp .And (a :: b :: rest) pos) k :=
  be_and (h.mono fun x W1 ⟨e, h1, h2⟩ => ⟨c, e, by
    cases c with
    | true => exact iteT (h1 rfl)
    | false => exact iteF (h2 rfl)⟩)
theorem nmD_str {d : PyData} (h : nmD d = true) : ∃ x, d = .str x ∧ isNm x = true := by
  cases d with
  | str x => exact ⟨x, rfl, h⟩
  | _ => cases h
theorem ok_deed {f fN : Addr} {fd dN : FuncData} (F : Fun K "is_deed" "is_deed" sDeed f fd) (T : TxtN K mg kA) (DN : Def K mg "is_name" sName fN dN ["thing"]) : FnOk P w K mg base CX0 2 f fd ["thing"] (spB K rDeed) := by
  have N := @ok_name P w K mg base kA _ _ DN.fn T
  refine fn_B F scDeed (fun es W k ⟨d, e, _⟩ => by subst e; rfl) fun cdv A outer s H E hr F0 A0 es W k hcl ⟨d, e, hd, hk⟩ => ?_
  subst e
  refine bs_cons (bs_if (BW.bt (bw_or (bt_not (bt_val (be_isinst rfl T.t.isi b_isi rfl T.t.tuple_ b_tuple (by simp) (bv 0 rfl ⟨d, .inl rfl, _, rfl, ?_⟩)))))))
  cases d with
  | tuple ds =>
    refine iteF (bw_or1 (bt_cmp rfl (be_callB rfl T.t.len_ b_len (ba_one (bv 0 rfl (cb_lenT (be_int (ob_neI ⟨_, rfl, ?_⟩))))))))
    by_cases h4 : ds.length = 4
    · rw [decide_eq_true (by omega)]
      refine iteF (bs_nil ?_)
      obtain ⟨a, b, c, e, rfl⟩ : ∃ a b c e, ds = [a, b, c, e] := by
        match ds, h4 with
        | [a, b, c, e], _ => exact ⟨a, b, c, e, rfl⟩
      have hb : shortD b := hd b (by simp)
      have hc : shortD c := hd c (by simp)
      have he : shortD e := hd e (by simp)
      refine bs_cons (bs_asg (bv 0 rfl (bg_tup rfl (.cons (i := 1) ndDd rfl (Or.inl rfl) (.cons (i := 2) ndDd rfl (Or.inl rfl) (.cons (i := 3) ndDd rfl (Or.inl rfl) (.cons (i := 4) ndDd rfl (Or.inl rfl) .nil)))) rfl ?_)))
      refine bs_cons (bs_if (BW.bt (bw_or (bt_not (bt_val (be_isinst rfl T.t.isi b_isi rfl T.t.str_ b_str (by simp) (bv 1 rfl ⟨a, .inl rfl, _, rfl, ?_⟩)))))))
      cases a with
      | str x =>
        refine iteF (bw_or1 (bt_cmp rfl (bv 1 rfl (be_glob rfl T.kinds (show RelV (.ref kA) _ from rfl) (fun F => Rq.tup (T.kindsT F) (.cons (.str _) (.cons (.str _) .nil))) (ob_ninL (xs := ["send", "take"]) (.inr rfl) ⟨_, rfl, ?_⟩)))))
        by_cases hx : x ∈ (["send", "take"] : List Str)
        · rw [decide_eq_true hx]
          have hx' : kdD (.str x) = true := by
            show decide _ = true
            simpa using hx
          have hD : deedD (.tuple [.str x, b, c, e]) = (nmD b && nmD c && nmD e && neqD b c) := by
            show (kdD (.str x) && _) = _
            rw [hx', Bool.true_and]
          rw [hD] at hk
          refine iteF (bs_nil (bs_one (bs_ret ?_)))
          refine be_andn (be_call N (hr.mono (by decide)) rfl DN.at_ DN.fn.kp DN.bd (ba_one (bv 2 rfl ⟨b, rfl, hb, rfl, fun h1 => ?_, fun h1 => ?_⟩)))
          · refine be_andn (be_call N (hr.mono (by decide)) rfl DN.at_ DN.fn.kp DN.bd (ba_one (bv 3 rfl ⟨c, rfl, hc, rfl, fun h2 => ?_, fun h2 => ?_⟩)))
            · refine be_andn (be_call N (hr.mono (by decide)) rfl DN.at_ DN.fn.kp DN.bd (ba_one (bv 4 rfl ⟨e, rfl, he, rfl, fun h3 => ?_, fun h3 => ?_⟩)))
              · obtain ⟨y, rfl, _⟩ := nmD_str h1
                obtain ⟨z, rfl, _⟩ := nmD_str h2
                refine be_one (be_cmp rfl (bv 2 rfl (bv 3 rfl (ob_neS ?_))))
                rw [h1, h2, h3] at hk
                exact hk
              · rw [h3, Bool.and_false, Bool.false_and] at hk
                exact hk
            · rw [h2, Bool.and_false, Bool.false_and, Bool.false_and] at hk
              exact hk
          · rw [h1, Bool.false_and, Bool.false_and, Bool.false_and] at hk
            exact hk
        · rw [decide_eq_false hx]
          have hx' : kdD (.str x) = false := by
            show decide _ = false
            simpa using hx
          have hD : deedD (.tuple [.str x, b, c, e]) = false := by
            show (kdD (.str x) && _) = _
            rw [hx', Bool.false_and]
          rw [hD] at hk
          exact iteT (bs_one (bs_ret (be_bl hk)))
      | _ => exact iteT (iteT (bs_one (bs_ret (be_bl hk))))
    · rw [decide_eq_false (by omega)]
      have hD : deedD (.tuple ds) = false := by
        match ds, h4 with
        | [], _ => rfl
        | [_], _ => rfl
        | [_, _], _ => rfl
        | [_, _, _], _ => rfl
        | [_, _, _, _], h => exact absurd rfl h
        | _ :: _ :: _ :: _ :: _ :: _, _ => rfl
      rw [hD] at hk
      exact iteT (bs_one (bs_ret (be_bl hk)))
  | _ => exact iteT (iteT (bs_one (bs_ret (be_bl hk))))
end
end K1
namespace K1
open PySem L2
/-- a def of the text with its place -/
structure Fn (K : PySem.W.Frag) (mg : Str → Option Value) (x : Str) (st : Stmt) (ps : List Str) where
  f : Addr
  fd : FuncData
  d : Def K mg x st f fd ps
abbrev Fok {K : PySem.W.Frag} {mg : Str → Option Value} {x : Str} {st : Stmt} {ps : List Str} (P : Program) (w : World) (base : Heap) (d : Fn K mg x st ps) (j : Nat) (R : RB) : Prop := FnOk P w K mg base CX0 j d.f d.fd ps (spB K R)
theorem bc {X : Bc} {S : Sl} {W : Wl} {k : KB} {R : RB} {j jj : Nat} {x : Str} {st : Stmt} {ps : List Str} {p pos : Pos} {e : Expr} {es : List Expr} (d : Fn X.K X.mg x st ps) (N : FnOk X.prog X.w X.K X.mg X.base CX0 j d.f d.fd ps (spB X.K R)) (hr : Room jj X.A) (h : BA X S W (e :: es) fun as W1 => R as W1 k) (hj : j ≤ jj := by decide) (hg : Gl X x := by rfl) (hdb : (x == ("__debug__" : Str)) = false := by decide)
    (he : starEach (e :: es) X.env = (false, eval e X.env) :: starEach es X.env := by rfl) (hpl : (backTo pos (starEach es X.env)).any (·.1) = false := by rfl) : BE X S W (.Call (.Name x p) (e :: es) [] pos) k :=
  be_call N (hr.mono hj) hg d.d.at_ d.d.fn.kp d.d.bd h hdb he hpl
/-- all defs of the text -/
structure All (K : PySem.W.Frag) (mg : Str → Option Value) (kA : Addr) where
  T : TxtN K mg kA
  p_is_whole : Fn K mg "is_whole" sWhole ["thing"]
  p_is_name : Fn K mg "is_name" sName ["thing"]
  p_is_deed : Fn K mg "is_deed" sDeed ["thing"]
  p_is_row : Fn K mg "is_row" s_is_row ["thing"]
  p_is_plot : Fn K mg "is_plot" s_is_plot ["thing"]
  p_are_plots : Fn K mg "are_plots" s_are_plots ["thing"]
  p_is_again : Fn K mg "is_again" s_is_again ["thing"]
  p_plot_rows : Fn K mg "plot_rows" s_plot_rows ["plot"]
  p_rows_of : Fn K mg "rows_of" s_rows_of ["plot"]
  p_rows_or : Fn K mg "rows_or" s_rows_or ["parts"]
  p_rows_then : Fn K mg "rows_then" s_rows_then ["parts"]
  p_rows_again : Fn K mg "rows_again" s_rows_again ["rows", "least", "most"]
  p_each_behind : Fn K mg "each_behind" s_each_behind ["firsts", "seconds"]
  p_find_row : Fn K mg "find_row" s_find_row ["found", "row"]
  l_mixed : Fn K mg "_law_mixed" sMixed ["_law_cell"]
  l_pack : Fn K mg "_law_pack" sPack ["_law_script", "_law_k"]
  l_take : Fn K mg "_law_take" sTake ["_law_pack_here", "_law_size"]
  l_deeds : Fn K mg "_law_deeds" sl_deeds ["_law_amount"]
  l_sum : Fn K mg "_law_sum" sl_sum ["_law_amount"]
  l_counted : Fn K mg "_law_counted" sl_counted ["_law_pack_here"]
  l_kinds : Fn K mg "_law_kinds" sl_kinds ["_law_caught"]
  l_asked : Fn K mg "_law_asked" sl_asked ["_law_plot"]
  c_MOST_ROWS : ∃ t, mg "MOST_ROWS" = some (.int 200 t)
  c_MOST_DEEDS : ∃ t, mg "MOST_DEEDS" = some (.int 24 t)
  c_MOST_TIMES : ∃ t, mg "MOST_TIMES" = some (.int 4 t)
end K1
namespace L2
open PySem PySem.Spec PyProof.Rows
section
variable {X : Bc} {S : Sl} {W : Wl} {k : KB}
/-- a < b < c < d, whatever comes out -/
theorem be_chain3g {a b c d : Expr} {op op' op'' : CmpOp} {pos : Pos}
    (h : BE X S W a fun x W1 => BE X S W1 b fun y W2 => OB X (compareOp op) x y W2 fun z W3 => ∃ c1 : Bool, z = .d (.bool c1) ∧ (c1 = false → k (.d (.bool false)) W3) ∧ (c1 = true → BE X S W3 c fun u W4 => OB X (compareOp op') y u W4 fun z W5 => ∃ c2 : Bool, z = .d (.bool c2) ∧ (c2 = false → k (.d (.bool false)) W5) ∧ (c2 = true → BE X S W5 d fun v W6 => OB X (compareOp op'') u v W6 k)))
    (hm : lastMarks [op, op', op''] [b, c, d] = false := by with_unfolding_all rfl) : BE X S W (.Compare a [op, op', op''] [b, c, d] pos) k :=
  .of (pe_chain3 op_U op_U op_U pe_U pe_U pe_U pe_U hm) fun F A σ H Q x0 r sr q =>
    h.use x0 r sr fun F1 A1 W1 H1 x vx e1 r1 z1 h1 => h1.use (x0.trans e1) r1 (sr.ext e1) fun F2 A2 W2 H2 y vy e2 r2 z2 h2 => h2 F2 A2 H2 _ vx vy r2 (z1.ext e2) z2 fun F3 A3 W3 H3 z vz e3 r3 z3 ⟨c1, ht, hf1, ht1⟩ => by
      subst ht
      obtain rfl := Rq.of_bl z3
      have x3 := (e1.trans e2).trans e3
      cases c1 with
      | false =>
        refine ⟨false, rfl, ?_⟩
        rw [if_neg (by decide)]
        exact q F3 A3 W3 H3 _ _ x3 r3 z3 (hf1 rfl)
      | true =>
      have h3 := ht1 rfl
      refine ⟨true, rfl, ?_⟩
      rw [if_pos rfl]
      refine h3.use (x0.trans x3) r3 (sr.ext x3) fun F4 A4 W4 H4 u vu e4 r4 z4 h4 => h4 F4 A4 H4 _ vy vu r4 (z2.ext (e3.trans e4)) z4 fun F5 A5 W5 H5 z vz e5 r5 z5 ⟨c2, ht, hf2, ht2⟩ => ?_
      subst ht
      obtain rfl := Rq.of_bl z5
      have x5 := (x3.trans e4).trans e5
      cases c2 with
      | false =>
        refine ⟨false, rfl, ?_⟩
        rw [if_neg (by decide)]
        exact q F5 A5 W5 H5 _ _ x5 r5 z5 (hf2 rfl)
      | true =>
      have h5 := ht2 rfl
      refine ⟨true, rfl, ?_⟩
      rw [if_pos rfl]
      exact h5.use (x0.trans x5) r5 (sr.ext x5) fun F6 A6 W6 H6 v vv e6 r6 z6 h6 => h6 F6 A6 H6 _ vu vv r6 (z4.ext (e5.trans e6)) z6 (q.ext (x5.trans e6))
end
end L2
namespace K1
open PySem L2
def wholeD : PyData → Bool
  | .int _ => true
  | _ => false
def rowD : PyData → Bool
  | .tuple ds => ds.all deedD
  | _ => false
def rngD : PyData → PyData → Bool
  | .int a, .int b => decide (0 ≤ a) && (decide (a ≤ b) && decide (b ≤ 4))
  | _, _ => false
/-- what is a plot, of what is not deeper than n -/
def plotB : Nat → PyData → Bool
  | 0, _ => false
  | n + 1, .tuple (.str w :: ds) =>
    if w = "again" then (match ds with
      | [p, a, b] => plotB n p && rngD a b
      | _ => false)
    else match ds with
      | [x] => if w = "row" then rowD x else (decide (w = "then" ∨ w = "or") && match x with
        | .tuple ps => !ps.isEmpty && ps.all (plotB n)
        | _ => false)
      | _ => false
  | _ + 1, _ => false
/-- small things: no text is long, no tuple -/
def shortR : PyData → Prop
  | .tuple ds => ds.length ≤ 1000 ∧ ∀ d ∈ ds, shortT d
  | _ => True
def Small : Nat → PyData → Prop
  | 0, _ => False
  | n + 1, .tuple ds => ds.length ≤ 1000 ∧ (∀ d ∈ ds, shortD d ∧ shortR d) ∧ match ds with
    | .str w :: ds => if w = "again" then (match ds with
        | [p, _, _] => Small n p
        | _ => True)
      else if w = "row" then True else match ds with
        | [.tuple ps] => ps.length ≤ 1000 ∧ ∀ p ∈ ps, Small n p
        | _ => True
    | _ => True
  | _ + 1, _ => True
section
variable {P : Program} {w : World} {K : PySem.W.Frag} {mg : Str → Option Value} {base : Heap} {kA : Addr} (D : All K mg kA)
def rWhole : RB := fun as W k => ∃ d : PyData, as = [.d d] ∧ k (.d (.bool (wholeD d))) W
theorem scWh : FnScope ["thing"] ["thing"] (defScope sWhole) := ⟨rfl, rfl, rfl, by decide +kernel, rfl, by decide +kernel, by decide +kernel⟩
theorem okWhole : Fok P w base D.p_is_whole 1 rWhole := by
  refine fn_B D.p_is_whole.d.fn scWh (fun as W k ⟨d, e, _⟩ => by subst e; rfl) fun cdv A outer s H E hr F0 A0 as W k hcl ⟨d, e, hk⟩ => ?_
  subst e
  refine bs_one (bs_ret (be_and (be_isinst rfl D.T.t.isi b_isi rfl D.T.t.int_ b_int (by simp) (bv 0 rfl ⟨d, .inl rfl, _, rfl, ?_⟩))))
  cases d with
  | int n => exact iteT (be_one (be_not (be_isinst rfl D.T.t.isi b_isi rfl D.T.t.bool_ b_bool (by simp) (bv 0 rfl ⟨_, .inl rfl, _, rfl, hk⟩))))
  | bool b => exact iteT (be_one (be_not (be_isinst rfl D.T.t.isi b_isi rfl D.T.t.bool_ b_bool (by simp) (bv 0 rfl ⟨_, .inl rfl, _, rfl, hk⟩))))
  | none => exact iteF hk
  | str y => exact iteF hk
  | list y => exact iteF hk
  | tuple y => exact iteF hk
  | dict y => exact iteF hk
theorem okDeed : Fok P w base D.p_is_deed 2 rDeed := ok_deed D.p_is_deed.d.fn D.T D.p_is_name.d
def rIsRow : RB := fun as W k => ∃ d, as = [.d d] ∧ shortR d ∧ k (.d (.bool (rowD d))) W
theorem scIr : FnScope ["thing"] ["thing"] (defScope s_is_row) := ⟨rfl, rfl, rfl, by decide +kernel, rfl, by decide +kernel, by decide +kernel⟩
def cIr : Scope := match defBody s_is_row with
  | [.Return (some (.BoolOp _ [_, .Call _ [.ListComp _ _ sc _] _ _] _)) _] => sc
  | _ => noSc
theorem csIr : CmpScope ["thing"] (defScope s_is_row) ["part"] [] [] cIr := ⟨rfl, by decide +kernel, by decide +kernel, by decide +kernel, rfl, by decide +kernel⟩
theorem nd_part : (["part"] : List Str).Nodup := by decide +kernel
theorem okIsRow : Fok P w base D.p_is_row 3 rIsRow := by
  have N := okDeed (P := P) (w := w) (base := base) D
  refine fn_B D.p_is_row.d.fn scIr (fun as W k ⟨n, e, _⟩ => by subst e; rfl) fun cdv A outer s H E hr F0 A0 as W k hcl ⟨d, e, hs, hk⟩ => ?_
  subst e
  refine bs_one (bs_ret (be_and (be_isinst rfl D.T.t.isi b_isi rfl D.T.t.tuple_ b_tuple (by simp) (bv 0 rfl ⟨d, .inl rfl, _, rfl, ?_⟩))))
  cases d with
  | tuple ds =>
    refine iteT (be_one (be_callB rfl D.T.t.all_ b_all (ba_one (be_comp rfl csIr (bi_tup (bv 0 rfl ⟨ds, rfl, kc_map (fun d => .bool (deedD d)) trivial (small_le (by have := hs.1; omega)) (fun d hd => ?_) ?_⟩))))))
    · exact bgc_name (i := 0) nd_part rfl (by decide) (fun _ _ _ _ _ => Or.inl rfl) (fun _ _ _ _ _ => rfl) fun cl C ex s H => bc D.p_is_deed N hr (ba_one (bv 0 rfl ⟨d, rfl, hs.2 d hd, rfl, rfl⟩))
    · refine cb_all rfl (bs := ds.map deedD) (.inl (by rw [List.map_map]; rfl)) ?_
      rw [List.all_map]
      exact hk
  | _ => exact iteF hk
def rPlot (n : Nat) : RB := fun as W k => ∃ d, as = [.d d] ∧ Small n d ∧ k (.d (.bool (plotB n d))) W
def arePl (n : Nat) : PyData → Bool
  | .tuple ps => !ps.isEmpty && ps.all (plotB n)
  | _ => false
def rAre (n : Nat) : RB := fun as W k => ∃ d, as = [.d d] ∧ (∀ ps, d = .tuple ps → ps.length ≤ 1000 ∧ ∀ p ∈ ps, Small n p) ∧ k (.d (.bool (arePl n d))) W
def rAgain (n : Nat) : RB := fun as W k => ∃ ds : List PyData, as = [.d (.tuple (.str "again" :: ds))] ∧ (∀ p a b, ds = [p, a, b] → Small n p) ∧ k (.d (.bool (plotB (n + 1) (.tuple (.str "again" :: ds))))) W
def cAr : Scope := match defBody s_are_plots with
  | [.Return (some (.BoolOp _ [_, _, .Call _ [.ListComp _ _ sc _] _ _] _)) _] => sc
  | _ => noSc
theorem scAr : FnScope ["thing"] ["thing"] (defScope s_are_plots) := ⟨rfl, rfl, rfl, by decide +kernel, rfl, by decide +kernel, by decide +kernel⟩
theorem csAr : CmpScope ["thing"] (defScope s_are_plots) ["part"] [] [] cAr := ⟨rfl, by decide +kernel, by decide +kernel, by decide +kernel, rfl, by decide +kernel⟩
theorem are_core {n : Nat} (NP : Fok P w base D.p_is_plot (2 * n + 4) (rPlot n)) : Fok P w base D.p_are_plots (2 * n + 5) (rAre n) := by
  refine fn_B D.p_are_plots.d.fn scAr (fun as W k ⟨n, e, _⟩ => by subst e; rfl) fun cdv A outer s H E hr F0 A0 as W k hcl ⟨d, e, hs, hk⟩ => ?_
  subst e
  refine bs_one (bs_ret (be_and (be_isinst rfl D.T.t.isi b_isi rfl D.T.t.tuple_ b_tuple (by simp) (bv 0 rfl ⟨d, .inl rfl, _, rfl, ?_⟩))))
  cases d with
  | tuple ps =>
    obtain ⟨h1, h2⟩ := hs ps rfl
    refine iteT (be_and (be_cmp rfl (be_callB rfl D.T.t.len_ b_len (ba_one (bv 0 rfl (cb_lenT (be_int (ob_gt ⟨_, rfl, ?_⟩))))))))
    by_cases h0 : ps = []
    · subst h0
      exact iteF hk
    · have hp := List.length_pos_iff.mpr h0
      rw [decide_eq_true (by omega)]
      refine iteT (be_one (be_callB rfl D.T.t.all_ b_all (ba_one (be_comp rfl csAr (bi_tup (bv 0 rfl ⟨ps, rfl, kc_map (fun d => .bool (plotB n d)) trivial (small_le (by omega)) (fun d hd => ?_) ?_⟩))))))
      · exact bgc_name (i := 0) nd_part rfl (by decide) (fun _ _ _ _ _ => Or.inl rfl) (fun _ _ _ _ _ => rfl) fun cl C ex s H => bc D.p_is_plot NP hr (ba_one (bv 0 rfl ⟨d, rfl, h2 d hd, rfl, rfl⟩)) (by omega)
      · refine cb_all rfl (bs := ps.map (plotB n)) (.inl (by rw [List.map_map]; rfl)) ?_
        rw [List.all_map]
        have e : arePl n (.tuple ps) = ps.all (plotB n) := by
          show (!ps.isEmpty && _) = _
          rw [show ps.isEmpty = false by simpa using h0]
          rfl
        rw [e] at hk
        exact hk
  | _ => exact iteF hk
abbrev nAg : List Str := ["thing", "least", "most"]
theorem scAg : FnScope nAg ["thing"] (defScope s_is_again) := ⟨rfl, rfl, rfl, by decide +kernel, rfl, by decide +kernel, by decide +kernel⟩
theorem ndAg : nAg.Nodup := by decide +kernel
theorem rng_no {a b : PyData} (h : wholeD a = false ∨ wholeD b = false) : rngD a b = false := by
  rcases h with h | h
  · cases a <;> first | rfl | cases h
  · cases a <;> cases b <;> first | rfl | cases h
theorem whole_int {a : PyData} (h : wholeD a = true) : ∃ n, a = .int n := by cases a <;> first | exact ⟨_, rfl⟩ | cases h
theorem again_core {n : Nat} (NP : Fok P w base D.p_is_plot (2 * n + 4) (rPlot n)) : Fok P w base D.p_is_again (2 * n + 5) (rAgain n) := by
  have NW := okWhole (P := P) (w := w) (base := base) D
  obtain ⟨tm, htm⟩ := D.c_MOST_TIMES
  refine fn_B D.p_is_again.d.fn scAg (fun as W k ⟨t, e, _⟩ => by subst e; rfl) fun cdv A outer s H E hr F0 A0 as W k hcl ⟨ds, e, hs, hk⟩ => ?_
  subst e
  refine bs_cons (bs_if (BW.bt (bw_or (bt_cmp rfl (be_callB rfl D.T.t.len_ b_len (ba_one (bv 0 rfl (cb_lenT (be_int (ob_neI ⟨_, rfl, ?_⟩))))))))))
  by_cases h3 : ds.length = 3
  · obtain ⟨p, a, b, rfl⟩ : ∃ p a b, ds = [p, a, b] := by
      match ds, h3 with
      | [p, a, b], _ => exact ⟨p, a, b, rfl⟩
    have hsp := hs p a b rfl
    have e1 : plotB (n + 1) (.tuple [.str "again", p, a, b]) = (plotB n p && rngD a b) := by
      show (if ("again" : Str) = "again" then _ else _) = _
      rw [if_pos rfl]
    rw [e1] at hk
    rw [decide_eq_true (by rfl)]
    refine iteF (bw_or1 (bt_not (bt_val (bc D.p_is_plot NP hr (ba_one (be_ix (by intro _ _; rfl) (bv 0 rfl (be_int (ib_tup (d := p) rfl ⟨p, rfl, hsp, _, rfl, ?_⟩))))) (by omega)))))
    cases hp : plotB n p with
    | false =>
      rw [hp, Bool.false_and] at hk
      exact iteT (bs_one (bs_ret (be_bl hk)))
    | true =>
      rw [hp, Bool.true_and] at hk
      refine iteF (bs_nil ?_)
      refine bs_cons (bs_asg (be_slice (bv 0 rfl (bo_some (be_int ⟨_, rfl, bo_none (lb_tup (bg_tup (ds := [a, b]) rfl (.cons (i := 1) ndAg rfl (Or.inl rfl) (.cons (i := 2) ndAg rfl (Or.inl rfl) .nil)) rfl ?_))⟩)))))
      refine bs_one (bs_ret (be_andn (bc D.p_is_whole NW hr (ba_one (bv 1 rfl ⟨a, rfl, rfl, fun ha => ?_, fun ha => ?_⟩)) (by omega))))
      · refine be_andn (bc D.p_is_whole NW hr (ba_one (bv 2 rfl ⟨b, rfl, rfl, fun hb => ?_, fun hb => ?_⟩)) (by omega))
        · obtain ⟨i, rfl⟩ := whole_int ha
          obtain ⟨j, rfl⟩ := whole_int hb
          have hk : k (.d (.bool (decide (0 ≤ i) && (decide (i ≤ j) && decide (j ≤ 4))))) W := hk
          refine be_one (be_chain3g (be_int (bv 1 rfl (ob_le ⟨_, rfl, fun h => ?_, fun h => bv 2 rfl (ob_le ⟨_, rfl, fun h' => ?_, fun h' => gI htm (ob_le ?_)⟩)⟩))))
          · rw [h, Bool.false_and] at hk
            exact hk
          · rw [h, h', Bool.true_and, Bool.false_and] at hk
            exact hk
          · rw [h, h', Bool.true_and, Bool.true_and] at hk
            exact hk
        · rw [rng_no (.inr hb)] at hk
          exact hk
      · rw [rng_no (.inl ha)] at hk
        exact hk
  · rw [decide_eq_false (by simp only [List.length_cons]; omega)]
    have e1 : plotB (n + 1) (.tuple (.str "again" :: ds)) = false := by
      show (if ("again" : Str) = "again" then _ else _) = _
      rw [if_pos rfl]
      match ds, h3 with
      | [], _ => rfl
      | [_], _ => rfl
      | [_, _], _ => rfl
      | [_, _, _], h => exact absurd rfl h
      | _ :: _ :: _ :: _ :: _, _ => rfl
    rw [e1] at hk
    exact iteT (iteT (bs_one (bs_ret (be_bl hk))))
end
end K1
namespace K1
open PySem L2
theorem atI0 {α : Type} (x : α) (us : List α) : atI (x :: us) 0 = some x := atI_nat' (k := 0) rfl
theorem plotB_two {n : Nat} {x : Str} {ds : List PyData} (hx : ¬ x = "again") (h : ds.length ≠ 1) : plotB (n + 1) (.tuple (.str x :: ds)) = false := by
  show (if x = "again" then _ else _) = _
  rw [if_neg hx]
  match ds, h with
  | [], _ => rfl
  | [_], h => exact absurd rfl h
  | _ :: _ :: _, _ => rfl
theorem plotB_one {n : Nat} {x : Str} {d : PyData} (hx : ¬ x = "again") : plotB (n + 1) (.tuple [.str x, d]) = if x = "row" then rowD d else (decide (x = "then" ∨ x = "or") && arePl n d) := by
  show (if x = "again" then _ else _) = _
  rw [if_neg hx]
  by_cases hr : x = "row"
  · rw [if_pos hr]
    show (if x = "row" then _ else _) = _
    rw [if_pos hr]
  · rw [if_neg hr]
    show (if x = "row" then _ else _) = _
    rw [if_neg hr]
    cases d <;> rfl
section
variable {P : Program} {w : World} {K : PySem.W.Frag} {mg : Str → Option Value} {base : Heap} {kA : Addr} (D : All K mg kA)
theorem scPo : FnScope ["thing"] ["thing"] (defScope s_is_plot) := ⟨rfl, rfl, rfl, by decide +kernel, rfl, by decide +kernel, by decide +kernel⟩
theorem plot_core {n : Nat} (NA : ∀ m, n = m + 1 → Fok P w base D.p_are_plots (2 * m + 5) (rAre m)) (NG : ∀ m, n = m + 1 → Fok P w base D.p_is_again (2 * m + 5) (rAgain m)) : Fok P w base D.p_is_plot (2 * n + 4) (rPlot n) := by
  have NR := okIsRow (P := P) (w := w) (base := base) D
  refine fn_B D.p_is_plot.d.fn scPo (fun as W k ⟨t, e, _⟩ => by subst e; rfl) fun cdv A outer s H E hr F0 A0 as W k hcl ⟨d, e, hs, hk⟩ => ?_
  subst e
  cases n with
  | zero => exact hs.elim
  | succ m =>
  have NA := NA m rfl
  have NG := NG m rfl
  refine bs_cons (bs_if (BW.bt (bw_or (bt_not (bt_val (be_isinst rfl D.T.t.isi b_isi rfl D.T.t.tuple_ b_tuple (by simp) (bv 0 rfl ⟨d, .inl rfl, _, rfl, ?_⟩)))))))
  cases d with
  | tuple ds =>
    refine iteF (bw_or (bt_cmp rfl (be_callB rfl D.T.t.len_ b_len (ba_one (bv 0 rfl (cb_lenT (be_int (ob_eqI ⟨_, rfl, ?_⟩))))))))
    cases ds with
    | nil => exact iteT (iteT (bs_one (bs_ret (be_bl hk))))
    | cons a us =>
      rw [decide_eq_false (by rw [List.length_cons]; omega)]
      refine iteF (bw_or1 (bt_not (bt_val (be_isinst rfl D.T.t.isi b_isi rfl D.T.t.str_ b_str (by simp) (be_ix (by intro _ _; rfl) (bv 0 rfl (be_int (ib_tup (d := a) (atI0 _ _) ⟨a, .inl rfl, _, rfl, ?_⟩))))))))
      cases a with
      | str x =>
        refine iteF (bs_nil ?_)
        obtain ⟨s1, s2, s3⟩ := hs
        refine bs_cons (bs_if (bt_cmp rfl (be_ix (by intro _ _; rfl) (bv 0 rfl (be_int (ib_tup (d := .str x) (atI0 _ _) (be_str (ob_eqS ⟨_, rfl, ?_⟩))))))))
        by_cases hx : x = "again"
        · subst hx
          rw [decide_eq_true rfl]
          refine iteT (bs_one (bs_ret (bc D.p_is_again NG hr (ba_one (bv 0 rfl ⟨us, rfl, fun p a b e => ?_, hk⟩)) (by omega))))
          subst e
          have s3 : (if ("again" : Str) = "again" then Small m p else _) := s3
          rwa [if_pos rfl] at s3
        · rw [decide_eq_false hx]
          refine iteF (bs_nil (bs_cons (bs_if (bt_cmp rfl (be_callB rfl D.T.t.len_ b_len (ba_one (bv 0 rfl (cb_lenT (be_int (ob_neI ⟨_, rfl, ?_⟩)))))))))) 
          by_cases h1 : us.length = 1
          · obtain ⟨u, rfl⟩ := List.length_eq_one_iff.mp h1
            rw [decide_eq_true (by rfl)]
            rw [plotB_one hx] at hk
            refine iteF (bs_nil (bs_cons (bs_if (bt_cmp rfl (be_ix (by intro _ _; rfl) (bv 0 rfl (be_int (ib_tup (d := .str x) (atI0 _ _) (be_str (ob_eqS ⟨_, rfl, ?_⟩)))))))))) 
            by_cases hw : x = "row"
            · rw [decide_eq_true hw]
              rw [if_pos hw] at hk
              exact iteT (bs_one (bs_ret (bc D.p_is_row NR hr (ba_one (be_ix (by intro _ _; rfl) (bv 0 rfl (be_int (ib_tup (d := u) rfl ⟨u, rfl, (s2 u (by simp)).2, hk⟩))))) (by omega))))
            · rw [decide_eq_false hw]
              rw [if_neg hw] at hk
              refine iteF (bs_nil (bs_one (bs_ret (be_andn (be_cmp rfl (be_ix (by intro _ _; rfl) (bv 0 rfl (be_int (ib_tup (d := .str x) (atI0 _ _) (be_tup (ba_cons (be_str (ba_one (be_str ⟨[.str "then", .str "or"], rfl, (by show 2 ≤ sizeLine; decide), ob_inL (xs := ["then", "or"]) (.inr rfl) ⟨rfl, fun hin => ?_, fun hin => ?_⟩⟩)))))))))))))) 
              · have hin' : decide (x = "then" ∨ x = "or") = true := by
                  have := of_decide_eq_true hin
                  simpa using this
                rw [hin', Bool.true_and] at hk
                refine be_one (bc D.p_are_plots NA hr (ba_one (be_ix (by intro _ _; rfl) (bv 0 rfl (be_int (ib_tup (d := u) rfl ⟨u, rfl, fun ps e => ?_, hk⟩))))) (by omega))
                subst e
                have s3 : (if x = "again" then True else if x = "row" then True else ps.length ≤ 1000 ∧ ∀ p ∈ ps, Small m p) := s3
                rwa [if_neg hx, if_neg hw] at s3
              · have hin' : decide (x = "then" ∨ x = "or") = false := by
                  have := of_decide_eq_false hin
                  simpa using this
                rw [hin', Bool.false_and] at hk
                exact hk
          · rw [decide_eq_false (by rw [List.length_cons]; omega)]
            rw [plotB_two hx h1] at hk
            exact iteT (bs_one (bs_ret (be_bl hk)))
      | _ => exact iteT (bs_one (bs_ret (be_bl hk)))
  | _ => exact iteT (iteT (bs_one (bs_ret (be_bl hk))))
theorem okPlot : ∀ n, Fok P w base D.p_is_plot (2 * n + 4) (rPlot n)
  | 0 => plot_core D (fun m e => by omega) fun m e => by omega
  | n + 1 => plot_core D (fun m e => by
      obtain rfl : m = n := by omega
      exact are_core D (okPlot m)) fun m e => by
      obtain rfl : m = n := by omega
      exact again_core D (okPlot m)
end
end K1
namespace K1
open PySem L2
abbrev Row := List Deed
def addR (acc : List Row) (r : Row) : List Row := if r ∈ acc then acc else acc ++ [r]
def nub (l : List Row) : List Row := l.foldl addR []
def behL (a b : List Row) : List Row := a.flatMap fun f => b.map (f ++ ·)
def behR (a b : List Row) : List Row := nub (behL a b)
def prodN (l : List Nat) : Nat := l.foldl (· * ·) 1
theorem add_mem {acc : List Row} {r x : Row} : x ∈ addR acc r ↔ x ∈ acc ∨ x = r := by
  unfold addR
  split
  · exact ⟨.inl, fun h => h.elim id fun e => e ▸ ‹_›⟩
  · simp
theorem fold_mem (l : List Row) : ∀ (acc : List Row) (x : Row), x ∈ l.foldl addR acc ↔ x ∈ acc ∨ x ∈ l := by
  induction l with
  | nil => intro acc x; simp
  | cons r l ih => intro acc x; rw [List.foldl_cons, ih, add_mem]; simp [or_assoc]
theorem nub_mem {l : List Row} {x : Row} : x ∈ nub l ↔ x ∈ l := by unfold nub; rw [fold_mem]; simp
theorem nub_snoc (l : List Row) (r : Row) : nub (l ++ [r]) = addR (nub l) r := by unfold nub; rw [List.foldl_append]; rfl
theorem beh_len (a b : List Row) : (behL a b).length = a.length * b.length := by
  unfold behL
  induction a with
  | nil => simp
  | cons f a ih => rw [List.flatMap_cons, List.length_append, ih, List.length_map, List.length_cons, Nat.add_mul]; omega
theorem fold_app (l : List Row) : ∀ (acc : List Row), ∃ m, l.foldl addR acc = acc ++ m := by
  induction l with
  | nil => intro acc; exact ⟨[], by simp⟩
  | cons r l ih =>
    intro acc
    rw [List.foldl_cons]
    obtain ⟨m, e⟩ := ih (addR acc r)
    rw [e]
    unfold addR
    split
    · exact ⟨m, rfl⟩
    · exact ⟨r :: m, by simp⟩
theorem nub_mono (a b : List Row) : (nub a).length ≤ (nub (a ++ b)).length := by
  unfold nub
  rw [List.foldl_append]
  obtain ⟨m, e⟩ := fold_app b (a.foldl addR [])
  rw [e, List.length_append]
  omega
/-- rows that are taken: none of more than 24 deeds, of no more than 200 -/
def Okl (l : List Row) : Prop := (∀ r ∈ l, r.length ≤ 24) ∧ (nub l).length ≤ 200
theorem Okl.pre {a b : List Row} (h : Okl (a ++ b)) : Okl a := ⟨fun r hr => h.1 r (List.mem_append_left _ hr), Nat.le_trans (nub_mono a b) h.2⟩
def keyK (d : Deed) : List Key := [.inr d.kd, .inr d.x, .inr d.y, .inr d.w]
def keyRow (r : Row) : RowK := r.map keyK
theorem rowD_key (r : Row) : L2.rowD (keyRow r) = rP r := by
  unfold L2.rowD keyRow rP
  rw [List.map_map]
  rfl
theorem keyK_inj {a b : Deed} (h : keyK a = keyK b) : a = b := by
  obtain ⟨t, x, y, z⟩ := a
  obtain ⟨t', x', y', z'⟩ := b
  simp only [keyK, List.cons.injEq, Sum.inr.injEq, and_true] at h
  obtain ⟨h1, h2, h3, h4⟩ := h
  have := kd_inj h1
  simp only at this
  rw [this, h2, h3, h4]
theorem keyRow_inj : ∀ {a b : Row}, keyRow a = keyRow b → a = b
  | [], [], _ => rfl
  | [], _ :: _, h => by simp [keyRow] at h
  | _ :: _, [], h => by simp [keyRow] at h
  | x :: a, y :: b, h => by
    simp only [keyRow, List.map_cons, List.cons.injEq] at h
    rw [keyK_inj h.1, keyRow_inj (a := a) (b := b) h.2]
theorem put_key (rs : List Row) (r : Row) : putR (rs.map keyRow) (keyRow r) = (addR rs r).map keyRow := by
  unfold putR addR
  by_cases h : r ∈ rs
  · rw [if_pos h, if_pos (any_mem.mpr (List.mem_map.mpr ⟨r, h, rfl⟩))]
  · rw [if_neg h, if_neg, List.map_append]
    · rfl
    · intro z
      obtain ⟨s, hs, e⟩ := List.mem_map.mp (any_mem.mp z)
      exact h (keyRow_inj e ▸ hs)
def dR (P : Program) (w : World) (rs : List Row) : OD := .x (RowsP P w (rs.map keyRow))
def ls (rs : List Row) : OD := .lst (datas (rs.map rP))
theorem ls_key (rs : List Row) : OD.lst (datas ((rs.map keyRow).map L2.rowD)) = ls rs := by
  unfold ls
  rw [List.map_map]
  congr 2
  exact List.map_congr_left fun r _ => rowD_key r
theorem get_in {W V : Wl} {i : Nat} {o : OD} (h : W[i]? = some o) : (W ++ V)[i]? = some o := by
  rw [List.getElem?_append_left (List.getElem?_eq_some_iff.mp h).1]
  exact h
theorem get_lt {W : Wl} {i : Nat} {o : OD} (h : W[i]? = some o) : i < W.length := (List.getElem?_eq_some_iff.mp h).1
section
variable {P : Program} {w : World} {K : PySem.W.Frag} {mg : Str → Option Value} {base : Heap} {kA cT : Addr} (D : All K mg kA)
structure TxtX (K : PySem.W.Frag) (mg : Str → Option Value) (cT : Addr) : Prop where
  at_ : mg "TooMany" = some (.ref cT)
  ex : IsExc K cT
abbrev FokX {x : Str} {st : Stmt} {ps : List Str} (P : Program) (w : World) (base : Heap) (d : Fn K mg x st ps) (j : Nat) (R : RX) : Prop := FnOk P w K mg base (CXe P w) j d.f d.fd ps (spX K R)
theorem bcx {X : Bc} {S : Sl} {W : Wl} {k : KB} {R : RX} {j jj : Nat} {x : Str} {st : Stmt} {ps : List Str} {p pos : Pos} {e : Expr} {es : List Expr} (d : Fn X.K X.mg x st ps) (N : FnOk X.prog X.w X.K X.mg X.base (CXe X.prog X.w) j d.f d.fd ps (spX X.K R)) (xo : XOk X) (hr : Room jj X.A) (h : BA X S W (e :: es) fun as W1 => R as W1 k fun C W' => X.xk C S W') (hj : j ≤ jj := by decide) (hg : Gl X x := by rfl) (hdb : (x == ("__debug__" : Str)) = false := by decide)
    (he : starEach (e :: es) X.env = (false, eval e X.env) :: starEach es X.env := by rfl) (hpl : (backTo pos (starEach es X.env)).any (·.1) = false := by rfl) : BE X S W (.Call (.Name x p) (e :: es) [] pos) k :=
  be_callx N xo (hr.mono hj) d.d.at_ d.d.fn.kp d.d.bd h hg hdb he hpl
def rFind (P : Program) (w : World) (cT : Addr) : RX := fun as W k x => ∃ (j : Nat) (rs : List Row) (r : Row), as = [.o j, .d (rP r)] ∧ W[j]? = some (dR P w rs) ∧ rs.length ≤ 200 ∧ (r.length ≤ 24 → (addR rs r).length ≤ 200 → k (.d .none) (W.set j (dR P w (addR rs r)))) ∧ (¬ (r.length ≤ 24 ∧ (addR rs r).length ≤ 200) → x cT W ∧ ∀ o, x cT (W.set j o))
abbrev pFi : List Str := ["found", "row"]
theorem scFi : FnScope pFi pFi (defScope s_find_row) := ⟨rfl, rfl, rfl, by decide +kernel, rfl, by decide +kernel, by decide +kernel⟩
theorem okFind (TX : TxtX K mg cT) : FokX P w base D.p_find_row 1 (rFind P w cT) := by
  obtain ⟨td, hd⟩ := D.c_MOST_DEEDS
  obtain ⟨tr, hrw⟩ := D.c_MOST_ROWS
  refine fn_X D.p_find_row.d.fn scFi (fun as W k x ⟨j, rs, r, e, _⟩ => by subst e; rfl) fun X cdv A outer s H E xe F0 A0 as W k x hX hr hps xo hcl ⟨j, rs, r, e, hj, hl, h1, h2⟩ => ?_
  subst e
  subst hX
  refine bs_cons (bs_if (bt_cmp rfl (be_callB rfl D.T.t.len_ b_len (ba_one (bv 1 rfl (cb_lenT (gI hd (ob_gt ⟨_, rfl, ?_⟩))))))))
  by_cases h24 : r.length ≤ 24
  · rw [decide_eq_false (by rw [List.length_map]; omega)]
    refine iteF (bs_nil ?_)
    refine bs_cons (bs_asg (be_bl (bg_sub (bv 0 rfl (bv 1 rfl ?_)))))
    rw [← rowD_key r]
    refine sb_row hr.units hj (Nat.lt_of_lt_of_le (show _ < 1000 by rw [List.length_map]; omega) (small_le (by decide))) ?_
    rw [put_key]
    refine bs_cons (bs_if (bt_cmp rfl (be_callB rfl D.T.t.len_ b_len (ba_one (bv 0 rfl (cb_lenR (rs := (addR rs r).map keyRow) (by rw [List.getElem?_set_self (get_lt hj)]) (gI hrw (ob_gt ⟨_, rfl, ?_⟩))))))))
    by_cases h200 : (addR rs r).length ≤ 200
    · rw [decide_eq_false (by rw [List.length_map]; omega)]
      exact iteF (bs_nil (bs_nil (h1 h24 h200)))
    · rw [decide_eq_true (by rw [List.length_map]; omega)]
      exact iteT (bs_one (bs_raise xo rfl TX.ex TX.at_ (ba_one (be_str ⟨by show 1 ≤ sizeLine; decide, (h2 fun z => h200 z.2).2 _⟩))))
  · rw [decide_eq_true (by rw [List.length_map]; omega)]
    exact iteT (bs_one (bs_raise xo rfl TX.ex TX.at_ (ba_one (be_str ⟨by show 1 ≤ sizeLine; decide, (h2 fun z => h24 z.1).1⟩))))
def rEach (P : Program) (w : World) (cT : Addr) : RX := fun as W k x => ∃ (i j : Nat) (a b : List Row), as = [.o i, .o j] ∧ W[i]? = some (ls a) ∧ W[j]? = some (ls b) ∧ (∀ r ∈ a, r.length ≤ 24) ∧ (∀ r ∈ b, r.length ≤ 24) ∧ (Okl (behL a b) → k (.o (W.length + 1)) (W ++ [dR P w (behR a b), ls (behR a b)])) ∧ (¬ Okl (behL a b) → ∀ V, x cT (W ++ V))
abbrev pEa : List Str := ["firsts", "seconds"]
abbrev nEa : List Str := ["firsts", "seconds", "found", "first", "second"]
theorem scEa : FnScope nEa pEa (defScope s_each_behind) := ⟨rfl, rfl, rfl, by decide +kernel, rfl, by decide +kernel, by decide +kernel⟩
theorem ndEa : nEa.Nodup := by decide +kernel
theorem beh_snoc (a b : List Row) (f : Row) : behL (a ++ [f]) b = behL a b ++ b.map (f ++ ·) := by unfold behL; simp
theorem beh_pre {a b : List Row} {u v : Nat} {f : Row} (hf : a[u]? = some f) : ∃ m, behL a b = (behL (a.take u) b ++ (b.take v).map (f ++ ·)) ++ m := by
  refine ⟨(b.drop v).map (f ++ ·) ++ behL (a.drop (u + 1)) b, ?_⟩
  have e1 : a = a.take u ++ [f] ++ a.drop (u + 1) := by
    have h1 : a.take (u + 1) = a.take u ++ [f] := by rw [List.take_add_one, hf]; rfl
    rw [← h1, List.take_append_drop]
  have e2 : behL a b = behL (a.take u ++ [f]) b ++ behL (a.drop (u + 1)) b := by
    conv => lhs; rw [e1]
    unfold behL
    rw [List.flatMap_append]
  rw [e2, beh_snoc]
  conv => lhs; arg 1; arg 2; rw [← List.take_append_drop v b]
  rw [List.map_append]
  simp only [List.append_assoc]
theorem okEach (TX : TxtX K mg cT) : FokX P w base D.p_each_behind 2 (rEach P w cT) := by
  have N := okFind (P := P) (w := w) (base := base) D TX
  refine fn_X D.p_each_behind.d.fn scEa (fun as W k x ⟨i, j, a, b, e, _⟩ => by subst e; rfl) fun X cdv A outer s H E xe F0 A0 as W k x hX hr hps xo hcl ⟨i, j, a, b, e, hi, hj, fa, fb, h1, h2⟩ => ?_
  subst e
  subst hX
  have hi' : ∀ V, (W ++ V)[i]? = some (.lst (datas (a.map rP))) := fun V => get_in hi
  have hj' : ∀ V, (W ++ V)[j]? = some (.lst (datas (b.map rP))) := fun V => get_in hj
  have lta := get_lt hi
  have ltb := get_lt hj
  refine bs_cons (bs_set (i := 2) ndEa rfl (Or.inl rfl) (be_dnewR ?_))
  refine bs_cons (bs_for hps rfl (bi_own (bv 0 rfl ⟨i, a.map rP, rfl, hi' _, W.length, fun u S' W' => ∃ o3 o4, S' = [some (.o i), some (.o j), some (.o W.length), o3, o4] ∧ W' = W ++ [dR P w (nub (behL (a.take u) b))] ∧ Okl (behL (a.take u) b), Nat.le_refl _, lta, by simp, ⟨none, none, rfl, rfl, ⟨by simp [behL], by simp [behL, nub]⟩⟩, fun u S' W' _ ⟨o3, o4, _, e, _⟩ => by rw [e]; exact hi' _, ?_, ?_⟩)))
  · rintro u z S' W' hz ⟨o3, o4, rfl, rfl, hok⟩
    rw [List.getElem?_map] at hz
    obtain ⟨f, hf, rfl⟩ := Option.map_eq_some_iff.mp hz
    have hts : a.take (u + 1) = a.take u ++ [f] := by rw [List.take_add_one, hf]; rfl
    refine bg_name (i := 3) ndEa rfl (Or.inl rfl) ?_
    refine bs_one (bs_for hps rfl (bi_own (bv 1 rfl ⟨j, b.map rP, rfl, hj' _, W.length, fun v S' W' => ∃ o4, S' = [some (.o i), some (.o j), some (.o W.length), some (.d (rP f)), o4] ∧ W' = W ++ [dR P w (nub (behL (a.take u) b ++ (b.take v).map (f ++ ·)))] ∧ Okl (behL (a.take u) b ++ (b.take v).map (f ++ ·)), Nat.le_refl _, ltb, by simp, ⟨_, rfl, by simp, by simpa using hok⟩, fun v S' W' _ ⟨o4, _, e, _⟩ => by rw [e]; exact hj' _, ?_, ?_⟩)))
    · rintro v z S' W' hz ⟨o4, rfl, rfl, hok⟩
      rw [List.getElem?_map] at hz
      obtain ⟨g, hg, rfl⟩ := Option.map_eq_some_iff.mp hz
      have f1 := fa f (List.mem_of_getElem? hf)
      have g1 := fb g (List.mem_of_getElem? hg)
      have et : (b.take (v + 1)).map (f ++ ·) = (b.take v).map (f ++ ·) ++ [f ++ g] := by rw [List.take_add_one, hg, List.map_append]; rfl
      obtain ⟨m, em⟩ := beh_pre (b := b) (v := v + 1) hf
      rw [et, ← List.append_assoc] at em
      refine bg_name (i := 4) ndEa rfl (Or.inl rfl) ?_
      refine bs_one (bs_expr (bcx D.p_find_row N xo hr (ba_cons (bv 2 rfl (ba_one (be_op (bv 3 rfl (bv 4 rfl (ob_catt (by rw [List.length_map, List.length_map]; exact small_le (by omega)) ⟨W.length, _, f ++ g, by rw [← List.map_append]; rfl, get_last, hok.2, fun l24 l200 => ?_, fun hno => ?_⟩))))))))) 
      · rw [← nub_snoc] at l200
        rw [set_last, ← nub_snoc]
        refine ⟨_, rfl, by rw [et, List.append_assoc], ?_⟩
        rw [et, ← List.append_assoc]
        refine ⟨fun r hr => ?_, l200⟩
        rcases List.mem_append.mp hr with h | h
        · exact hok.1 r h
        · simp at h
          rw [h]
          exact l24
      · have hbad : ¬ Okl (behL a b) := fun h => by
          rw [em] at h
          have h' := h.pre
          refine hno ⟨h'.1 (f ++ g) (by simp), ?_⟩
          rw [← nub_snoc]
          exact h'.2
        refine ⟨h2 hbad _, fun o => ?_⟩
        rw [set_last]
        exact h2 hbad _
    · rintro S' W' ⟨o4, rfl, rfl, hok⟩
      rw [List.length_map, List.take_length, ← beh_snoc, ← hts] at hok ⊢
      exact ⟨_, _, rfl, rfl, hok⟩
  · rintro S' W' ⟨o3, o4, rfl, rfl, hok⟩
    rw [List.length_map, List.take_length] at hok ⊢
    refine bs_one (bs_ret (be_callT rfl D.T.t.list_ b_list (ba_one (bv 2 rfl (cb_listR rfl get_last ?_)))))
    rw [ls_key, List.length_append, List.append_assoc]
    exact h1 hok
end
end K1
namespace K1
open PySem L2
theorem bs_then {X : Bc} {n : Nat} {S : Sl} {W : Wl} {D : DB} {st : Stmt} {rest : List Stmt} (Q : Sl → Wl → Prop) (h : BS X n S W st { D with nx := Q }) (h2 : ∀ S' W', Q S' W' → BSs X n S' W' rest D) : BSs X n S W (st :: rest) D :=
  bs_cons fun pins s σ H E I ⟨F, A, hn, x0, r, sr, q⟩ => h pins s σ H E I ⟨F, A, hn, x0, r, sr, ⟨fun F' A' W' H' S' σ' x r' sr' z => q.nx F' A' W' H' S' σ' x r' sr' (h2 S' W' z), q.bk, q.ct, q.rt⟩⟩
theorem get_two {W : Wl} {x y : OD} : (W ++ [x, y])[W.length + 1]? = some y := by simp
open Classical in
/-- one list of rows behind another, where that is let -/
noncomputable def stepO (a b : List Row) : Option (List Row) := if Okl (behL a b) then some (behR a b) else none
open Classical in
noncomputable def orO (l : List Row) : Option (List Row) := if Okl l then some (nub l) else none
theorem stepO_some {a b c : List Row} (h : stepO a b = some c) : Okl (behL a b) ∧ c = behR a b := by
  unfold stepO at h
  split at h
  · exact ⟨by assumption, (Option.some.inj h).symm⟩
  · cases h
theorem orO_some {l c : List Row} (h : orO l = some c) : Okl l ∧ c = nub l := by
  unfold orO at h
  split at h
  · exact ⟨by assumption, (Option.some.inj h).symm⟩
  · cases h
theorem orO_pos {l : List Row} (h : Okl l) : orO l = some (nub l) := by unfold orO; rw [if_pos h]
theorem orO_neg {l : List Row} (h : ¬ Okl l) : orO l = none := by unfold orO; rw [if_neg h]
theorem stepO_pos {a b : List Row} (h : Okl (behL a b)) : stepO a b = some (behR a b) := by unfold stepO; rw [if_pos h]
theorem stepO_neg {a b : List Row} (h : ¬ Okl (behL a b)) : stepO a b = none := by unfold stepO; rw [if_neg h]
theorem Okl.nub {l : List Row} (h : Okl l) : ∀ r ∈ nub l, r.length ≤ 24 := fun r hr => h.1 r (nub_mem.mp hr)
section
variable {P : Program} {w : World} {K : PySem.W.Frag} {mg : Str → Option Value} {base : Heap} {kA cT : Addr} (D : All K mg kA)
def rOr (P : Program) (w : World) (cT : Addr) : RX := fun as W k x => ∃ (j : Nat) (L : List (Nat × List Row)), as = [.o j] ∧ W[j]? = some (.lst (L.map fun e => .o e.1)) ∧ (∀ e ∈ L, W[e.1]? = some (ls e.2)) ∧ (Okl (L.flatMap (·.2)) → k (.o (W.length + 1)) (W ++ [dR P w (nub (L.flatMap (·.2))), ls (nub (L.flatMap (·.2)))])) ∧ (¬ Okl (L.flatMap (·.2)) → ∀ V, x cT (W ++ V))
abbrev nOr : List Str := ["parts", "found", "rows", "row"]
theorem scOr : FnScope nOr ["parts"] (defScope s_rows_or) := ⟨rfl, rfl, rfl, by decide +kernel, rfl, by decide +kernel, by decide +kernel⟩
theorem ndOr : nOr.Nodup := by decide +kernel
theorem flat_pre {L : List (Nat × List Row)} {u v : Nat} {e : Nat × List Row} (he : L[u]? = some e) : ∃ m, L.flatMap (·.2) = ((L.take u).flatMap (·.2) ++ e.2.take v) ++ m := by
  refine ⟨e.2.drop v ++ (L.drop (u + 1)).flatMap (·.2), ?_⟩
  have e1 : L = L.take u ++ [e] ++ L.drop (u + 1) := by
    have h1 : L.take (u + 1) = L.take u ++ [e] := by rw [List.take_add_one, he]; rfl
    rw [← h1, List.take_append_drop]
  conv => lhs; rw [e1]
  rw [List.flatMap_append, List.flatMap_append]
  have e2 : ([e] : List (Nat × List Row)).flatMap (·.2) = e.2.take v ++ e.2.drop v := by simp
  rw [e2]
  simp only [List.append_assoc]
theorem okOr (TX : TxtX K mg cT) : FokX P w base D.p_rows_or 2 (rOr P w cT) := by
  have N := okFind (P := P) (w := w) (base := base) D TX
  refine fn_X D.p_rows_or.d.fn scOr (fun as W k x ⟨j, L, e, _⟩ => by subst e; rfl) fun X cdv A outer s H E xe F0 A0 as W k x hX hr hps xo hcl ⟨j, L, e, hj, hL, h1, h2⟩ => ?_
  subst e
  subst hX
  refine bs_cons (bs_set (i := 1) ndOr rfl (Or.inl rfl) (be_dnewR ?_))
  refine bs_cons (bs_forO hps rfl (bv 0 rfl ⟨j, L.map fun e => .o e.1, W.length, fun u S' W' => ∃ o2 o3, S' = [some (.o j), some (.o W.length), o2, o3] ∧ W' = W ++ [dR P w (nub ((L.take u).flatMap (·.2)))] ∧ Okl ((L.take u).flatMap (·.2)), rfl, Nat.le_refl _, get_lt hj, by simp, ⟨none, none, rfl, rfl, ⟨by simp, by simp [nub]⟩⟩, fun u S' W' _ ⟨o3, o4, _, e, _⟩ => by rw [e]; exact get_in hj, ?_, ?_⟩))
  · rintro u z S' W' hz ⟨o2, o3, rfl, rfl, hok⟩
    rw [List.getElem?_map] at hz
    obtain ⟨e, he, rfl⟩ := Option.map_eq_some_iff.mp hz
    have hem := List.mem_of_getElem? he
    have hts : (L.take (u + 1)).flatMap (·.2) = (L.take u).flatMap (·.2) ++ e.2 := by rw [List.take_add_one, he, List.flatMap_append]; simp
    refine bg_name (i := 2) ndOr rfl (Or.inl rfl) ?_
    refine bs_one (bs_for hps rfl (bi_own (bv 2 rfl ⟨e.1, e.2.map rP, rfl, get_in (hL e hem), W.length, fun v S' W' => ∃ o3, S' = [some (.o j), some (.o W.length), some (.o e.1), o3] ∧ W' = W ++ [dR P w (nub ((L.take u).flatMap (·.2) ++ e.2.take v))] ∧ Okl ((L.take u).flatMap (·.2) ++ e.2.take v), Nat.le_refl _, get_lt (hL e hem), by simp, ⟨_, rfl, by simp, by simpa using hok⟩, fun v S' W' _ ⟨o3, _, e', _⟩ => by rw [e']; exact get_in (hL e hem), ?_, ?_⟩)))
    · rintro v z S' W' hz ⟨o3, rfl, rfl, hok⟩
      rw [List.getElem?_map] at hz
      obtain ⟨g, hg, rfl⟩ := Option.map_eq_some_iff.mp hz
      have et : e.2.take (v + 1) = e.2.take v ++ [g] := by rw [List.take_add_one, hg]; rfl
      obtain ⟨m, em⟩ := flat_pre (v := v + 1) he
      rw [et, ← List.append_assoc] at em
      refine bg_name (i := 3) ndOr rfl (Or.inl rfl) ?_
      refine bs_one (bs_expr (bcx D.p_find_row N xo hr (ba_cons (bv 1 rfl (ba_one (bv 3 rfl ⟨W.length, _, g, rfl, get_last, hok.2, fun l24 l200 => ?_, fun hno => ?_⟩))))))
      · rw [← nub_snoc] at l200
        rw [set_last, ← nub_snoc]
        refine ⟨_, rfl, by rw [et, List.append_assoc], ?_⟩
        rw [et, ← List.append_assoc]
        refine ⟨fun r hr => ?_, l200⟩
        rcases List.mem_append.mp hr with h | h
        · exact hok.1 r h
        · simp at h
          rw [h]
          exact l24
      · have hbad : ¬ Okl (L.flatMap (·.2)) := fun h => by
          rw [em] at h
          have h' := h.pre
          refine hno ⟨h'.1 g (by simp), ?_⟩
          rw [← nub_snoc]
          exact h'.2
        refine ⟨h2 hbad _, fun o => ?_⟩
        rw [set_last]
        exact h2 hbad _
    · rintro S' W' ⟨o3, rfl, rfl, hok⟩
      rw [List.length_map, List.take_length, ← hts] at hok ⊢
      exact ⟨_, _, rfl, rfl, hok⟩
  · rintro S' W' ⟨o2, o3, rfl, rfl, hok⟩
    rw [List.length_map, List.take_length] at hok ⊢
    refine bs_one (bs_ret (be_callT rfl D.T.t.list_ b_list (ba_one (bv 1 rfl (cb_listR rfl get_last ?_)))))
    rw [ls_key, List.length_append, List.append_assoc]
    exact h1 hok
noncomputable def thenO (L : List (List Row)) : Option (List Row) := L.foldl (fun a b => a.bind fun x => stepO x b) (some [[]])
theorem thenO_snoc (L : List (List Row)) (b : List Row) : thenO (L ++ [b]) = (thenO L).bind fun x => stepO x b := by unfold thenO; rw [List.foldl_append]; rfl
theorem foldO_none : ∀ (L : List (List Row)), L.foldl (fun (a : Option (List Row)) b => a.bind fun x => stepO x b) none = none
  | [] => rfl
  | _ :: L => foldO_none L
theorem thenO_pre {L : List (List Row)} {u : Nat} (h : thenO (L.take u) = none) : thenO L = none := by
  rw [← List.take_append_drop u L]
  unfold thenO at h ⊢
  rw [List.foldl_append, h]
  exact foldO_none _
def rThen (cT : Addr) : RX := fun as W k x => ∃ (j : Nat) (L : List (Nat × List Row)), as = [.o j] ∧ W[j]? = some (.lst (L.map fun e => .o e.1)) ∧ (∀ e ∈ L, W[e.1]? = some (ls e.2)) ∧ (∀ e ∈ L, ∀ r ∈ e.2, r.length ≤ 24) ∧ (∀ out, thenO (L.map (·.2)) = some out → ∀ V q, W.length ≤ q → (W ++ V)[q]? = some (ls out) → k (.o q) (W ++ V)) ∧ (thenO (L.map (·.2)) = none → ∀ V, x cT (W ++ V))
abbrev nTh : List Str := ["parts", "told", "rows"]
theorem scTh : FnScope nTh ["parts"] (defScope s_rows_then) := ⟨rfl, rfl, rfl, by decide +kernel, rfl, by decide +kernel, by decide +kernel⟩
theorem ndTh : nTh.Nodup := by decide +kernel
theorem okThen (TX : TxtX K mg cT) : FokX P w base D.p_rows_then 3 (rThen cT) := by
  have N := okEach (P := P) (w := w) (base := base) D TX
  refine fn_X D.p_rows_then.d.fn scTh (fun as W k x ⟨j, L, e, _⟩ => by subst e; rfl) fun X cdv A outer s H E xe F0 A0 as W k x hX hr hps xo hcl ⟨j, L, e, hj, hL, hs, h1, h2⟩ => ?_
  subst e
  subst hX
  refine bs_cons (bs_set (i := 1) ndTh rfl (Or.inl rfl) (be_lstO (ba_one (be_tup (ba_nil ⟨[], rfl, Nat.zero_le _, (by show 1 ≤ sizeLine; decide), ?_⟩)))))
  refine bs_cons (bs_forO hps rfl (bv 0 rfl ⟨j, L.map fun e => .o e.1, W.length, fun u S' W' => ∃ V q o2 acc, S' = [some (.o j), some (.o q), o2] ∧ W' = W ++ V ∧ W.length ≤ q ∧ (W ++ V)[q]? = some (ls acc) ∧ thenO ((L.take u).map (·.2)) = some acc ∧ ∀ r ∈ acc, r.length ≤ 24, rfl, Nat.le_refl _, get_lt hj, by simp, ⟨[_], W.length, none, [[]], rfl, rfl, Nat.le_refl _, get_last, rfl, by simp⟩, fun u S' W' _ ⟨V, q, o2, acc, _, e, _⟩ => by rw [e]; exact get_in hj, ?_, ?_⟩))
  · rintro u z S' W' hz ⟨V, q, o2, acc, rfl, rfl, hql, hq, hacc, h24⟩
    rw [List.getElem?_map] at hz
    obtain ⟨e, he, rfl⟩ := Option.map_eq_some_iff.mp hz
    have hem := List.mem_of_getElem? he
    have hts : (L.take (u + 1)).map (·.2) = (L.take u).map (·.2) ++ [e.2] := by rw [List.take_add_one, he, List.map_append]; rfl
    have hstep : thenO ((L.take (u + 1)).map (·.2)) = stepO acc e.2 := by rw [hts, thenO_snoc, hacc]; rfl
    refine bg_name (i := 2) ndTh rfl (Or.inl rfl) ?_
    refine bs_one (bs_set (i := 1) ndTh rfl (Or.inl rfl) (bcx D.p_each_behind N xo hr (ba_cons (bv 1 rfl (ba_one (bv 2 rfl ⟨q, e.1, acc, e.2, rfl, hq, get_in (hL e hem), h24, hs e hem, fun hok => ?_, fun hno V' => ?_⟩))))))
    · refine ⟨V ++ [_, _], _, _, behR acc e.2, rfl, by rw [List.append_assoc], by rw [List.length_append]; omega, ?_, by rw [hstep, stepO_pos hok], hok.nub⟩
      rw [← List.append_assoc]
      exact get_two
    · rw [List.append_assoc]
      refine h2 (thenO_pre (u := u + 1) ?_) _
      rw [← List.map_take, hstep, stepO_neg hno]
  · rintro S' W' ⟨V, q, o2, acc, rfl, rfl, hql, hq, hacc, h24⟩
    rw [List.length_map, List.take_length] at hacc
    exact bs_one (bs_ret (bv 1 rfl (h1 acc hacc V q hql hq)))
end
end K1
namespace K1
open PySem L2
theorem range_len (n : Nat) : (rangeD 0 n).length = n := by unfold rangeD; rw [List.length_map, List.length_range]
noncomputable def powO (rs : List Row) : Nat → Option (List Row)
  | 0 => some [[]]
  | t + 1 => (powO rs t).bind fun x => stepO x rs
noncomputable def flatO (rs : List Row) (a : Nat) : Nat → Option (List Row)
  | 0 => some []
  | n + 1 => (flatO rs a n).bind fun l => (powO rs n).bind fun p => some (if a ≤ n then l ++ p else l)
noncomputable def againO (rs : List Row) (a b : Nat) : Option (List Row) := (flatO rs a (b + 1)).bind orO
theorem flatO_none {rs : List Row} {a t : Nat} (h : powO rs t = none) : ∀ {n : Nat}, t < n → flatO rs a n = none
  | n + 1, hn => by
    unfold flatO
    by_cases e : t = n
    · subst e
      rw [h]
      cases flatO rs a t <;> rfl
    · rw [flatO_none h (n := n) (by omega)]
      rfl
section
variable {P : Program} {w : World} {K : PySem.W.Frag} {mg : Str → Option Value} {base : Heap} {kA cT : Addr} (D : All K mg kA)
def rAgn (cT : Addr) : RX := fun as W k x => ∃ (j : Nat) (rs : List Row) (a b : Nat), as = [.o j, .d (.int a), .d (.int b)] ∧ W[j]? = some (ls rs) ∧ (∀ r ∈ rs, r.length ≤ 24) ∧ b ≤ 4 ∧ (∀ out, againO rs a b = some out → ∀ V q, W.length ≤ q → (W ++ V)[q]? = some (ls out) → k (.o q) (W ++ V)) ∧ (againO rs a b = none → ∀ V, x cT (W ++ V))
abbrev pAn : List Str := ["rows", "least", "most"]
abbrev nAn : List Str := ["rows", "least", "most", "told", "now", "times"]
theorem scAn : FnScope nAn pAn (defScope s_rows_again) := ⟨rfl, rfl, rfl, by decide +kernel, rfl, by decide +kernel, by decide +kernel⟩
theorem ndAn : nAn.Nodup := by decide +kernel
abbrev sAn (j a b : Nat) (W : Wl) (q : Nat) (o5 : Option El) : Sl := [some (.o j), some (.d (.int a)), some (.d (.int b)), some (.o W.length), some (.o q), o5]
structure Agn (W V : Wl) (rs : List Row) (a t q : Nat) (L : List (Nat × List Row)) (x : Nat) (pw : List Row) : Prop where
  told : (W ++ V)[W.length]? = some (.lst (L.map fun e => .o e.1))
  obj : ∀ e ∈ L, (W ++ V)[e.1]? = some (ls e.2) ∧ W.length < e.1
  now : (W ++ V)[q]? = some (ls pw) ∧ W.length < q
  pow : powO rs x = some pw
  le : ∀ r ∈ pw, r.length ≤ 24
  flat : flatO rs a t = some (L.flatMap (·.2))
theorem Agn.grow {W V : Wl} {rs : List Row} {a t q x : Nat} {L : List (Nat × List Row)} {pw : List Row} (h : Agn W V rs a t q L x pw) (U : Wl) (q' x' : Nat) (pw' : List Row) (hq : (W ++ (V ++ U))[q']? = some (ls pw') ∧ W.length < q') (hp : powO rs x' = some pw') (hl : ∀ r ∈ pw', r.length ≤ 24) : Agn W (V ++ U) rs a t q' L x' pw' := by
  refine ⟨?_, fun e he => ⟨?_, (h.obj e he).2⟩, hq, hp, hl, h.flat⟩
  · rw [← List.append_assoc]; exact get_in h.told
  · rw [← List.append_assoc]; exact get_in (h.obj e he).1
theorem okAgain (TX : TxtX K mg cT) : FokX P w base D.p_rows_again 3 (rAgn cT) := by
  have N := okEach (P := P) (w := w) (base := base) D TX
  have NO := okOr (P := P) (w := w) (base := base) D TX
  refine fn_X D.p_rows_again.d.fn scAn (fun as W k x ⟨j, rs, a, b, e, _⟩ => by subst e; rfl) fun X cdv A outer s H E xe F0 A0 as W k x hX hr hps xo hcl ⟨j, rs, a, b, e, hj, h24, hb, h1, h2⟩ => ?_
  subst e
  subst hX
  refine bs_cons (bs_set (i := 3) ndAn rfl (Or.inl rfl) (be_lstO (ba_nil ⟨Nat.zero_le _, ?_⟩)))
  refine bs_cons (bs_set (i := 4) ndAn rfl (Or.inl rfl) (be_lstO (ba_one (be_tup (ba_nil ⟨[], rfl, Nat.zero_le _, (by show 1 ≤ sizeLine; decide), ?_⟩)))))
  refine bs_cons (bs_for hps rfl (bi_range1 rfl D.T.t.range_ (be_op (bv 2 rfl (be_int (ob_add ⟨_, rfl, by omega, by omega, W.length, fun t S' W' => ∃ V q o5 L pw, S' = sAn j a b W q o5 ∧ W' = W ++ V ∧ Agn W V rs a t q L (t - 1) pw ∧ L.length ≤ t, Nat.le_refl _, Nat.zero_le _, by simp, ⟨[.lst [], ls [[]]], W.length + 1, none, [], [[]], by rw [List.length_append]; rfl, by simp [ls, rP, datas], ⟨by simp, by simp, ⟨by simp, by omega⟩, rfl, by simp, rfl⟩, Nat.le_refl _⟩, fun _ _ _ _ _ => trivial, ?_, ?_⟩))))))
  · rintro t z S' W' hz ⟨V, q, o5, L, pw, rfl, rfl, G, hLl⟩
    rw [show ((b : Int) + 1).toNat = b + 1 by omega] at hz
    have ht : t < b + 1 := by have := (List.getElem?_eq_some_iff.mp hz).1; rw [range_len] at this; exact this
    obtain rfl : z = .int (t : Int) := by
      unfold rangeD at hz
      rw [List.getElem?_map, List.getElem?_range ht] at hz
      simpa using hz.symm
    refine bg_name (i := 5) ndAn rfl (Or.inl rfl) ?_
    refine bs_then (fun S' W' => ∃ V q pw, S' = sAn j a b W q (some (.d (.int (t : Int)))) ∧ W' = W ++ V ∧ Agn W V rs a t q L t pw) (bs_if (bt_cmp rfl (bv 5 rfl (be_int (ob_gt ⟨_, rfl, ?_⟩))))) ?_
    · by_cases h0 : t = 0
      · subst h0
        exact iteF (bs_nil ⟨V, q, pw, rfl, rfl, G⟩)
      · rw [decide_eq_true (by omega)]
        obtain ⟨x', rfl⟩ : ∃ x', t = x' + 1 := ⟨t - 1, by omega⟩
        rw [Nat.add_sub_cancel] at G
        have hp : powO rs (x' + 1) = stepO pw rs := by
          show (powO rs x').bind _ = _
          rw [G.pow]
          rfl
        refine iteT (bs_one (bs_set (i := 4) ndAn rfl (Or.inl rfl) (bcx D.p_each_behind N xo hr (ba_cons (bv 4 rfl (ba_one (bv 0 rfl ⟨q, j, pw, rs, rfl, G.now.1, get_in hj, G.le, h24, fun hok => ?_, fun hno V' => ?_⟩)))))))
        · refine ⟨V ++ [_, _], _, behR pw rs, rfl, by rw [List.append_assoc], G.grow _ _ (x' + 1) _ ⟨?_, by rw [List.length_append]; omega⟩ (by rw [hp, stepO_pos hok]) hok.nub⟩
          rw [← List.append_assoc]
          exact get_two
        · rw [List.append_assoc]
          refine h2 ?_ _
          unfold againO
          rw [flatO_none (t := x' + 1) (by rw [hp, stepO_neg hno]) ht]
          rfl
    · rintro S2 W2 ⟨V2, q2, pw2, rfl, rfl, G2⟩
      have hfl : flatO rs a (t + 1) = some (if a ≤ t then L.flatMap (·.2) ++ pw2 else L.flatMap (·.2)) := by
        show (flatO rs a t).bind _ = _
        rw [G2.flat]
        show (powO rs t).bind _ = _
        rw [G2.pow]
        rfl
      refine bs_one (bs_if (bt_cmp rfl (bv 5 rfl (bv 1 rfl (ob_ge ⟨_, rfl, ?_⟩)))))
      by_cases hat : a ≤ t
      · rw [decide_eq_true (by omega)]
        rw [if_pos hat] at hfl
        refine iteT (bs_one (bs_expr (be_bm PySem.F.plainAttrs_list PySem.F.slot_list_append PySem.F.type_list_append (bv 3 rfl ⟨.inl ⟨rfl, _, G2.told⟩, ba_one (bv 4 rfl (mb_append G2.told (Nat.lt_of_lt_of_le (show _ < 100 by rw [List.length_map]; omega) (small_le (by decide))) ?_))⟩))))
        have hset : ∀ o, (W ++ V2).set W.length o = W ++ V2.set 0 o := fun o => by rw [List.set_append_right _ _ (Nat.le_refl _), Nat.sub_self]
        have keep : ∀ {i : Nat} {o u : OD}, W.length < i → (W ++ V2)[i]? = some u → (W ++ V2.set 0 o)[i]? = some u := fun {i o u} hi h => by
          rw [← hset, List.getElem?_set_ne (by omega)]
          exact h
        rw [hset]
        refine ⟨V2.set 0 _, q2, _, L ++ [(q2, pw2)], pw2, rfl, rfl, ⟨?_, fun e he => ?_, ⟨keep G2.now.2 G2.now.1, G2.now.2⟩, G2.pow, G2.le, ?_⟩, by simp; omega⟩
        · rw [← hset, List.getElem?_set_self (get_lt G2.told)]
          simp
        · rcases List.mem_append.mp he with he | he
          · exact ⟨keep (G2.obj e he).2 (G2.obj e he).1, (G2.obj e he).2⟩
          · cases List.mem_singleton.mp he
            exact ⟨keep G2.now.2 G2.now.1, G2.now.2⟩
        · rw [List.flatMap_append, hfl]
          simp
      · rw [decide_eq_false (by omega)]
        rw [if_neg hat] at hfl
        exact iteF (bs_nil ⟨V2, q2, _, L, pw2, rfl, rfl, ⟨G2.told, G2.obj, G2.now, G2.pow, G2.le, hfl⟩, by omega⟩)
  · rintro S' W' ⟨V, q, o5, L, pw, rfl, rfl, G, hLl⟩
    have hfl := G.flat
    rw [show (rangeD 0 ((b : Int) + 1).toNat).length = b + 1 by rw [range_len]; omega] at hfl
    have hag : againO rs a b = orO (L.flatMap (·.2)) := by
      unfold againO
      rw [hfl]
      rfl
    refine bs_one (bs_ret (bcx D.p_rows_or NO xo hr (ba_one (bv 3 rfl ⟨W.length, L, rfl, G.told, fun e he => (G.obj e he).1, fun hok => ?_, fun hno V' => ?_⟩))))
    · rw [List.append_assoc]
      refine h1 _ (by rw [hag, orO_pos hok]) _ _ (by rw [List.length_append]; omega) ?_
      rw [← List.append_assoc]
      exact get_two
    · rw [List.append_assoc]
      exact h2 (by rw [hag, orO_neg hno]) _
end
end K1
namespace K1
open PySem L2
/-- a plot and its rows, where they are let -/
structure Pt where
  p : PyData
  o : Option (List Row)
def wordS (o : Bool) : Str := if o then "or" else "then"
def allO : List Pt → Option (List (List Row))
  | [] => some []
  | t :: ts => t.o.bind fun r => (allO ts).map (r :: ·)
noncomputable def rowP (ds : Row) : Pt := ⟨.tuple [.str "row", rP ds], orO [ds]⟩
noncomputable def agP (t : Pt) (a b : Nat) : Pt := ⟨.tuple [.str "again", t.p, .int a, .int b], t.o.bind fun rs => againO rs a b⟩
noncomputable def manyP (o : Bool) (ps : List Pt) : Pt := ⟨.tuple [.str (wordS o), .tuple (ps.map (·.p))], (allO ps).bind fun L => if o then orO L.flatten else thenO L⟩
inductive PR : Nat → Pt → Prop
  | row {n : Nat} {ds : Row} : (∀ d ∈ ds, d.Ok) → ds.length ≤ 100 → PR n (rowP ds)
  | again {n : Nat} {t : Pt} {a b : Nat} : PR n t → a ≤ b → b ≤ 4 → PR (n + 1) (agP t a b)
  | many {n : Nat} {o : Bool} {ps : List Pt} : ps ≠ [] → ps.length ≤ 30 → (∀ t ∈ ps, PR n t) → PR (n + 1) (manyP o ps)
theorem allO_snoc (ps : List Pt) (t : Pt) : allO (ps ++ [t]) = (allO ps).bind fun L => t.o.map fun r => L ++ [r] := by
  induction ps with
  | nil => cases h : t.o <;> simp [allO, h]
  | cons s ps ih =>
    rw [List.cons_append]
    show s.o.bind (fun r => (allO (ps ++ [t])).map (r :: ·)) = (s.o.bind fun r => (allO ps).map (r :: ·)).bind _
    rw [ih]
    cases s.o with
    | none => rfl
    | some r =>
      cases allO ps with
      | none => rfl
      | some L => cases t.o <;> rfl
theorem allO_none {ps : List Pt} {t : Pt} (h : t ∈ ps) (ho : t.o = none) : allO ps = none := by
  induction ps with
  | nil => cases h
  | cons s ps ih =>
    show s.o.bind _ = _
    rcases List.mem_cons.mp h with rfl | h
    · rw [ho]; rfl
    · rw [ih h]
      cases s.o <;> rfl
theorem thenO_le : ∀ {n : Nat} {L : List (List Row)} {out : List Row}, L.length = n → thenO L = some out → ∀ r ∈ out, r.length ≤ 24
  | 0, L, out, hl, h => by
    obtain rfl := List.length_eq_zero_iff.mp hl
    cases (show some [[]] = some out from h)
    simp
  | n + 1, L, out, hl, h => by
    obtain ⟨L', b, rfl⟩ : ∃ L' b, L = L' ++ [b] := ⟨L.dropLast, L.getLast (fun z => by rw [z] at hl; cases hl), (List.dropLast_concat_getLast _).symm⟩
    rw [thenO_snoc] at h
    cases e : thenO L' with
    | none => rw [e] at h; cases h
    | some x =>
      rw [e] at h
      obtain ⟨h1, rfl⟩ := stepO_some h
      exact h1.nub
theorem againO_le {rs : List Row} {a b : Nat} {out : List Row} (h : againO rs a b = some out) : ∀ r ∈ out, r.length ≤ 24 := by
  unfold againO at h
  cases e : flatO rs a (b + 1) with
  | none => rw [e] at h; cases h
  | some l =>
    rw [e] at h
    obtain ⟨h1, rfl⟩ := orO_some h
    exact h1.nub
theorem PR.le {n : Nat} {t : Pt} (h : PR n t) {out : List Row} (ho : t.o = some out) : ∀ r ∈ out, r.length ≤ 24 := by
  cases h with
  | row _ _ =>
    obtain ⟨h1, rfl⟩ := orO_some ho
    exact h1.nub
  | @again _ t a b _ _ _ =>
    have ho : (t.o.bind fun rs => againO rs a b) = some out := ho
    cases e : t.o with
    | none => rw [e] at ho; cases ho
    | some rs => rw [e] at ho; exact againO_le ho
  | @many _ o ps _ _ _ =>
    have ho : ((allO ps).bind fun L => if o then orO L.flatten else thenO L) = some out := ho
    cases e : allO ps with
    | none => rw [e] at ho; cases ho
    | some L =>
      rw [e] at ho
      cases o with
      | true =>
        obtain ⟨h1, rfl⟩ := orO_some (show orO L.flatten = some out from ho)
        exact h1.nub
      | false => exact thenO_le rfl (show thenO L = some out from ho)
theorem wd_ne (o : Bool) : ¬ wordS o = "row" ∧ ¬ wordS o = "again" := by cases o <;> exact ⟨by decide +kernel, by decide +kernel⟩
theorem wd_or (o : Bool) : decide (wordS o = "or") = o := by cases o <;> decide +kernel
section
variable {P : Program} {w : World} {K : PySem.W.Frag} {mg : Str → Option Value} {base : Heap} {kA cT : Addr} (D : All K mg kA)
def rRowsOf (cT : Addr) (n : Nat) : RX := fun as W k x => ∃ t : Pt, as = [.d t.p] ∧ PR n t ∧ (∀ out, t.o = some out → ∀ V q, W.length ≤ q → (W ++ V)[q]? = some (ls out) → k (.o q) (W ++ V)) ∧ (t.o = none → ∀ V, x cT (W ++ V))
abbrev nRf : List Str := ["plot", "parts"]
theorem scRf : FnScope nRf ["plot"] (defScope s_rows_of) := ⟨rfl, rfl, rfl, by decide +kernel, rfl, by decide +kernel, by decide +kernel⟩
theorem ndRf : nRf.Nodup := by decide +kernel
def cRf : Scope := match defBody s_rows_of with
  | [_, _, .Assign _ (.ListComp _ _ sc _) _, _] => sc
  | _ => noSc
theorem csRf : CmpScope nRf (defScope s_rows_of) ["part"] [] [] cRf := ⟨rfl, by decide +kernel, by decide +kernel, by decide +kernel, rfl, by decide +kernel⟩
theorem nd_prt : ((["part"] : List Str) ++ ([] : List Str)).Nodup := by decide +kernel
set_option maxHeartbeats 1000000 in
theorem rows_core {n : Nat} (TX : TxtX K mg cT) (NP : ∀ m, n = m + 1 → FokX P w base D.p_rows_of (m + 4) (rRowsOf cT m)) : FokX P w base D.p_rows_of (n + 4) (rRowsOf cT n) := by
  have NO := okOr (P := P) (w := w) (base := base) D TX
  have NT := okThen (P := P) (w := w) (base := base) D TX
  have NA := okAgain (P := P) (w := w) (base := base) D TX
  refine fn_X D.p_rows_of.d.fn scRf (fun as W k x ⟨t, e, _⟩ => by subst e; rfl) fun X cdv A outer s H E xe F0 A0 as W k x hX hr hps xo hcl ⟨t, e, ht, hk1, hk2⟩ => ?_
  subst e
  subst hX
  cases ht with
  | @row _ ds h1 hl =>
    refine bs_cons (bs_if (bt_cmp rfl (be_ix (by intro _ _; rfl) (bv 0 rfl (be_int (ib_tup (d := .str "row") rfl (be_str (ob_eqS ⟨_, rfl, ?_⟩))))))))
    rw [decide_eq_true rfl]
    refine iteT (bs_one (bs_ret (bcx D.p_rows_or NO xo hr (ba_one (be_lstO (ba_one (be_lstO (ba_one (be_ix (by intro _ _; rfl) (bv 0 rfl (be_int (ib_tup (d := rP ds) rfl ⟨(by show 1 ≤ sizeLine; decide), (by show 1 ≤ sizeLine; decide), _, [(W.length, [ds])], rfl, get_last, fun e he => ?_, fun hok => ?_, fun hno V' => ?_⟩))))))))) (by omega))))
    · cases List.mem_singleton.mp he
      exact get_in get_last
    · rw [List.append_assoc, List.append_assoc]
      refine hk1 _ (orO_pos hok) _ _ (by rw [List.length_append, List.length_append]; omega) ?_
      rw [← List.append_assoc, ← List.append_assoc]
      exact get_two
    · rw [List.append_assoc, List.append_assoc]
      exact hk2 (orO_neg hno) _
  | @again m t a b h1 hab hb =>
    refine bs_cons (bs_if (bt_cmp rfl (be_ix (by intro _ _; rfl) (bv 0 rfl (be_int (ib_tup (d := .str "again") rfl (be_str (ob_eqS ⟨_, rfl, ?_⟩))))))))
    rw [decide_eq_false (by decide +kernel)]
    refine iteF (bs_nil (bs_cons (bs_if (bt_cmp rfl (be_ix (by intro _ _; rfl) (bv 0 rfl (be_int (ib_tup (d := .str "again") rfl (be_str (ob_eqS ⟨_, rfl, ?_⟩))))))))))
    rw [decide_eq_true rfl]
    refine iteT (bs_one (bs_ret (bcx D.p_rows_again NA xo hr (ba_cons (bcx D.p_rows_of (NP m rfl) xo hr (ba_one (be_ix (by intro _ _; rfl) (bv 0 rfl (be_int (ib_tup (d := t.p) rfl ⟨t, rfl, h1, fun rs hrs V q hql hq => ?_, fun hno V' => ?_⟩))))) (by omega))) (by omega))))
    · have eo : (agP t a b).o = againO rs a b := by
        show t.o.bind _ = _
        rw [hrs]
        rfl
      refine ba_cons (be_ix (by intro _ _; rfl) (bv 0 rfl (be_int (ib_tup (d := .int a) rfl (ba_one (be_ix (by intro _ _; rfl) (bv 0 rfl (be_int (ib_tup (d := .int b) rfl ⟨q, rs, a, b, rfl, hq, h1.le hrs, hb, fun out ho V2 q2 h2l h2 => ?_, fun hno V' => ?_⟩)))))))))
      · rw [List.append_assoc] at h2 ⊢
        exact hk1 out (eo.trans ho) _ _ (by rw [List.length_append] at h2l; omega) h2
      · rw [List.append_assoc]
        exact hk2 (eo.trans hno) _
    · refine hk2 ?_ _
      show t.o.bind _ = _
      rw [hno]
      rfl
  | @many m o ps hne hl h1 =>
    refine bs_cons (bs_if (bt_cmp rfl (be_ix (by intro _ _; rfl) (bv 0 rfl (be_int (ib_tup (d := .str (wordS o)) rfl (be_str (ob_eqS ⟨_, rfl, ?_⟩))))))))
    rw [decide_eq_false (wd_ne o).1]
    refine iteF (bs_nil (bs_cons (bs_if (bt_cmp rfl (be_ix (by intro _ _; rfl) (bv 0 rfl (be_int (ib_tup (d := .str (wordS o)) rfl (be_str (ob_eqS ⟨_, rfl, ?_⟩))))))))))
    rw [decide_eq_false (wd_ne o).2]
    refine iteF (bs_nil (bs_cons (bs_setcX (i := 1) (j := 0) ⟨rfl, rfl, rfl⟩ xo ndRf rfl (Or.inl rfl) rfl csRf nd_prt rfl (by decide) (fun _ _ _ _ _ => Or.inl rfl) (fun _ _ _ _ _ => rfl) (bi_tup (be_ix (by intro _ _; rfl) (bv 0 rfl (be_int (ib_tup (d := .tuple (ps.map Pt.p)) rfl ⟨_, rfl, fun i ys W' => ∃ V L, W' = W ++ V ∧ ys = (L.map fun e => .o e.1) ∧ (∀ e ∈ (L : List (Nat × List Row)), (W ++ V)[e.1]? = some (ls e.2) ∧ ∀ r ∈ e.2, r.length ≤ 24) ∧ allO (ps.take i) = some (L.map (·.2)) ∧ L.length = i, ⟨[], [], by simp, rfl, by simp, rfl, rfl⟩, ?_, ?_, ?_⟩))))))))
    · rintro i ys W' hi ⟨V, L, rfl, rfl, hL, hLs, hLl⟩
      refine ⟨trivial, ?_⟩
      rw [List.length_map] at hi ⊢
      exact small_le (by omega)
    · rintro i z ys W' hz ⟨V, L, rfl, rfl, hL, hLs, hLl⟩ F A cl C ex s H xo'
      rw [List.getElem?_map] at hz
      obtain ⟨t, ht, rfl⟩ := Option.map_eq_some_iff.mp hz
      have htm := List.mem_of_getElem? ht
      have ets : ps.take (i + 1) = ps.take i ++ [t] := by rw [List.take_add_one, ht]; rfl
      refine bcx D.p_rows_of (NP m rfl) xo' hr (ba_one (bv 0 rfl ⟨t, rfl, h1 t htm, fun out ho V2 q _ hq => ⟨V ++ V2, L ++ [(q, out)], by rw [List.append_assoc], by simp, fun e he => ?_, ?_, by simp [hLl]⟩, fun hno V' => ?_⟩)) (by omega)
      · rw [← List.append_assoc]
        rcases List.mem_append.mp he with he | he
        · exact ⟨get_in (hL e he).1, (hL e he).2⟩
        · cases List.mem_singleton.mp he
          exact ⟨hq, (h1 t htm).le ho⟩
      · rw [ets, allO_snoc, hLs, ho]
        simp
      · show x cT _
        rw [List.append_assoc]
        refine hk2 ?_ _
        show (allO ps).bind _ = _
        rw [allO_none htm hno]
        rfl
    · rintro ys W' ⟨V, L, rfl, rfl, hL, hLs, hLl⟩
      rw [List.length_map, List.take_length] at hLs
      have eo : (manyP o ps).o = if o then orO (L.map (·.2)).flatten else thenO (L.map (·.2)) := by
        show (allO ps).bind _ = _
        rw [hLs]
        rfl
      have hL2 : ∀ e ∈ L, (W ++ V ++ [OD.lst (L.map fun e => .o e.1)])[e.1]? = some (ls e.2) := fun e he => get_in (hL e he).1
      refine bs_one (bs_ret (be_if (bt_cmp rfl (be_ix (by intro _ _; rfl) (bv 0 rfl (be_int (ib_tup (d := .str (wordS o)) rfl (be_str (ob_eqS ⟨_, rfl, ?_⟩)))))))))
      rw [wd_or]
      cases o with
      | true =>
        have ef : (L.map (·.2)).flatten = L.flatMap (·.2) := by rw [List.flatMap_def]
        rw [ef] at eo
        refine iteT (bcx D.p_rows_or NO xo hr (ba_one (bv 1 rfl ⟨_, L, rfl, get_last, hL2, fun hok => ?_, fun hno V' => ?_⟩)) (by omega))
        · rw [List.append_assoc, List.append_assoc]
          refine hk1 _ (eo.trans (orO_pos hok)) _ _ (by rw [List.length_append, List.length_append]; omega) ?_
          rw [← List.append_assoc, ← List.append_assoc]
          exact get_two
        · rw [List.append_assoc, List.append_assoc]
          exact hk2 (eo.trans (orO_neg hno)) _
      | false =>
        refine iteF (bcx D.p_rows_then NT xo hr (ba_one (bv 1 rfl ⟨_, L, rfl, get_last, hL2, fun e he => (hL e he).2, fun out ho V2 q2 h2l h2 => ?_, fun hno V' => ?_⟩)) (by omega))
        · rw [List.append_assoc, List.append_assoc] at h2 ⊢
          exact hk1 _ (eo.trans ho) _ _ (by rw [List.length_append, List.length_append] at h2l; omega) h2
        · rw [List.append_assoc, List.append_assoc]
          exact hk2 (eo.trans hno) _
theorem okRowsOf (TX : TxtX K mg cT) : ∀ n, FokX P w base D.p_rows_of (n + 4) (rRowsOf cT n)
  | 0 => rows_core D TX fun m e => by omega
  | n + 1 => rows_core D TX fun m e => by
    obtain rfl : m = n := by omega
    exact okRowsOf TX m
end
end K1
namespace K1
open PySem L2
theorem deed_yes {d : Deed} (h : d.Ok) : deedD (dP d) = true := by
  obtain ⟨kd, x, y, z⟩ := d
  have e1 : kdD (.str (Deed.kd ⟨kd, x, y, z⟩)) = true := decide_eq_true (kd_or _)
  show (kdD (.str (Deed.kd ⟨kd, x, y, z⟩)) && (isNm x && isNm y && isNm z && !decide (x = y))) = true
  rw [e1, h.x, h.y, h.w, decide_eq_false h.ne]
  rfl
theorem dat_short {d : Deed} (h : d.Ok) : shortT (dP d) := by
  intro e he
  have hn : ∀ y, isNm y = true → shortD (.str y) := fun y hy => Nat.le_trans (nm_len hy) (by show 8 ≤ sizeLine; decide)
  have he : e ∈ [PyData.str d.kd, .str d.x, .str d.y, .str d.w] := he
  simp only [List.mem_cons, List.not_mem_nil, or_false] at he
  rcases he with rfl | rfl | rfl | rfl
  · show d.kd.length ≤ sizeLine
    obtain ⟨kd, x, y, z⟩ := d
    cases kd <;> (show 4 ≤ sizeLine; decide)
  · exact hn _ h.x
  · exact hn _ h.y
  · exact hn _ h.w
theorem row_yes {ds : Row} (h : ∀ d ∈ ds, d.Ok) : rowD (rP ds) = true := by
  show (ds.map dP).all deedD = true
  rw [List.all_map, List.all_eq_true]
  exact fun d hd => deed_yes (h d hd)
theorem row_short {ds : Row} (h : ∀ d ∈ ds, d.Ok) (hl : ds.length ≤ 100) : shortR (rP ds) := by
  refine ⟨by rw [List.length_map]; omega, fun e he => ?_⟩
  obtain ⟨d, hd, rfl⟩ := List.mem_map.mp he
  exact dat_short (h d hd)
theorem shortW (o : Bool) : shortD (.str (wordS o)) := by cases o <;> (show _ ≤ sizeLine; decide)
theorem PR.tup {n : Nat} {t : Pt} (h : PR n t) : ∃ us, t.p = .tuple us := by cases h <;> exact ⟨_, rfl⟩
theorem PR.sd {n : Nat} {t : Pt} (h : PR n t) : shortD t.p := by
  obtain ⟨us, e⟩ := h.tup
  rw [e]
  trivial
theorem PR.yes : ∀ {n : Nat} {t : Pt}, PR n t → shortT t.p ∧ shortR t.p ∧ Small (n + 1) t.p ∧ plotB (n + 1) t.p = true := fun {n t} h => by
  induction h with
  | @row n ds h hl =>
    have hr := row_short h hl
    have hsd : shortD (.str "row") := by show 3 ≤ sizeLine; decide
    have hT : ∀ d ∈ ([.str "row", rP ds] : List PyData), shortD d ∧ shortR d := fun d hd => by
      simp only [List.mem_cons, List.not_mem_nil, or_false] at hd
      rcases hd with rfl | rfl
      · exact ⟨hsd, trivial⟩
      · exact ⟨trivial, hr⟩
    refine ⟨fun d hd => (hT d hd).1, ⟨by simp, fun d hd => ?_⟩, ⟨by simp, hT, ?_⟩, ?_⟩
    · simp only [List.mem_cons, List.not_mem_nil, or_false] at hd
      rcases hd with rfl | rfl
      · trivial
      · exact fun e he => by obtain ⟨d, hd, rfl⟩ := List.mem_map.mp he; trivial
    · show (if ("row" : Str) = "again" then True else if ("row" : Str) = "row" then True else _)
      rw [if_neg (by decide +kernel), if_pos rfl]
      trivial
    · show plotB (n + 1) (.tuple [.str "row", rP ds]) = true
      rw [plotB_one (by decide +kernel), if_pos rfl]
      exact row_yes h
  | @again n t a b h hab hb ih =>
    obtain ⟨i1, i2, i3, i4⟩ := ih
    have hsd : shortD (.str "again") := by show 5 ≤ sizeLine; decide
    have hT : ∀ d ∈ ([.str "again", t.p, .int a, .int b] : List PyData), shortD d ∧ shortR d := fun d hd => by
      simp only [List.mem_cons, List.not_mem_nil, or_false] at hd
      rcases hd with rfl | rfl | rfl | rfl
      · exact ⟨hsd, trivial⟩
      · exact ⟨h.sd, i2⟩
      · exact ⟨trivial, trivial⟩
      · exact ⟨trivial, trivial⟩
    refine ⟨fun d hd => (hT d hd).1, ⟨by simp, fun d hd => ?_⟩, ⟨by simp, hT, ?_⟩, ?_⟩
    · simp only [List.mem_cons, List.not_mem_nil, or_false] at hd
      rcases hd with rfl | rfl | rfl | rfl
      · trivial
      · exact i1
      · trivial
      · trivial
    · show (if ("again" : Str) = "again" then Small (n + 1) t.p else _)
      rw [if_pos rfl]
      exact i3
    · show (if ("again" : Str) = "again" then (plotB (n + 1) t.p && rngD (.int a) (.int b)) else _) = true
      rw [if_pos rfl, i4, Bool.true_and]
      show (decide ((0 : Int) ≤ a) && (decide ((a : Int) ≤ b) && decide ((b : Int) ≤ 4))) = true
      rw [decide_eq_true (by omega), decide_eq_true (by omega), decide_eq_true (by omega)]
      rfl
  | @many n o ps hne hl h ih =>
    have hT : ∀ d ∈ ([.str (wordS o), .tuple (ps.map (·.p))] : List PyData), shortD d ∧ shortR d := fun d hd => by
      simp only [List.mem_cons, List.not_mem_nil, or_false] at hd
      rcases hd with rfl | rfl
      · exact ⟨shortW o, trivial⟩
      · refine ⟨trivial, by rw [List.length_map]; omega, fun e he => ?_⟩
        obtain ⟨t, ht, rfl⟩ := List.mem_map.mp he
        exact (ih t ht).1
    refine ⟨fun d hd => (hT d hd).1, ⟨by simp, fun d hd => ?_⟩, ⟨by simp, hT, ?_⟩, ?_⟩
    · simp only [List.mem_cons, List.not_mem_nil, or_false] at hd
      rcases hd with rfl | rfl
      · trivial
      · exact fun e he => by obtain ⟨t, ht, rfl⟩ := List.mem_map.mp he; exact (h t ht).sd
    · show (if wordS o = "again" then True else if wordS o = "row" then True else (ps.map (·.p)).length ≤ 1000 ∧ ∀ p ∈ ps.map (·.p), Small (n + 1) p)
      rw [if_neg (wd_ne o).2, if_neg (wd_ne o).1]
      refine ⟨by rw [List.length_map]; omega, fun p hp => ?_⟩
      obtain ⟨t, ht, rfl⟩ := List.mem_map.mp hp
      exact (ih t ht).2.2.1
    · show plotB (n + 2) (.tuple [.str (wordS o), .tuple (ps.map (·.p))]) = true
      rw [plotB_one (wd_ne o).2, if_neg (wd_ne o).1]
      have e1 : decide (wordS o = "then" ∨ wordS o = "or") = true := by cases o <;> decide +kernel
      have e2 : (ps.map (·.p)).isEmpty = false := by cases ps with
        | nil => exact absurd rfl hne
        | cons _ _ => rfl
      rw [e1, Bool.true_and]
      show (!(ps.map (·.p)).isEmpty && (ps.map (·.p)).all (plotB (n + 1))) = true
      rw [e2, List.all_map]
      show (true && ps.all _) = true
      rw [Bool.true_and, List.all_eq_true]
      exact fun t ht => (ih t ht).2.2.2
section
variable {P : Program} {w : World} {K : PySem.W.Frag} {mg : Str → Option Value} {base : Heap} {kA cT cP : Addr} (D : All K mg kA)
structure TxtY (K : PySem.W.Frag) (mg : Str → Option Value) (cP : Addr) : Prop where
  at_ : mg "NoPlot" = some (.ref cP)
  ex : IsExc K cP
def rPlotRows (cP cT : Addr) (n : Nat) : RX := fun as W k x => ∃ d : PyData, as = [.d d] ∧ ((Small (n + 1) d ∧ plotB (n + 1) d = false ∧ x cP W) ∨ ∃ t : Pt, d = t.p ∧ PR n t ∧ (∀ out, t.o = some out → ∀ V q, W.length ≤ q → (W ++ V)[q]? = some (ls out) → k (.o q) (W ++ V)) ∧ (t.o = none → ∀ V, x cT (W ++ V)))
theorem scPr : FnScope ["plot"] ["plot"] (defScope s_plot_rows) := ⟨rfl, rfl, rfl, by decide +kernel, rfl, by decide +kernel, by decide +kernel⟩
theorem okPlotRows (TX : TxtX K mg cT) (TY : TxtY K mg cP) (n : Nat) : FokX P w base D.p_plot_rows (2 * n + 7) (rPlotRows cP cT n) := by
  have NI := okPlot (P := P) (w := w) (base := base) D (n + 1)
  have NR := okRowsOf (P := P) (w := w) (base := base) D TX n
  refine fn_X D.p_plot_rows.d.fn scPr (fun as W k x ⟨d, e, _⟩ => by subst e; rfl) fun X cdv A outer s H E xe F0 A0 as W k x hX hr hps xo hcl ⟨d, e, h⟩ => ?_
  subst e
  subst hX
  rcases h with ⟨hs, hb, hx⟩ | ⟨t, rfl, ht, hk1, hk2⟩
  · refine bs_cons (bs_if (bt_not (bt_val (bc D.p_is_plot NI hr (ba_one (bv 0 rfl ⟨d, rfl, hs, _, rfl, ?_⟩)) (by omega)))))
    rw [hb]
    exact iteT (bs_one (bs_raise xo rfl TY.ex TY.at_ (ba_one (be_str ⟨by show 1 ≤ sizeLine; decide, hx⟩))))
  · obtain ⟨_, _, h3, h4⟩ := ht.yes
    refine bs_cons (bs_if (bt_not (bt_val (bc D.p_is_plot NI hr (ba_one (bv 0 rfl ⟨t.p, rfl, h3, _, rfl, ?_⟩)) (by omega)))))
    rw [h4]
    exact iteF (bs_nil (bs_one (bs_ret (bcx D.p_rows_of NR xo hr (ba_one (bv 0 rfl ⟨t, rfl, ht, hk1, hk2⟩)) (by omega)))))
end
end K1
namespace K1
open PySem L2
theorem fold_nd : ∀ (l acc : List Row), (acc ++ l).Nodup → l.foldl addR acc = acc ++ l
  | [], acc, _ => by simp
  | r :: l, acc, h => by
    rw [List.foldl_cons]
    have hr : r ∉ acc := fun z => (List.nodup_append.mp h).2.2 r z r List.mem_cons_self rfl
    have e : addR acc r = acc ++ [r] := by unfold addR; rw [if_neg hr]
    rw [e, fold_nd l (acc ++ [r]) (by rw [List.append_assoc]; exact h), List.append_assoc]
    rfl
theorem nub_nd {l : List Row} (h : l.Nodup) : nub l = l := by
  unfold nub
  rw [fold_nd l [] (by simpa using h)]
  rfl
/-- rows of one length, no two alike, of sendings only -/
structure Uni (l : List Row) (p : Nat) : Prop where
  nd : l.Nodup
  len : ∀ r ∈ l, r.length = p
  sd : ∀ r ∈ l, ∀ d ∈ r, d.tk = false
theorem uni_one : Uni [[]] 0 := ⟨by simp, by simp, by simp⟩
theorem beh_mem {a b : List Row} {r : Row} : r ∈ behL a b ↔ ∃ f ∈ a, ∃ g ∈ b, r = f ++ g := by
  unfold behL
  rw [List.mem_flatMap]
  constructor
  · rintro ⟨f, hf, h⟩
    obtain ⟨g, hg, rfl⟩ := List.mem_map.mp h
    exact ⟨f, hf, g, hg, rfl⟩
  · rintro ⟨f, hf, g, hg, rfl⟩
    exact ⟨f, hf, List.mem_map.mpr ⟨g, hg, rfl⟩⟩
theorem beh_nd {p : Nat} {b : List Row} (hb : b.Nodup) : ∀ {a : List Row}, a.Nodup → (∀ r ∈ a, r.length = p) → (behL a b).Nodup
  | [], _, _ => by simp [behL]
  | f :: a, ha, hl => by
    have ha' := List.nodup_cons.mp ha
    show (b.map (f ++ ·) ++ behL a b).Nodup
    refine List.nodup_append.mpr ⟨?_, beh_nd hb ha'.2 (fun r hr => hl r (List.mem_cons_of_mem _ hr)), fun x hx y hy e => ?_⟩
    · exact List.pairwise_map.mpr (hb.imp fun h e => h (List.append_cancel_left e))
    · obtain ⟨g, _, rfl⟩ := List.mem_map.mp hx
      obtain ⟨f', hf', g', _, rfl⟩ := beh_mem.mp hy
      have := (List.append_inj e (by rw [hl f List.mem_cons_self, hl f' (List.mem_cons_of_mem _ hf')])).1
      exact ha'.1 (this ▸ hf')
theorem Uni.beh {a b : List Row} {p q : Nat} (ha : Uni a p) (hb : Uni b q) : Uni (behL a b) (p + q) := by
  refine ⟨beh_nd hb.nd ha.nd ha.len, fun r hr => ?_, fun r hr d hd => ?_⟩
  · obtain ⟨f, hf, g, hg, rfl⟩ := beh_mem.mp hr
    rw [List.length_append, ha.len f hf, hb.len g hg]
  · obtain ⟨f, hf, g, hg, rfl⟩ := beh_mem.mp hr
    rcases List.mem_append.mp hd with h | h
    · exact ha.sd f hf d h
    · exact hb.sd g hg d h
theorem Uni.step {a b : List Row} {p q : Nat} (ha : Uni a p) (hb : Uni b q) (h24 : p + q ≤ 24) : (a.length * b.length ≤ 200 → stepO a b = some (behL a b)) ∧ (200 < a.length * b.length → stepO a b = none) := by
  have u := ha.beh hb
  have e := nub_nd u.nd
  refine ⟨fun h => ?_, fun h => stepO_neg fun z => ?_⟩
  · rw [stepO_pos ⟨fun r hr => by rw [u.len r hr]; exact h24, by rw [e, beh_len]; exact h⟩]
    unfold behR
    rw [e]
  · have := z.2
    rw [e, beh_len] at this
    omega
theorem prod_snoc (l : List Nat) (x : Nat) : prodN (l ++ [x]) = prodN l * x := by unfold prodN; rw [List.foldl_append]; rfl
theorem then_uni : ∀ {n : Nat} {L : List (List Row)}, L.length = n → n ≤ 24 → (∀ l ∈ L, Uni l 1 ∧ 1 ≤ l.length) → (prodN (L.map List.length) ≤ 200 → ∃ out, thenO L = some out ∧ Uni out n ∧ out.length = prodN (L.map List.length)) ∧ (200 < prodN (L.map List.length) → thenO L = none)
  | 0, L, hl, _, _ => by
    obtain rfl := List.length_eq_zero_iff.mp hl
    exact ⟨fun _ => ⟨[[]], rfl, uni_one, rfl⟩, fun h => by simp [prodN] at h⟩
  | n + 1, L, hl, hn, h => by
    obtain ⟨L', b, rfl⟩ : ∃ L' b, L = L' ++ [b] := ⟨L.dropLast, L.getLast (fun z => by rw [z] at hl; cases hl), (List.dropLast_concat_getLast _).symm⟩
    have hl' : L'.length = n := by simpa using hl
    obtain ⟨i1, i2⟩ := then_uni hl' (by omega) fun l hl => h l (List.mem_append_left _ hl)
    obtain ⟨ub, b1⟩ := h b (by simp)
    rw [List.map_append, show ([b] : List (List Row)).map List.length = [b.length] from rfl, prod_snoc, thenO_snoc]
    by_cases hp : prodN (L'.map List.length) ≤ 200
    · obtain ⟨o, e, uo, lo⟩ := i1 hp
      obtain ⟨s1, s2⟩ := uo.step ub (by omega)
      rw [e, ← lo]
      refine ⟨fun h' => ⟨_, s1 h', uo.beh ub, beh_len _ _⟩, fun h' => s2 h'⟩
    · rw [i2 (by omega)]
      refine ⟨fun h' => ?_, fun _ => rfl⟩
      have := Nat.le_mul_of_pos_right (prodN (L'.map List.length)) b1
      omega
theorem pow_uni {rs : List Row} (hu : Uni rs 1) (h1 : 1 ≤ rs.length) : ∀ {t : Nat}, t ≤ 24 → (rs.length ^ t ≤ 200 → ∃ out, powO rs t = some out ∧ Uni out t ∧ out.length = rs.length ^ t) ∧ (200 < rs.length ^ t → powO rs t = none)
  | 0, _ => ⟨fun _ => ⟨[[]], rfl, uni_one, rfl⟩, fun h => by simp at h⟩
  | t + 1, ht => by
    obtain ⟨i1, i2⟩ := pow_uni hu h1 (t := t) (by omega)
    rw [Nat.pow_succ]
    show _ ∧ (_ → (powO rs t).bind _ = none)
    by_cases hp : rs.length ^ t ≤ 200
    · obtain ⟨o, e, uo, lo⟩ := i1 hp
      obtain ⟨s1, s2⟩ := uo.step hu ht
      refine ⟨fun h' => ⟨behL o rs, ?_, uo.beh hu, by rw [beh_len, lo]⟩, fun h' => ?_⟩
      · show (powO rs t).bind _ = _
        rw [e]
        exact s1 (by rw [lo]; exact h')
      · rw [e]
        exact s2 (by rw [lo]; exact h')
    · refine ⟨fun h' => ?_, fun _ => by rw [i2 (by omega)]; rfl⟩
      have := Nat.le_mul_of_pos_right (rs.length ^ t) h1
      omega
/-- the sum of the powers from a to below n -/
def sumR (m a : Nat) : Nat → Nat
  | 0 => 0
  | n + 1 => sumR m a n + if a ≤ n then m ^ n else 0
theorem flat_uni {rs : List Row} (hu : Uni rs 1) (h1 : 1 ≤ rs.length) {a : Nat} : ∀ {n : Nat}, n ≤ 24 → (∀ t, t < n → rs.length ^ t ≤ 200) → ∃ l, flatO rs a n = some l ∧ l.Nodup ∧ (∀ r ∈ l, r.length < n ∧ ∀ d ∈ r, d.tk = false) ∧ l.length = sumR rs.length a n
  | 0, _, _ => ⟨[], rfl, by simp, by simp, rfl⟩
  | n + 1, hn, hp => by
    obtain ⟨l, e, nd, hl, ll⟩ := flat_uni hu h1 (a := a) (n := n) (by omega) fun t ht => hp t (by omega)
    obtain ⟨p, ep, up, lp⟩ := (pow_uni hu h1 (t := n) (by omega)).1 (hp n (by omega))
    have ef : flatO rs a (n + 1) = some (if a ≤ n then l ++ p else l) := by
      show (flatO rs a n).bind _ = _
      rw [e]
      show (powO rs n).bind _ = _
      rw [ep]
      rfl
    by_cases ha : a ≤ n
    · rw [if_pos ha] at ef
      refine ⟨_, ef, List.nodup_append.mpr ⟨nd, up.nd, fun x hx y hy q => ?_⟩, fun r hr => ?_, ?_⟩
      · have h2 := (hl x hx).1
        have h3 := up.len y hy
        rw [q] at h2
        omega
      · rcases List.mem_append.mp hr with h | h
        · exact ⟨by have := (hl r h).1; omega, (hl r h).2⟩
        · exact ⟨by rw [up.len r h]; omega, up.sd r h⟩
      · rw [List.length_append, ll, lp]
        show _ = _ + if a ≤ n then _ else 0
        rw [if_pos ha]
    · rw [if_neg ha] at ef
      refine ⟨_, ef, nd, fun r hr => ⟨by have := (hl r hr).1; omega, (hl r hr).2⟩, ?_⟩
      rw [ll]
      show _ = _ + if a ≤ n then _ else 0
      rw [if_neg ha]
      rfl
theorem sumR_ge (m a : Nat) : ∀ {n t : Nat}, a ≤ t → t < n → m ^ t ≤ sumR m a n
  | n + 1, t, ha, ht => by
    show _ ≤ _ + if a ≤ n then _ else 0
    by_cases e : t = n
    · subst e
      rw [if_pos ha]
      omega
    · have := sumR_ge m a (n := n) ha (by omega)
      omega
theorem again_uni {rs : List Row} (hu : Uni rs 1) (h1 : 1 ≤ rs.length) {a b : Nat} (hab : a ≤ b) (hb : b ≤ 20) : (sumR rs.length a (b + 1) ≤ 200 → ∃ out, againO rs a b = some out ∧ out.Nodup ∧ (∀ r ∈ out, ∀ d ∈ r, d.tk = false) ∧ out.length = sumR rs.length a (b + 1)) ∧ (200 < sumR rs.length a (b + 1) → againO rs a b = none) := by
  have hmono : ∀ t, t ≤ b → rs.length ^ t ≤ rs.length ^ b := fun t ht => Nat.pow_le_pow_right h1 ht
  have hge := sumR_ge rs.length a hab (show b < b + 1 by omega)
  by_cases hp : rs.length ^ b ≤ 200
  · obtain ⟨l, e, nd, hl, ll⟩ := flat_uni hu h1 (a := a) (n := b + 1) (by omega) fun t ht => Nat.le_trans (hmono t (by omega)) hp
    have ea : againO rs a b = orO l := by
      unfold againO
      rw [e]
      rfl
    rw [ea]
    refine ⟨fun h => ⟨l, ?_, nd, fun r hr => (hl r hr).2, ll⟩, fun h => orO_neg fun z => ?_⟩
    · rw [orO_pos ⟨fun r hr => by have := (hl r hr).1; omega, by rw [nub_nd nd, ll]; exact h⟩, nub_nd nd]
    · have := z.2
      rw [nub_nd nd, ll] at this
      omega
  · refine ⟨fun h => absurd (Nat.le_trans hge h) hp, fun _ => ?_⟩
    unfold againO
    rw [flatO_none ((pow_uni hu h1 (t := b) (by omega)).2 (by omega)) (by omega)]
    rfl
end K1
namespace K1
open PySem L2
def rep (ds : Row) (k : Nat) : Row := (List.replicate k ds).flatten
def rpL (ds : Row) (n : Nat) : List Row := (List.range n).map (rep ds)
section
variable {ds : Row}
theorem rep_add (i j : Nat) : rep ds (i + j) = rep ds i ++ rep ds j := by unfold rep; rw [← List.replicate_append_replicate, List.flatten_append]
theorem rep_len (k : Nat) : (rep ds k).length = k * ds.length := by unfold rep; simp
theorem rep_zero : rep ds 0 = [] := rfl
theorem rep_one : rep ds 1 = ds := by unfold rep; simp
theorem rep_inj (h : 1 ≤ ds.length) {i j : Nat} (e : rep ds i = rep ds j) : i = j := by
  have := congrArg List.length e
  rw [rep_len, rep_len] at this
  exact Nat.eq_of_mul_eq_mul_right h this
theorem rpL_succ (n : Nat) : rpL ds (n + 1) = rpL ds n ++ [rep ds n] := by unfold rpL; rw [List.range_succ, List.map_append]; rfl
theorem rpL_len (n : Nat) : (rpL ds n).length = n := by unfold rpL; simp
theorem rpL_nd (h : 1 ≤ ds.length) (n : Nat) : (rpL ds n).Nodup := List.pairwise_map.mpr (List.nodup_range.imp fun q e => q (rep_inj h e))
theorem rpL_mem (h : 1 ≤ ds.length) {i n : Nat} : rep ds i ∈ rpL ds n ↔ i < n := by
  unfold rpL
  rw [List.mem_map]
  constructor
  · rintro ⟨j, hj, e⟩
    rw [← rep_inj h e]
    exact List.mem_range.mp hj
  · exact fun hi => ⟨i, List.mem_range.mpr hi, rfl⟩
theorem add_rep (h : 1 ≤ ds.length) (a i : Nat) : addR (rpL ds a) (rep ds i) = if i < a then rpL ds a else rpL ds a ++ [rep ds i] := by
  unfold addR
  by_cases hi : i < a
  · rw [if_pos hi, if_pos ((rpL_mem h).mpr hi)]
  · rw [if_neg hi, if_neg fun z => hi ((rpL_mem h).mp z)]
theorem fold_rep (h : 1 ≤ ds.length) (a u : Nat) (hu : u ≤ a) : ∀ v, ((List.range v).map fun j => rep ds (u + j)).foldl addR (rpL ds a) = rpL ds (max a (u + v))
  | 0 => by rw [Nat.add_zero, Nat.max_eq_left hu]; rfl
  | v + 1 => by
    rw [List.range_succ, List.map_append, List.foldl_append, fold_rep h a u hu v]
    show addR (rpL ds (max a (u + v))) (rep ds (u + v)) = _
    rw [add_rep h]
    by_cases hv : u + v < a
    · rw [if_pos (by omega), Nat.max_eq_left (by omega), Nat.max_eq_left (by omega)]
    · rw [if_neg (by omega), Nat.max_eq_right (by omega), Nat.max_eq_right (by omega), ← rpL_succ]
      rfl
theorem beh_rep (h : 1 ≤ ds.length) (y : Nat) : ∀ x, nub (behL (rpL ds (x + 1)) (rpL ds (y + 1))) = rpL ds (x + y + 1)
  | 0 => by
    have e : behL (rpL ds 1) (rpL ds (y + 1)) = rpL ds (y + 1) := by
      show ((rpL ds (y + 1)).map (rep ds 0 ++ ·) ++ []) = _
      rw [rep_zero, List.append_nil]
      simp
    rw [e, nub_nd (rpL_nd h _), Nat.zero_add]
  | x + 1 => by
    rw [rpL_succ (x + 1), beh_snoc]
    unfold nub
    rw [List.foldl_append]
    have ih := beh_rep h y x
    unfold nub at ih
    rw [ih]
    have e : (rpL ds (y + 1)).map (rep ds (x + 1) ++ ·) = (List.range (y + 1)).map fun j => rep ds (x + 1 + j) := by
      unfold rpL
      rw [List.map_map]
      exact List.map_congr_left fun j _ => (rep_add (x + 1) j).symm
    rw [e, fold_rep h _ _ (by omega), Nat.max_eq_right (by omega)]
    exact congrArg (rpL ds) (by omega)
theorem step_rep (h : 1 ≤ ds.length) {x y : Nat} : ((x + y) * ds.length ≤ 24 → stepO (rpL ds (x + 1)) (rpL ds (y + 1)) = some (rpL ds (x + y + 1))) ∧ (24 < (x + y) * ds.length → stepO (rpL ds (x + 1)) (rpL ds (y + 1)) = none) := by
  refine ⟨fun hl => ?_, fun hl => stepO_neg fun z => ?_⟩
  · have hxy : x + y ≤ 24 := Nat.le_trans (Nat.le_mul_of_pos_right _ h) hl
    rw [stepO_pos ⟨fun r hr => ?_, by rw [beh_rep h, rpL_len]; omega⟩]
    · unfold behR
      rw [beh_rep h]
    · obtain ⟨f, hf, g, hg, rfl⟩ := beh_mem.mp hr
      obtain ⟨i, hi, rfl⟩ := List.mem_map.mp hf
      obtain ⟨j, hj, rfl⟩ := List.mem_map.mp hg
      rw [← rep_add, rep_len]
      have hi := List.mem_range.mp hi
      have hj := List.mem_range.mp hj
      exact Nat.le_trans (Nat.mul_le_mul_right _ (show i + j ≤ x + y by omega)) hl
  · have := z.1 (rep ds x ++ rep ds y) (beh_mem.mpr ⟨_, (rpL_mem h).mpr (by omega), _, (rpL_mem h).mpr (by omega), rfl⟩)
    rw [← rep_add, rep_len] at this
    omega
theorem pow_rep (h : 1 ≤ ds.length) (m : Nat) : ∀ t, (m * t * ds.length ≤ 24 → powO (rpL ds (m + 1)) t = some (rpL ds (m * t + 1))) ∧ (24 < m * t * ds.length → powO (rpL ds (m + 1)) t = none)
  | 0 => ⟨fun _ => rfl, fun z => by simp at z⟩
  | t + 1 => by
    obtain ⟨i1, i2⟩ := pow_rep h m t
    have hm : m * (t + 1) = m * t + m := Nat.mul_succ m t
    rw [hm]
    show (_ → (powO _ t).bind _ = _) ∧ (_ → (powO _ t).bind _ = none)
    by_cases hp : m * t * ds.length ≤ 24
    · rw [i1 hp]
      exact step_rep h
    · rw [i2 (by omega)]
      refine ⟨fun z => ?_, fun _ => rfl⟩
      have := Nat.mul_le_mul_right ds.length (show m * t ≤ m * t + m by omega)
      omega
theorem flat_rep (h : 1 ≤ ds.length) (m : Nat) : ∀ n, m * n * ds.length ≤ 24 → ∃ l, flatO (rpL ds (m + 1)) 0 (n + 1) = some l ∧ nub l = rpL ds (m * n + 1) ∧ ∀ r ∈ l, r.length ≤ 24
  | 0, _ => ⟨[[]], rfl, by rw [nub_nd (by simp)]; rfl, by simp⟩
  | n + 1, hl => by
    have hm : m * (n + 1) = m * n + m := Nat.mul_succ m n
    have hle : m * n * ds.length ≤ 24 := Nat.le_trans (Nat.mul_le_mul_right _ (by omega)) hl
    obtain ⟨l, e, hn, h24⟩ := flat_rep h m n hle
    refine ⟨l ++ rpL ds (m * (n + 1) + 1), ?_, ?_, fun r hr => ?_⟩
    · show (flatO _ 0 (n + 1)).bind _ = _
      rw [e]
      show (powO _ (n + 1)).bind _ = _
      rw [(pow_rep h m (n + 1)).1 hl]
      rfl
    · unfold nub at hn ⊢
      rw [List.foldl_append, hn]
      have := fold_rep h (m * n + 1) 0 (by omega) (m * (n + 1) + 1)
      simp only [Nat.zero_add] at this
      rw [show rpL ds (m * (n + 1) + 1) = (List.range (m * (n + 1) + 1)).map fun j => rep ds j from rfl, this, Nat.max_eq_right (by omega)]
      rfl
    · rcases List.mem_append.mp hr with q | q
      · exact h24 r q
      · obtain ⟨i, hi, rfl⟩ := List.mem_map.mp q
        rw [rep_len]
        have hi := List.mem_range.mp hi
        exact Nat.le_trans (Nat.mul_le_mul_right _ (show i ≤ m * (n + 1) by omega)) hl
theorem again_rep (h : 1 ≤ ds.length) (m b : Nat) : (m * b * ds.length ≤ 24 → againO (rpL ds (m + 1)) 0 b = some (rpL ds (m * b + 1))) ∧ (24 < m * b * ds.length → againO (rpL ds (m + 1)) 0 b = none) := by
  refine ⟨fun hl => ?_, fun hl => ?_⟩
  · obtain ⟨l, e, hn, h24⟩ := flat_rep h m b hl
    unfold againO
    rw [e]
    have : m * b ≤ 24 := Nat.le_trans (Nat.le_mul_of_pos_right _ h) hl
    show orO l = _
    rw [orO_pos ⟨h24, by rw [hn, rpL_len]; omega⟩, hn]
  · unfold againO
    rw [flatO_none ((pow_rep h m b).2 hl) (by omega)]
    rfl
theorem pow_one' (h : 1 ≤ ds.length) : ∀ {t : Nat}, t * ds.length ≤ 24 → powO [ds] t = some [rep ds t]
  | 0, _ => rfl
  | t + 1, hl => by
    have hs : (t + 1) * ds.length = t * ds.length + ds.length := Nat.succ_mul t ds.length
    show (powO [ds] t).bind _ = _
    rw [pow_one' h (t := t) (by omega)]
    show stepO [rep ds t] [ds] = _
    have e : behL [rep ds t] [ds] = [rep ds (t + 1)] := by
      show [rep ds t ++ ds] = _
      rw [rep_add, rep_one]
    rw [stepO_pos (by rw [e]; exact ⟨fun r hr => by simp at hr; rw [hr, rep_len]; exact hl, by rw [nub_nd (by simp)]; simp⟩)]
    unfold behR
    rw [e, nub_nd (by simp)]
theorem flat_one (h : 1 ≤ ds.length) : ∀ {n : Nat}, n * ds.length ≤ 24 → flatO [ds] 0 (n + 1) = some (rpL ds (n + 1))
  | 0, _ => rfl
  | n + 1, hl => by
    have hs : (n + 1) * ds.length = n * ds.length + ds.length := Nat.succ_mul n ds.length
    show (flatO [ds] 0 (n + 1)).bind _ = _
    rw [flat_one h (n := n) (by omega)]
    show (powO [ds] (n + 1)).bind _ = _
    rw [pow_one' h hl, rpL_succ (n + 1)]
    rfl
theorem again_one (h : 1 ≤ ds.length) {b : Nat} (hl : b * ds.length ≤ 24) : againO [ds] 0 b = some (rpL ds (b + 1)) := by
  unfold againO
  rw [flat_one h hl]
  have : b ≤ 24 := Nat.le_trans (Nat.le_mul_of_pos_right _ h) hl
  show orO (rpL ds (b + 1)) = _
  rw [orO_pos ⟨fun r hr => ?_, by rw [nub_nd (rpL_nd h _), rpL_len]; omega⟩, nub_nd (rpL_nd h _)]
  obtain ⟨i, hi, rfl⟩ := List.mem_map.mp hr
  rw [rep_len]
  have hi := List.mem_range.mp hi
  exact Nat.le_trans (Nat.mul_le_mul_right _ (show i ≤ b by omega)) hl
end
end K1
namespace K1
open PySem L2
def chA (i : Nat) : Str := ⟨#[97 + i]⟩
theorem chA_inj {i j : Nat} (h : chA i = chA j) : i = j := by
  have : (chA i).cps = (chA j).cps := by rw [h]
  simp [chA] at this
  exact this
theorem chA_nm {i : Nat} (h : i < 26) : isNm (chA i) = true := by
  have : ∀ a : Fin 26, isNm (chA a.1) = true := by decide +kernel
  exact this ⟨i, h⟩
def dk (k : Nat) : Deed := ⟨false, "me", "you", chA k⟩
theorem dk_ok {k : Nat} (h : k < 26) : (dk k).Ok := ⟨show isNm "me" = true by decide +kernel, show isNm "you" = true by decide +kernel, chA_nm h, show ("me" : Str) ≠ "you" by decide +kernel⟩
theorem dk_inj {i j : Nat} (h : dk i = dk j) : i = j := chA_inj (congrArg Deed.w h)
def dks (n : Nat) : Row := (List.range n).map dk
def ones (n : Nat) : List Row := (List.range n).map fun k => [dk k]
noncomputable def smP (n : Nat) : Pt := manyP true ((List.range n).map fun k => rowP [dk k])
theorem ones_len (n : Nat) : (ones n).length = n := by unfold ones; simp
theorem ones_uni (n : Nat) : Uni (ones n) 1 := by
  refine ⟨List.pairwise_map.mpr (List.nodup_range.imp fun q e => q (dk_inj (List.cons.inj e).1)), fun r hr => ?_, fun r hr d hd => ?_⟩
  · obtain ⟨k, _, rfl⟩ := List.mem_map.mp hr
    rfl
  · obtain ⟨k, _, rfl⟩ := List.mem_map.mp hr
    simp at hd
    rw [hd]
    rfl
theorem orO_nd {l : List Row} (hn : l.Nodup) (h24 : ∀ r ∈ l, r.length ≤ 24) : (l.length ≤ 200 → orO l = some l) ∧ (200 < l.length → orO l = none) := by
  refine ⟨fun h => ?_, fun h => orO_neg fun z => ?_⟩
  · rw [orO_pos ⟨h24, by rw [nub_nd hn]; exact h⟩, nub_nd hn]
  · have := z.2
    rw [nub_nd hn] at this
    omega
theorem allO_map {α : Type} (f : α → Pt) (g : α → List Row) : ∀ {l : List α}, (∀ a ∈ l, (f a).o = some (g a)) → allO (l.map f) = some (l.map g)
  | [], _ => rfl
  | a :: l, h => by
    show (f a).o.bind _ = _
    rw [h a List.mem_cons_self]
    show (allO (l.map f)).map _ = _
    rw [allO_map f g fun x hx => h x (List.mem_cons_of_mem _ hx)]
    rfl
theorem row_o {ds : Row} (h : ds.length ≤ 24) : (rowP ds).o = some [ds] := (orO_nd (l := [ds]) (by simp) (by simpa using h)).1 (by simp)
theorem sum_o {n : Nat} (h : n ≤ 26) : (smP n).o = some (ones n) := by
  show (allO ((List.range n).map fun k => rowP [dk k])).bind _ = _
  rw [allO_map (fun k => rowP [dk k]) (fun k => [[dk k]]) fun k _ => row_o (by simp)]
  show orO ((List.range n).map fun k => [[dk k]]).flatten = _
  have e : ((List.range n).map fun k => [[dk k]]).flatten = ones n := by
    unfold ones
    induction (List.range n) with
    | nil => rfl
    | cons a l ih => simp [ih]
  rw [e]
  exact (orO_nd (ones_uni n).nd fun r hr => by rw [(ones_uni n).len r hr]; decide).1 (by rw [ones_len]; omega)
theorem sum_pr {n m : Nat} (h1 : 1 ≤ n) (h : n ≤ 26) : PR (m + 1) (smP n) := by
  refine .many (fun z => ?_) (by simp; omega) fun t ht => ?_
  · have := congrArg List.length z
    simp at this
    omega
  · obtain ⟨k, hk, rfl⟩ := List.mem_map.mp ht
    have hk := List.mem_range.mp hk
    exact .row (fun d hd => by simp at hd; rw [hd]; exact dk_ok (by omega)) (by simp)
/-- a plot whose rows are counted -/
structure Cnt (n : Nat) (t : Pt) (many deeds : Nat) : Prop where
  pr : PR n t
  no : 200 < many ∨ 24 < deeds → t.o = none
  yes : many ≤ 200 → deeds ≤ 24 → ∃ out, t.o = some out ∧ out.length = many ∧ out.Nodup ∧ ∀ r ∈ out, ∀ d ∈ r, d.tk = false
theorem cnt_row {n : Nat} {ds : Row} (ho : ∀ d ∈ ds, d.Ok) (hs : ∀ d ∈ ds, d.tk = false) (hl : ds.length ≤ 100) : Cnt n (rowP ds) 1 ds.length := by
  refine ⟨.row ho hl, fun h => ?_, fun _ h => ⟨[ds], row_o h, rfl, by simp, fun r hr => by simp at hr; rw [hr]; exact hs⟩⟩
  have h : 24 < ds.length := by omega
  exact orO_neg fun z => by have := z.1 ds (by simp); omega
theorem cnt_again {n m a b : Nat} (h1 : 1 ≤ m) (h6 : m ≤ 26) (hab : a ≤ b) (hb : b ≤ 4) : Cnt (n + 2) (agP (smP m) a b) (sumR m a (b + 1)) b := by
  have eo : (agP (smP m) a b).o = againO (ones m) a b := by
    show (smP m).o.bind _ = _
    rw [sum_o h6]
    rfl
  have hu := again_uni (ones_uni m) (by rw [ones_len]; exact h1) hab (show b ≤ 20 by omega)
  rw [ones_len] at hu
  refine ⟨.again (sum_pr h1 h6) hab hb, fun h => ?_, fun h _ => ?_⟩
  · rw [eo]
    exact hu.2 (by omega)
  · obtain ⟨out, e, nd, sd, l⟩ := hu.1 h
    exact ⟨out, by rw [eo, e], l, nd, sd⟩
theorem cnt_rep {n one other : Nat} {ds : Row} (ho : ∀ d ∈ ds, d.Ok) (hs : ∀ d ∈ ds, d.tk = false) (h1 : 1 ≤ ds.length) (h2 : ds.length ≤ 2) (hone : one ≤ 4) (hot : other ≤ 4) : Cnt (n + 2) (agP (agP (rowP ds) 0 one) 0 other) (one * other + 1) (ds.length * one * other) := by
  have hle : one * ds.length ≤ 24 := Nat.le_trans (Nat.mul_le_mul hone h2) (by decide)
  have ei : (agP (rowP ds) 0 one).o = some (rpL ds (one + 1)) := by
    show (rowP ds).o.bind _ = _
    rw [row_o (by omega)]
    exact again_one h1 hle
  have eo : (agP (agP (rowP ds) 0 one) 0 other).o = againO (rpL ds (one + 1)) 0 other := by
    show (agP (rowP ds) 0 one).o.bind _ = _
    rw [ei]
    rfl
  have ed : ds.length * one * other = one * other * ds.length := by rw [Nat.mul_assoc, Nat.mul_comm]
  have h16 : one * other ≤ 16 := Nat.mul_le_mul hone hot
  obtain ⟨r1, r2⟩ := again_rep h1 one other
  refine ⟨.again (.again (.row ho (by omega)) (by omega) hone) (by omega) hot, fun h => ?_, fun _ h => ⟨rpL ds (one * other + 1), ?_, rpL_len _, rpL_nd h1 _, fun r hr d hd => ?_⟩⟩
  · rw [eo]
    exact r2 (by rw [← ed]; omega)
  · rw [eo]
    exact r1 (by rw [← ed]; exact h)
  · obtain ⟨i, _, rfl⟩ := List.mem_map.mp hr
    unfold rep at hd
    obtain ⟨l, hl, hd⟩ := List.mem_flatten.mp hd
    rw [List.eq_of_mem_replicate hl] at hd
    exact hs d hd
theorem cnt_then {n : Nat} {ns : List Nat} (hne : ns ≠ []) (hl : ns.length ≤ 24) (hs : ∀ k ∈ ns, 1 ≤ k ∧ k ≤ 26) : Cnt (n + 2) (manyP false (ns.map smP)) (prodN ns) ns.length := by
  have eo : (manyP false (ns.map smP)).o = thenO (ns.map ones) := by
    show (allO (ns.map smP)).bind _ = _
    rw [allO_map smP ones fun k hk => sum_o (hs k hk).2]
    rfl
  have hu := then_uni (L := ns.map ones) (n := ns.length) (by simp) hl fun l hl => by
    obtain ⟨k, hk, rfl⟩ := List.mem_map.mp hl
    exact ⟨ones_uni k, by rw [ones_len]; exact (hs k hk).1⟩
  have em : (ns.map ones).map List.length = ns := by
    rw [List.map_map]
    conv => rhs; rw [← List.map_id ns]
    exact List.map_congr_left fun k _ => ones_len k
  rw [em] at hu
  refine ⟨.many (fun z => hne (List.map_eq_nil_iff.mp z)) (by simp; omega) fun t ht => ?_, fun h => ?_, fun h _ => ?_⟩
  · obtain ⟨k, hk, rfl⟩ := List.mem_map.mp ht
    exact sum_pr (hs k hk).1 (hs k hk).2
  · rw [eo]
    exact hu.2 (by omega)
  · obtain ⟨out, e, u, l⟩ := hu.1 h
    exact ⟨out, by rw [eo, e], l, u.nd, u.sd⟩
/-- as it is asked at last -/
structure Cnl (n : Nat) (t : Pt) (many deeds : Nat) : Prop where
  pr : PR n t
  no : 200 < many ∨ 24 < deeds → t.o = none
  yes : many ≤ 200 → deeds ≤ 24 → ∃ out, t.o = some out ∧ out.length = many
theorem PR.up : ∀ {n : Nat} {t : Pt}, PR n t → PR (n + 1) t := fun h => by
  induction h with
  | row a b => exact .row a b
  | again _ a b ih => exact .again ih a b
  | many a b _ ih => exact .many a b ih
def zz : Deed := ⟨true, "me", "you", "zz"⟩
theorem cnt_or {n many deeds : Nat} {t : Pt} (h : Cnt n t many deeds) : Cnl (n + 1) (manyP true [t, rowP [zz]]) (many + 1) deeds := by
  have hz : zz.Ok := ⟨by decide +kernel, by decide +kernel, by decide +kernel, by decide +kernel⟩
  have pz : PR n (rowP [zz]) := .row (fun d hd => by simp at hd; rw [hd]; exact hz) (by simp)
  have hno : t.o = none → (manyP true [t, rowP [zz]]).o = none := fun e => by
    show (allO [t, rowP [zz]]).bind _ = _
    rw [allO_none (t := t) (by simp) e]
    rfl
  have hsome : ∀ out, t.o = some out → (manyP true [t, rowP [zz]]).o = orO (out ++ [[zz]]) := fun out e => by
    show (t.o.bind fun r => (allO [rowP [zz]]).map (r :: ·)).bind _ = _
    rw [e]
    show ((allO [rowP [zz]]).map (out :: ·)).bind _ = _
    have : allO [rowP [zz]] = some [[[zz]]] := by
      show (rowP [zz]).o.bind _ = _
      rw [row_o (by simp)]
      rfl
    rw [this]
    show orO (out ++ ([[zz]] ++ [])) = _
    rw [List.append_nil]
  refine ⟨.many (by simp) (by simp) fun q hq => ?_, fun hh => ?_, fun h1 h2 => ?_⟩
  · simp at hq
    rcases hq with rfl | rfl
    · exact h.pr
    · exact pz
  · by_cases hb : 200 < many ∨ 24 < deeds
    · exact hno (h.no hb)
    · obtain ⟨out, e, l, nd, sd⟩ := h.yes (by omega) (by omega)
      rw [hsome out e]
      have nd' : (out ++ [[zz]]).Nodup := List.nodup_append.mpr ⟨nd, by simp, fun x hx y hy q => by simp at hy; rw [q, hy] at hx; have := sd _ hx zz (by simp); cases this⟩
      refine orO_neg fun z => ?_
      have := z.2
      rw [nub_nd nd', List.length_append, l] at this
      simp at this
      omega
  · obtain ⟨out, e, l, nd, sd⟩ := h.yes (by omega) h2
    have nd' : (out ++ [[zz]]).Nodup := List.nodup_append.mpr ⟨nd, by simp, fun x hx y hy q => by simp at hy; rw [q, hy] at hx; have := sd _ hx zz (by simp); cases this⟩
    refine ⟨out ++ [[zz]], ?_, by simp [l]⟩
    rw [hsome out e]
    refine (orO_nd nd' fun r hr => ?_).1 (by simp [l]; omega)
    rcases List.mem_append.mp hr with q | q
    · exact h.pr.le e r q
    · simp at q
      rw [q]
      decide
theorem Cnt.plain {n many deeds : Nat} {t : Pt} (h : Cnt n t many deeds) : Cnl (n + 1) t many deeds := ⟨h.pr.up, h.no, fun a b => by obtain ⟨out, e, l, _⟩ := h.yes a b; exact ⟨out, e, l⟩⟩
end K1
namespace K1
open PySem L2
theorem letN_at {i : Nat} (h : i < 26) : atI LET.cps.toList (i : Int) = some (97 + i) := by
  have : ∀ j : Fin 26, atI LET.cps.toList (j.1 : Int) = some (97 + j.1) := by decide +kernel
  exact this ⟨i, h⟩
section
variable {P : Program} {w : World} {K : PySem.W.Frag} {mg : Str → Option Value} {base : Heap} {kA : Addr} (D : All K mg kA)
def rDeeds : RB := fun as W k => ∃ n : Nat, as = [.d (.int (n : Int))] ∧ n ≤ 26 ∧ k (.d (.list ((dks n).map dP))) W
abbrev nDs : List Str := ["_law_amount", "_law_letters"]
theorem scDs : FnScope nDs ["_law_amount"] (defScope sl_deeds) := ⟨rfl, rfl, rfl, by decide +kernel, rfl, by decide +kernel, by decide +kernel⟩
theorem ndDs : nDs.Nodup := by decide +kernel
def cDs : Scope := match defBody sl_deeds with
  | [_, .Return (some (.ListComp _ _ sc _)) _] => sc
  | _ => noSc
theorem csDs : CmpScope nDs (defScope sl_deeds) ["_law_k"] ["_law_letters"] [1] cDs := ⟨rfl, by decide +kernel, by decide +kernel, by decide +kernel, rfl, by decide +kernel⟩
theorem ndDs1 : (["_law_k", "_law_letters"] : List Str).Nodup := by decide +kernel
def dkD : PyData → PyData
  | .int k => dP (dk k.toNat)
  | _ => .none
theorem dks_D (n : Nat) : (rangeD 0 n).map dkD = (dks n).map dP := by
  unfold rangeD dks
  rw [List.map_map, List.map_map]
  exact List.map_congr_left fun i _ => by simp [dkD]
theorem okDeeds : Fok P w base D.l_deeds 1 rDeeds := by
  refine fn_B D.l_deeds.d.fn scDs (fun as W k ⟨n, e, _⟩ => by subst e; rfl) fun cdv A outer s H E hr F0 A0 as W k hcl ⟨n, e, hn, hk⟩ => ?_
  subst e
  refine bs_cons (bs_set (i := 1) ndDs rfl (Or.inr rfl) (be_str ?_))
  refine bs_one (bs_ret (be_comp rfl csDs (bi_range1 rfl D.T.t.range_ (bv 0 rfl ⟨_, rfl, by omega, by omega, kc_map dkD trivial ?_ (fun d hd => ?_) ?_⟩))))
  · rw [range_len]
    exact small_le (by omega)
  · unfold rangeD at hd
    obtain ⟨i, hi, rfl⟩ := List.mem_map.mp hd
    have hi := List.mem_range.mp hi
    have e0 : (0 : Int) + (i : Int) = (i : Int) := by omega
    rw [e0]
    refine bgc_name (i := 0) ndDs1 rfl (by decide) (fun _ _ _ _ _ => Or.inl rfl) (fun _ _ _ _ _ => rfl) fun cl C ex s H => ?_
    exact be_tup (ba_cons (be_str (ba_cons (be_str (ba_cons (be_str (ba_one (be_ix (by intro _ _; rfl) (bv 1 rfl (bv 0 rfl (ib_str (by decide) (letN_at (i := i) (by omega)) ⟨[.str "send", .str "me", .str "you", .str (chA i)], rfl, by show 4 ≤ sizeLine; decide, rfl, rfl⟩)))))))))))
  · rw [show ((n : Int)).toNat = n from rfl, dks_D]
    exact hk
end
end K1
namespace K1
open PySem L2
section
variable {P : Program} {w : World} {K : PySem.W.Frag} {mg : Str → Option Value} {base : Heap} {kA : Addr} (D : All K mg kA)
def rSum : RB := fun as W k => ∃ n : Nat, as = [.d (.int (n : Int))] ∧ n ≤ 26 ∧ k (.d (smP n).p) W
theorem scSm : FnScope ["_law_amount"] ["_law_amount"] (defScope sl_sum) := ⟨rfl, rfl, rfl, by decide +kernel, rfl, by decide +kernel, by decide +kernel⟩
def cSm : Scope := match defBody sl_sum with
  | [.Return (some (.Tuple [_, .Call _ [.ListComp _ _ sc _] _ _] _ _)) _] => sc
  | _ => noSc
theorem csSm : CmpScope ["_law_amount"] (defScope sl_sum) ["_law_deed"] [] [] cSm := ⟨rfl, by decide +kernel, by decide +kernel, by decide +kernel, rfl, by decide +kernel⟩
theorem ndSm1 : (["_law_deed"] : List Str).Nodup := by decide +kernel
theorem smP_p (n : Nat) : (smP n).p = .tuple [.str "or", .tuple (((dks n).map dP).map fun d => .tuple [.str "row", .tuple [d]])] := by
  show PyData.tuple [.str "or", .tuple (((List.range n).map fun k => rowP [dk k]).map (·.p))] = _
  unfold dks
  rw [List.map_map, List.map_map, List.map_map]
  rfl
theorem okSum : Fok P w base D.l_sum 2 rSum := by
  have N := okDeeds (P := P) (w := w) (base := base) D
  refine fn_B D.l_sum.d.fn scSm (fun as W k ⟨n, e, _⟩ => by subst e; rfl) fun cdv A outer s H E hr F0 A0 as W k hcl ⟨n, e, hn, hk⟩ => ?_
  subst e
  rw [smP_p] at hk
  refine bs_one (bs_ret (be_tup (ba_cons (be_str (ba_one (be_callT rfl D.T.t.tuple_ b_tuple (ba_one (be_comp rfl csSm (bi_list (bc D.l_deeds N hr (ba_one (bv 0 rfl ⟨n, rfl, hn, _, rfl, kc_map (fun d => .tuple [.str "row", .tuple [d]]) trivial ?_ (fun d hd => ?_) ?_⟩))))))))))))
  · rw [List.length_map]
    unfold dks
    rw [List.length_map, List.length_range]
    exact small_le (by omega)
  · refine bgc_name (i := 0) ndSm1 rfl (by decide) (fun _ _ _ _ _ => Or.inl rfl) (fun _ _ _ _ _ => rfl) fun cl C ex s H => ?_
    exact be_tup (ba_cons (be_str (ba_one (be_tup (ba_one (bv 0 rfl ⟨[d], rfl, by show 1 ≤ sizeLine; decide, [.str "row", .tuple [d]], rfl, by show 2 ≤ sizeLine; decide, rfl, rfl⟩))))))
  · exact cb_tupL (.inl rfl) ⟨[.str "or", _], rfl, by show 2 ≤ sizeLine; decide, hk⟩
end
end K1
namespace K1
open PySem L2
theorem cutS (x : Int) {a b : Nat} (hab : a ≤ b) (hb : b ≤ 4) : cutL [PyData.int 1, .int x, .int (x ^ (2 : Int).toNat), .int (x ^ (3 : Int).toNat), .int (x ^ (4 : Int).toNat)] (some (a : Int)) (some ((b : Int) + 1)) = ((([1, x, x ^ 2, x ^ 3, x ^ 4] : List Int).drop a).take (b + 1 - a)).map .int := by
  rcases (show b = 0 ∨ b = 1 ∨ b = 2 ∨ b = 3 ∨ b = 4 by omega) with rfl | rfl | rfl | rfl | rfl <;> rcases (show a = 0 ∨ a = 1 ∨ a = 2 ∨ a = 3 ∨ a = 4 by omega) with rfl | rfl | rfl | rfl | rfl <;> first | rfl | omega
theorem sumS (m : Nat) {a b : Nat} (hab : a ≤ b) (hb : b ≤ 4) : ((([1, (m : Int), (m : Int) ^ 2, (m : Int) ^ 3, (m : Int) ^ 4] : List Int).drop a).take (b + 1 - a)).sum = ((sumR m a (b + 1) : Nat) : Int) := by
  rcases (show b = 0 ∨ b = 1 ∨ b = 2 ∨ b = 3 ∨ b = 4 by omega) with rfl | rfl | rfl | rfl | rfl <;> rcases (show a = 0 ∨ a = 1 ∨ a = 2 ∨ a = 3 ∨ a = 4 by omega) with rfl | rfl | rfl | rfl | rfl <;> first | omega | (simp [sumR] <;> omega)
def dbl : Row := dks 15 ++ dks 15
theorem cutR {n : Nat} (h : n ≤ 30) : cutL (List.replicate (2 : Int).toNat ((dks 15).map dP)).flatten none (some (n : Int)) = (dbl.take n).map dP := by
  have e : (List.replicate (2 : Int).toNat ((dks 15).map dP)).flatten = dbl.map dP := by
    show (List.map dP (dks 15)) ++ (List.map dP (dks 15) ++ []) = _
    unfold dbl
    rw [List.append_nil, List.map_append]
  rw [e, List.map_take]
  unfold cutL
  have hl : (dbl.map dP).length = 30 := by simp [dbl, dks]
  rw [hl]
  have e1 : HT.sIx 30 0 (none : Option Int) = 0 := rfl
  have e2 : HT.sIx 30 30 (some (n : Int)) = n := by
    have : ∀ j : Fin 31, HT.sIx 30 30 (some (j.1 : Int)) = j.1 := by decide +kernel
    exact this ⟨n, by omega⟩
  rw [e1, e2]
  rfl
theorem dks_ok {n : Nat} (h : n ≤ 26) : ∀ d ∈ dks n, d.Ok := fun d hd => by
  obtain ⟨k, hk, rfl⟩ := List.mem_map.mp hd
  have := List.mem_range.mp hk
  exact dk_ok (by omega)
theorem dks_sd {n : Nat} : ∀ d ∈ dks n, d.tk = false := fun d hd => by
  obtain ⟨k, hk, rfl⟩ := List.mem_map.mp hd
  rfl
theorem dks_len (n : Nat) : (dks n).length = n := by unfold dks; simp
theorem dbl_in {n : Nat} : ∀ d ∈ dbl.take n, d ∈ dks 15 := fun d hd => by
  have := List.mem_of_mem_take hd
  unfold dbl at this
  exact (List.mem_append.mp this).elim id id
theorem dbl_len {n : Nat} (h : n ≤ 30) : (dbl.take n).length = n := by
  rw [List.length_take]
  have : dbl.length = 30 := by simp [dbl, dks]
  omega
theorem size_at {i : Int} (h0 : 0 ≤ i) (h1 : i < 5) : ∃ n : Nat, n ≤ 30 ∧ atI [PyData.int 23, .int 24, .int 25, .int 30, .int 12] i = some (.int n) := by
  rcases (show i = 0 ∨ i = 1 ∨ i = 2 ∨ i = 3 ∨ i = 4 by omega) with rfl | rfl | rfl | rfl | rfl
  · exact ⟨23, by omega, rfl⟩
  · exact ⟨24, by omega, rfl⟩
  · exact ⟨25, by omega, rfl⟩
  · exact ⟨30, by omega, rfl⟩
  · exact ⟨12, by omega, rfl⟩
section
variable {P : Program} {w : World} {K : PySem.W.Frag} {mg : Str → Option Value} {base : Heap} {kA : Addr} (D : All K mg kA)
theorem okTake : Fok P w base D.l_take 1 rTake := ok_take D.l_take.d.fn D.T.t
theorem okPack : Fok P w base D.l_pack 2 rPack := ok_pack D.l_pack.d.fn D.T.t D.l_mixed.d
def cntD (t : Pt) (many deeds : Nat) : PyData := .tuple [t.p, .int many, .int deeds]
def rCounted : RB := fun as W k => ∃ p, as = [.o p] ∧ WellAt W p ∧ ∀ (t : Pt) (many deeds : Nat) W', Cnt 2 t many deeds → WellW W p W' → k (.d (cntD t many deeds)) W'
abbrev nCo : List Str := ["_law_pack_here", "_law_pick", "_law_one", "_law_other", "_law_deeds_here", "_law_inner", "_law_size", "_law_amount", "_law_least", "_law_most", "_law_many", "_law_sizes"]
theorem scCo : FnScope nCo ["_law_pack_here"] (defScope sl_counted) := ⟨rfl, rfl, rfl, by decide +kernel, rfl, by decide +kernel, by decide +kernel⟩
theorem ndCo : nCo.Nodup := by decide +kernel
def cC1 : Scope := match (defBody sl_counted).getD 4 (.Pass ⟨0, 0, 0, 0⟩) with
  | .Assign _ (.ListComp _ _ sc _) _ => sc
  | _ => noSc
def cC2 : Scope := match (defBody sl_counted).getD 7 (.Pass ⟨0, 0, 0, 0⟩) with
  | .Return (some (.Tuple [.Tuple [_, .Call _ [.ListComp _ _ sc _] _ _] _ _, _, _] _ _)) _ => sc
  | _ => noSc
theorem csC1 : CmpScope nCo (defScope sl_counted) ["_law_turn"] ["_law_pack_here"] [0] cC1 := ⟨rfl, by decide +kernel, by decide +kernel, by decide +kernel, rfl, by decide +kernel⟩
theorem csC2 : CmpScope nCo (defScope sl_counted) ["_law_size"] [] [] cC2 := ⟨rfl, by decide +kernel, by decide +kernel, by decide +kernel, rfl, by decide +kernel⟩
theorem ndC1 : (["_law_turn", "_law_pack_here"] : List Str).Nodup := by decide +kernel
theorem ndC2 : (["_law_size"] : List Str).Nodup := by decide +kernel
noncomputable def sumD : PyData → PyData
  | .int n => (smP n.toNat).p
  | d => d
def natsD (ns : List Nat) : List PyData := ns.map fun (n : Nat) => .int n
theorem sum_map (ns : List Nat) : (natsD ns).map sumD = (ns.map smP).map (·.p) := by
  unfold natsD
  rw [List.map_map, List.map_map]
  rfl
set_option maxHeartbeats 2000000 in
theorem okCounted : Fok P w base D.l_counted 3 rCounted := by
  have NT := okTake (P := P) (w := w) (base := base) D
  have ND := okDeeds (P := P) (w := w) (base := base) D
  have NS := okSum (P := P) (w := w) (base := base) D
  refine fn_B D.l_counted.d.fn scCo (fun as W k ⟨p, e, _⟩ => by subst e; rfl) fun cdv A outer s H E hr F0 A0 as W k hcl ⟨p, e, hp, hk⟩ => ?_
  subst e
  have hpl := hp.lt
  refine bs_cons (bs_set (i := 1) ndCo rfl (Or.inl rfl) (bc D.l_take NT hr (ba_cons (bv 0 rfl (ba_one (be_int ⟨p, 5, rfl, hp, by decide, by decide, fun c W1 a0 a1 pw1 => ?_⟩))))))
  refine bs_cons (bs_if (bt_cmp rfl (bv 1 rfl (be_int (ob_eqI ⟨_, rfl, ?_⟩)))))
  by_cases h4 : c = 4
  · rw [decide_eq_true h4]
    refine iteT (bs_cons (bs_par (i := 2) (j := 3) rfl ndCo rfl rfl (by decide) rfl rfl (ba_cons (be_op (be_int (bc D.l_take NT hr (ba_cons (bv 0 rfl (ba_one (be_int ⟨p, 4, rfl, pw1.at hpl, by decide, by decide, fun r2 W2 b0 b1 pw2 => ob_add ?_⟩))))))))))
    have pw2 := pw1.trans pw2
    refine ba_one (be_op (be_int (bc D.l_take NT hr (ba_cons (bv 0 rfl (ba_one (be_int ⟨p, 4, rfl, pw2.at hpl, by decide, by decide, fun r3 W3 c0 c1 pw3 => ob_add ⟨_, _, rfl, ?_⟩⟩)))))))
    have pw3 := pw2.trans pw3
    obtain ⟨one, h1, h1b⟩ : ∃ n : Nat, 1 + r2 = n ∧ n ≤ 4 := ⟨(1 + r2).toNat, by omega, by omega⟩
    obtain ⟨oth, h2, h2b⟩ : ∃ n : Nat, 1 + r3 = n ∧ n ≤ 4 := ⟨(1 + r3).toNat, by omega, by omega⟩
    rw [h1, h2]
    refine bs_cons (bs_set (i := 4) ndCo rfl (Or.inl rfl) (be_callT rfl D.T.t.tuple_ b_tuple (ba_one (bc D.l_deeds ND hr (ba_one (be_op (be_int (bc D.l_take NT hr (ba_cons (bv 0 rfl (ba_one (be_int ⟨p, 2, rfl, pw3.at hpl, by decide, by decide, fun r4 W4 d0 d1 pw4 => ob_add ?_⟩))))))))))))
    have pw4 := pw3.trans pw4
    obtain ⟨m, h3, h3a, h3b⟩ : ∃ n : Nat, 1 + r4 = n ∧ 1 ≤ n ∧ n ≤ 2 := ⟨(1 + r4).toNat, by omega, by omega, by omega⟩
    rw [h3]
    refine ⟨m, rfl, by omega, cb_tupL (.inl rfl) ?_⟩
    refine bs_cons (bs_set (i := 5) ndCo rfl (Or.inl rfl) (be_tup (ba_cons (be_str (ba_cons (be_tup (ba_cons (be_str (ba_one (bv 4 rfl ⟨[.str "row", rP (dks m)], rfl, by show 2 ≤ sizeLine; decide, ba_cons (be_int (ba_one (bv 2 rfl ⟨[.str "again", (rowP (dks m)).p, .int 0, .int one], rfl, by show 4 ≤ sizeLine; decide, ?_⟩)))⟩))))))))))
    have hml : (dks m).length = m := dks_len m
    refine bs_one (bs_ret (be_tup (ba_cons (be_tup (ba_cons (be_str (ba_cons (bv 5 rfl (ba_cons (be_int (ba_one (bv 3 rfl ⟨[.str "again", (agP (rowP (dks m)) 0 one).p, .int 0, .int oth], rfl, by show 4 ≤ sizeLine; decide, ba_cons (be_op (be_op (bv 2 rfl (bv 3 rfl (ob_mul (.inr ⟨by omega, by omega⟩) (be_int (ob_add ?_)))))))⟩))))))))))))
    refine ba_one (be_op (be_op (be_callB rfl D.T.t.len_ b_len (ba_one (bv 4 rfl (cb_lenT (bv 2 rfl (ob_mul (.inr ⟨by omega, by omega⟩) (bv 3 rfl (ob_mul (.inr ⟨by omega, by omega⟩) ?_))))))))))
    rw [List.length_map, hml, ← Int.natCast_mul, ← Int.natCast_mul, ← Int.natCast_mul, show (((one * oth : Nat) : Int) + 1) = ((one * oth + 1 : Nat) : Int) from rfl]
    have hc := cnt_rep (n := 0) (one := one) (other := oth) (ds := dks m) (dks_ok (by omega)) dks_sd (by omega) (by omega) h1b h2b
    rw [hml] at hc
    exact ⟨[(agP (agP (rowP (dks m)) 0 one) 0 oth).p, .int (one * oth + 1 : Nat), .int (m * one * oth : Nat)], rfl, by show 3 ≤ sizeLine; decide, hk _ _ _ W4 hc pw4⟩
  rw [decide_eq_false h4]
  refine iteF (bs_nil (bs_cons (bs_if (bt_cmp rfl (bv 1 rfl (be_int (ob_eqI ⟨_, rfl, ?_⟩)))))))
  by_cases h0 : c = 0
  · rw [decide_eq_true h0]
    refine iteT (bs_cons (bs_set (i := 6) ndCo rfl (Or.inl rfl) (be_ix (by intro _ _; rfl) (be_lst (ba_cons (be_int (ba_cons (be_int (ba_cons (be_int (ba_cons (be_int (ba_one (be_int ⟨[.int 23, .int 24, .int 25, .int 30, .int 12], rfl, by show 5 ≤ sizeLine; decide, bc D.l_take NT hr (ba_cons (bv 0 rfl (ba_one (be_int ⟨p, 5, rfl, pw1.at hpl, by decide, by decide, fun r2 W2 b0 b1 pw2 => ?_⟩))))⟩))))))))))))))
    have pw2 := pw1.trans pw2
    obtain ⟨n, hn, hat⟩ := size_at b0 b1
    refine ib_lst hat ?_
    refine bs_one (bs_ret (be_tup (ba_cons (be_tup (ba_cons (be_str (ba_one (be_callT rfl D.T.t.tuple_ b_tuple (ba_one (be_slice (be_op (bc D.l_deeds ND hr (ba_one (be_int ⟨15, rfl, by decide, be_int (ob_repl (.inl rfl) (by decide) (by decide) ?_ (bo_none (bo_some (bv 6 rfl ⟨_, rfl, lb_lst ?_⟩))))⟩))))))))))))))
    · rw [List.length_map, dks_len]
      exact small_le (by decide)
    · rw [cutR hn]
      have hc := cnt_row (n := 2) (ds := dbl.take n) (fun d hd => dks_ok (by decide) d (dbl_in d hd)) (fun d hd => dks_sd d (dbl_in d hd)) (by rw [dbl_len hn]; omega)
      rw [dbl_len hn] at hc
      exact cb_tupL (.inl rfl) ⟨[.str "row", rP (dbl.take n)], rfl, by show 2 ≤ sizeLine; decide, ba_cons (be_int (ba_one (bv 6 rfl ⟨[(rowP (dbl.take n)).p, .int 1, .int n], rfl, by show 3 ≤ sizeLine; decide, hk _ 1 n W2 hc pw2⟩)))⟩
  rw [decide_eq_false h0]
  refine iteF (bs_nil (bs_cons (bs_if (bt_cmp rfl (bv 1 rfl (be_int (ob_eqI ⟨_, rfl, ?_⟩)))))))
  by_cases h1 : c = 1
  · rw [decide_eq_true h1]
    refine iteT (bs_cons (bs_set (i := 7) ndCo rfl (Or.inl rfl) (be_op (be_int (bc D.l_take NT hr (ba_cons (bv 0 rfl (ba_one (be_int ⟨p, 6, rfl, pw1.at hpl, by decide, by decide, fun r2 W2 b0 b1 pw2 => ob_add ?_⟩)))))))))
    have pw2 := pw1.trans pw2
    obtain ⟨m, hm, hm1, hm6⟩ : ∃ n : Nat, 1 + r2 = n ∧ 1 ≤ n ∧ n ≤ 6 := ⟨(1 + r2).toNat, by omega, by omega, by omega⟩
    rw [hm]
    refine bs_cons (bs_set (i := 8) ndCo rfl (Or.inl rfl) (bc D.l_take NT hr (ba_cons (bv 0 rfl (ba_one (be_int ⟨p, 5, rfl, pw2.at hpl, by decide, by decide, fun r3 W3 c0 c1 pw3 => ?_⟩))))))
    have pw3 := pw2.trans pw3
    obtain ⟨a, rfl⟩ : ∃ n : Nat, r3 = n := ⟨r3.toNat, by omega⟩
    refine bs_cons (bs_set (i := 9) ndCo rfl (Or.inl rfl) (be_op (bv 8 rfl (bc D.l_take NT hr (ba_cons (bv 0 rfl (ba_one (be_op (be_int (bv 8 rfl (ob_sub ⟨p, 5 - (a : Int), rfl, pw3.at hpl, by omega, by omega, fun r4 W4 d0 d1 pw4 => ob_add ?_⟩)))))))))))
    have pw4 := pw3.trans pw4
    obtain ⟨b, hb, hab, hb4⟩ : ∃ n : Nat, (a : Int) + r4 = n ∧ a ≤ n ∧ n ≤ 4 := ⟨((a : Int) + r4).toNat, by omega, by omega, by omega⟩
    rw [hb]
    have e64 : (2 : Nat) ^ 64 = 18446744073709551616 := by decide
    have cp : ∀ j : Int, 0 ≤ j → j ≤ 10 → CPow (m : Int) j := fun j h0 h1 => ⟨h0, by omega, by omega⟩
    refine bs_cons (bs_set (i := 10) ndCo rfl (Or.inl rfl) (be_callB rfl D.T.t.sum_ b_sum (ba_one (be_slice (be_lst (ba_cons (be_int (ba_cons (bv 7 rfl (ba_cons (be_op (bv 7 rfl (be_int (ob_pow (cp _ (by decide) (by decide)) (ba_cons (be_op (bv 7 rfl (be_int (ob_pow (cp _ (by decide) (by decide)) (ba_one (be_op (bv 7 rfl (be_int (ob_pow (cp _ (by decide) (by decide)) ⟨[.int 1, .int m, .int ((m : Int) ^ (2 : Int).toNat), .int ((m : Int) ^ (3 : Int).toNat), .int ((m : Int) ^ (4 : Int).toNat)], rfl, (by show 5 ≤ sizeLine; decide), bo_some (bv 8 rfl ⟨_, rfl, bo_some (be_op (bv 9 rfl (be_int (ob_add ⟨_, rfl, lb_lst ?_⟩))))⟩)⟩))))))))))))))))))))))))
    rw [cutS (m : Int) hab hb4]
    refine cb_sum rfl (.inl rfl) ?_
    rw [sumS m hab hb4]
    refine bs_one (bs_ret (be_tup (ba_cons (be_tup (ba_cons (be_str (ba_cons (bc D.l_sum NS hr (ba_one (bv 7 rfl ⟨m, rfl, by omega, ba_cons (bv 8 rfl (ba_one (bv 9 rfl ⟨[.str "again", (smP m).p, .int a, .int b], rfl, by show 4 ≤ sizeLine; decide, ba_cons (bv 10 rfl (ba_one (bv 9 rfl ?_)))⟩)))⟩))))))))))
    exact ⟨[(agP (smP m) a b).p, .int (sumR m a (b + 1) : Nat), .int b], rfl, by show 3 ≤ sizeLine; decide, hk _ _ _ W4 (cnt_again (n := 0) hm1 (by omega) hab hb4) pw4⟩
  rw [decide_eq_false h1]
  refine iteF (bs_nil ?_)
  refine bs_cons (bs_setc (i := 11) ndCo rfl (Or.inl rfl) rfl csC1 (bi_range1 rfl D.T.t.range_ (be_op (be_int (bc D.l_take NT hr (ba_cons (bv 0 rfl (ba_one (be_int ⟨p, 2, rfl, pw1.at hpl, by decide, by decide, fun z W2 b0 b1 pw2 => ob_add ?_⟩)))))))))
  have pw2 := pw1.trans pw2
  obtain ⟨q, hq, hq2, hq3⟩ : ∃ n : Nat, 2 + z = (n : Int) ∧ 2 ≤ n ∧ n ≤ 3 := ⟨(2 + z).toNat, by omega, by omega, by omega⟩
  rw [hq]
  refine ⟨_, rfl, by omega, by omega, fun i ys W' => ∃ ns : List Nat, ys = natsD ns ∧ ns.length = i ∧ (∀ n ∈ ns, 1 ≤ n ∧ n ≤ 14) ∧ WellW W p W', ⟨[], rfl, rfl, by simp, pw2⟩, ?_, ?_, ?_⟩
  · rintro i ys W' hi ⟨ns, rfl, hl, hns, pw⟩
    refine ⟨trivial, ?_⟩
    rw [range_len] at hi
    unfold natsD
    rw [List.length_map]
    exact small_le (by omega)
  · rintro i d ys W' hd ⟨ns, rfl, hl, hns, pw⟩
    refine bgc_name (i := 0) ndC1 rfl (by decide) (fun _ _ _ _ _ => Or.inl rfl) (fun _ _ _ _ _ => rfl) (btc_nil (iteT fun cl C ex s H => ?_))
    refine be_op (be_int (bc D.l_take NT hr (ba_cons (bv 1 rfl (ba_one (be_int ⟨p, 14, rfl, pw.at hpl, by decide, by decide, fun r W3 c0 c1 pw3 => ob_add ?_⟩))))))
    obtain ⟨n, hn, hn1, hn2⟩ : ∃ n : Nat, 1 + r = (n : Int) ∧ 1 ≤ n ∧ n ≤ 14 := ⟨(1 + r).toNat, by omega, by omega, by omega⟩
    rw [hn]
    exact ⟨_, rfl, ns ++ [n], by simp [natsD], by simp [hl], fun x hx => (List.mem_append.mp hx).elim (hns x) fun z => by cases List.mem_singleton.mp z; exact ⟨hn1, hn2⟩, pw.trans pw3⟩
  · rintro ys W' ⟨ns, rfl, hl, hns, pw⟩
    rw [range_len] at hl
    have hl : ns.length = q := hl
    refine bs_cons (bs_set (i := 10) ndCo rfl (Or.inl rfl) (be_int ?_))
    refine bs_cons (bs_for PassesOwn.never rfl (bi_list (bv 11 rfl ⟨natsD ns, rfl, W'.length, fun u S' W2 => ∃ o6, S' = [some (.o p), some (.d (.int c)), none, none, none, none, o6, none, none, none, some (.d (.int (prodN (ns.take u) : Nat))), some (.d (.list (natsD ns)))] ∧ W2 = W', ?_, Nat.zero_le _, Nat.le_refl _, ⟨none, rfl, rfl⟩, fun _ _ _ _ _ => trivial, ?_, ?_⟩)))
    · rw [pw.len]; exact Nat.le_refl _
    · rintro u z S' W2 hz ⟨o6, rfl, rfl⟩
      unfold natsD at hz
      rw [List.getElem?_map] at hz
      obtain ⟨n, hn, rfl⟩ := Option.map_eq_some_iff.mp hz
      have hnb := hns n (List.mem_of_getElem? hn)
      refine bg_name (i := 6) ndCo rfl (Or.inl rfl) ?_
      refine bs_one (bs_set (i := 10) ndCo rfl (Or.inl rfl) (be_op (bv 10 rfl (bv 6 rfl (ob_mul (.inr ⟨by omega, by omega⟩) ?_)))))
      have e1 : prodN (ns.take (u + 1)) = prodN (ns.take u) * n := by rw [List.take_add_one, hn]; exact prod_snoc _ _
      rw [← Int.natCast_mul, ← e1]
      exact ⟨_, rfl, rfl⟩
    · rintro S' W2 ⟨o6, rfl, rfl⟩
      have hll : (natsD ns).length = ns.length := by unfold natsD; rw [List.length_map]
      rw [hll, List.take_length]
      refine bs_one (bs_ret (be_tup (ba_cons (be_tup (ba_cons (be_str (ba_one (be_callT rfl D.T.t.tuple_ b_tuple (ba_one (be_comp rfl csC2 (bi_list (bv 11 rfl ⟨natsD ns, rfl, kc_map sumD trivial ?_ (fun d hd => ?_) ?_⟩))))))))))))
      · rw [hll]; exact small_le (by omega)
      · unfold natsD at hd
        obtain ⟨n, hn, rfl⟩ := List.mem_map.mp hd
        have hnb := hns n hn
        refine bgc_name (i := 0) ndC2 rfl (by decide) (fun _ _ _ _ _ => Or.inl rfl) (fun _ _ _ _ _ => rfl) fun cl C ex s H => ?_
        exact bc D.l_sum NS hr (ba_one (bv 0 rfl ⟨n, rfl, by omega, rfl, rfl⟩))
      rw [sum_map]
      have hc := cnt_then (n := 0) (ns := ns) (fun z => by rw [z] at hl; simp at hl; omega) (by omega) fun n hn => ⟨(hns n hn).1, by have := (hns n hn).2; omega⟩
      refine cb_tupL (.inl rfl) ⟨[.str "then", .tuple ((ns.map smP).map (·.p))], rfl, by show 2 ≤ sizeLine; decide, ba_cons (bv 10 rfl (ba_one (be_callB rfl D.T.t.len_ b_len (ba_one (bv 11 rfl (cb_lenL (.inl rfl) ?_))))))⟩
      rw [hll]
      exact ⟨[(manyP false (ns.map smP)).p, .int (prodN ns : Nat), .int (ns.length : Nat)], rfl, by show 3 ≤ sizeLine; decide, hk _ _ _ W2 hc pw⟩
end
end K1
namespace L2
open PySem PySem.Spec PyProof.Rows
/-- what isinstance says of an exception, or of None -/
def kitE (K : PySem.W.Frag) : El → Value → Bool → Prop
  | .x C, c, b => ExcK K C ∧ PySem.W.kitOne K (.ref C) c = some b
  | .d .none, c, b => PySem.W.kitOne K (.type "NoneType") c = some b
  | _, _, _ => False
section
variable {X : Bc} {S : Sl} {W : Wl} {k : KB}
theorem call_isE : CallR X (.builtin "isinstance") (fun xs H Q => ∃ (x cv : V) (c : Value) (b : Bool), xs = [x, cv] ∧ (∀ u, RelV cv u → u = c) ∧ ((∃ a C, x = .ref a ∧ H a = some (excO a C) ∧ ExcK X.K C ∧ PySem.W.kitOne X.K (.ref C) c = some b) ∨ (x = .non ∧ PySem.W.kitOne X.K (.type "NoneType") c = some b)) ∧ Q (.bl b) H) := by
  intro pins s σ H xs us Q I r h
  obtain ⟨x, cv, c, b, rfl, hcv, hx, q⟩ := h
  rcases hx with ⟨a, C, rfl, hH, ek, e⟩ | ⟨rfl, e⟩
  · exact call_isX pins s σ H _ us Q I r ⟨a, C, cv, c, b, rfl, hH, ek, hcv, e, q⟩
  · obtain ⟨u, v, rfl, ru, rv⟩ := r.two
    cases hcv v rv
    exact isinst_ok I ru .non e fun tk => ⟨.bl b, H, I.tok tk, rfl, q⟩
theorem kit_use {F1 : Hp} {A1 : List Addr} {W1 : Wl} {H1 : Hp} {y : El} {vy : V} {c : Value} {b : Bool} (r1 : RW X.K F1 A1 W1 H1) (z1 : ElR X.K F1 A1 y vy) (h : kitE X.K y c b) : (∃ a C, vy = .ref a ∧ H1 a = some (excO a C) ∧ ExcK X.K C ∧ PySem.W.kitOne X.K (.ref C) c = some b) ∨ (vy = .non ∧ PySem.W.kitOne X.K (.type "NoneType") c = some b) := by
  cases y with
  | x C =>
    obtain ⟨a, rfl, ha⟩ := z1
    exact .inl ⟨a, C, rfl, r1.sub _ _ ha, h.1, h.2⟩
  | d dd =>
    cases dd with
    | none =>
      have z1 : Rq X.K F1 vy .none := z1
      cases z1
      exact .inr ⟨rfl, h⟩
    | _ => exact h.elim
  | _ => exact h.elim
theorem be_isEg {e : Expr} {x : Str} {Dc : Addr} {p p' pos : Pos} (hg : Gl X "isinstance") (hm : X.mg "isinstance" = none) (hv : bootBuiltins "isinstance" = some (.builtin "isinstance")) (hmD : X.mg x = some (.ref Dc))
    (h : BE X S W e fun y W1 => ∃ b, kitE X.K y (.ref Dc) b ∧ k (.d (.bool b)) W1) (hgD : Gl X x := by rfl) (hd : (x == ("__debug__" : Str)) = false := by decide)
    (hs : starEach [e, .Name x p'] X.env = (false, eval e X.env) :: starEach [.Name x p'] X.env := by rfl) (hs2 : starEach [.Name x p'] X.env = [(false, eval (.Name x p') X.env)] := by rfl) (hpl : (backTo pos (starEach [.Name x p'] X.env)).any (·.1) = false := by rfl) :
    BE X S W (.Call (.Name "isinstance" p) [e, .Name x p'] [] pos) k :=
  .of (pe_callB call_isE hg hm hv (pa_cons pe_U (pa_cons (pe_glob (v := .ref Dc) hgD hmD rfl hd) pa_nil hs2) hs) (by decide) (by decide) hs hpl) fun F A σ H Q x0 r sr q => h.use x0 r sr fun F1 A1 W1 H1 y vy e1 r1 z1 ⟨b, hy, h1⟩ =>
    ⟨vy, .ref Dc, .ref Dc, b, rfl, fun u hu => hu, kit_use r1 z1 hy, (q.ext e1).same r1 (.dd (Rq.bl _)) h1⟩
theorem be_isEt {e : Expr} {T : Str} {Ts : String} {p p' pos : Pos} (hg : Gl X "isinstance") (hm : X.mg "isinstance" = none) (hv : bootBuiltins "isinstance" = some (.builtin "isinstance")) (hgT : Gl X T) (hmT : X.mg T = none) (hvT : bootBuiltins T = some (.type Ts))
    (h : BE X S W e fun y W1 => ∃ b, kitE X.K y (.type Ts) b ∧ k (.d (.bool b)) W1) (hn : T ≠ "__name__" := by decide) (hd : (T == ("__debug__" : Str)) = false := by decide)
    (hs : starEach [e, .Name T p'] X.env = (false, eval e X.env) :: starEach [.Name T p'] X.env := by rfl) (hs2 : starEach [.Name T p'] X.env = [(false, eval (.Name T p') X.env)] := by rfl) (hpl : (backTo pos (starEach [.Name T p'] X.env)).any (·.1) = false := by rfl) :
    BE X S W (.Call (.Name "isinstance" p) [e, .Name T p'] [] pos) k :=
  .of (pe_callB call_isE hg hm hv (pa_cons pe_U (pa_cons (pe_bltn (v := .ty Ts) hgT hmT hvT rfl hn hd) pa_nil hs2) hs) (by decide) (by decide) hs hpl) fun F A σ H Q x0 r sr q => h.use x0 r sr fun F1 A1 W1 H1 y vy e1 r1 z1 ⟨b, hy, h1⟩ =>
    ⟨vy, .ty Ts, .type Ts, b, rfl, fun u hu => hu, kit_use r1 z1 hy, (q.ext e1).same r1 (.dd (Rq.bl _)) h1⟩
end
end L2
namespace K1
open PySem L2
theorem b_ve : bootBuiltins "ValueError" = some (.type "ValueError") := by decide +kernel
/-- what isinstance says of all of them -/
def KitA (K : PySem.W.Frag) (y : El) : List Value → List Bool → Prop
  | c :: cs, b :: bs => kitE K y c b ∧ KitA K y cs bs
  | [], [] => True
  | _, _ => False
abbrev yN : List Bool := [false, false, false, false, false, false, false, false, false, false, false, false]
abbrev yP : List Bool := [true, false, false, false, false, false, false, false, false, false, true, true]
abbrev yT : List Bool := [false, true, false, false, false, false, false, false, false, false, true, true]
structure TxtF (K : PySem.W.Frag) (cs : List Value) (cP cT : Addr) : Prop where
  n : KitA K (.d .none) cs yN
  p : KitA K (.x cP) cs yP
  t : KitA K (.x cT) cs yT
/-- the classes, in the order asked -/
structure TxtE (K : PySem.W.Frag) (mg : Str → Option Value) (cP cT c1 c2 c3 c4 c5 c6 c7 c8 cE : Addr) : Prop where
  tale : mg "TaleError" = some (.ref cE)
  ve : mg "ValueError" = none
  m1 : mg "NoBook" = some (.ref c1)
  m2 : mg "NoCall" = some (.ref c2)
  m3 : mg "NoHand" = some (.ref c3)
  m4 : mg "NoKept" = some (.ref c4)
  m5 : mg "NoNames" = some (.ref c5)
  m6 : mg "NoRooms" = some (.ref c6)
  m7 : mg "NoRow" = some (.ref c7)
  m8 : mg "NoText" = some (.ref c8)
  exP : PySem.W.exmOne K (.ref cP) (.ref cE) = some true
  exT : PySem.W.exmOne K (.ref cT) (.ref cE) = some true
  kit : TxtF K [.ref cP, .ref cT, .ref c1, .ref c2, .ref c3, .ref c4, .ref c5, .ref c6, .ref c7, .ref c8, .ref cE, .type "ValueError"] cP cT
abbrev clss (cP cT c1 c2 c3 c4 c5 c6 c7 c8 cE : Addr) : List Value := [.ref cP, .ref cT, .ref c1, .ref c2, .ref c3, .ref c4, .ref c5, .ref c6, .ref c7, .ref c8, .ref cE, .type "ValueError"]
section
variable {P : Program} {w : World} {K : PySem.W.Frag} {mg : Str → Option Value} {base : Heap} {kA cP cT c1 c2 c3 c4 c5 c6 c7 c8 cE : Addr} (D : All K mg kA)
def atB (bs : List Bool) : PyData → Bool
  | .int i => bs.getD i.toNat false
  | _ => false
def kindsD (bs : List Bool) : PyData := .list (((rangeD 0 12).filter (atB bs)).map id)
def rKinds (K : PySem.W.Frag) (cs : List Value) : RB := fun as W k => ∃ y bs, as = [y] ∧ KitA K y cs bs ∧ k (.d (kindsD bs)) W
abbrev nKi : List Str := ["_law_caught", "_law_some"]
theorem scKi : FnScope nKi ["_law_caught"] (defScope sl_kinds) := ⟨rfl, rfl, rfl, by decide +kernel, rfl, by decide +kernel, by decide +kernel⟩
theorem ndKi : nKi.Nodup := by decide +kernel
def cKi : Scope := match (defBody sl_kinds).getD 4 (.Pass ⟨0, 0, 0, 0⟩) with
  | .Return (some (.ListComp _ _ sc _)) _ => sc
  | _ => noSc
theorem csKi : CmpScope nKi (defScope sl_kinds) ["_law_k"] ["_law_some"] [1] cKi := ⟨rfl, by decide +kernel, by decide +kernel, by decide +kernel, rfl, by decide +kernel⟩
theorem ndKi1 : (["_law_k", "_law_some"] : List Str).Nodup := by decide +kernel
set_option maxHeartbeats 2000000 in
theorem okKinds (TX : TxtX K mg cT) (TY : TxtY K mg cP) (TE : TxtE K mg cP cT c1 c2 c3 c4 c5 c6 c7 c8 cE) : Fok P w base D.l_kinds 1 (rKinds K (clss cP cT c1 c2 c3 c4 c5 c6 c7 c8 cE)) := by
  refine fn_B D.l_kinds.d.fn scKi (fun as W k ⟨y, bs, e, _⟩ => by subst e; rfl) fun cdv A outer s H E hr F0 A0 as W k hcl ⟨y, bs, e, hK, hk⟩ => ?_
  subst e
  match bs, hK, hk with
  | [b0, b1, b2, b3, b4, b5, b6, b7, b8, b9, b10, b11], ⟨q0, q1, q2, q3, q4, q5, q6, q7, q8, q9, q10, q11, _⟩, hk =>
    refine bs_cons (bs_set (i := 1) ndKi rfl (Or.inr rfl) (be_lst (ba_cons (be_isEg rfl D.T.t.isi b_isi TY.at_ (bv 0 rfl ⟨b0, q0, ba_cons (be_isEg rfl D.T.t.isi b_isi TX.at_ (bv 0 rfl ⟨b1, q1, ba_one (be_isEg rfl D.T.t.isi b_isi TE.m1 (bv 0 rfl ⟨b2, q2, [.bool b0, .bool b1, .bool b2], rfl, by show 3 ≤ sizeLine; decide, ?_⟩))⟩))⟩)))))
    refine bs_cons (bs_set (i := 1) ndKi rfl (Or.inr rfl) (be_op (bv 1 rfl (be_lst (ba_cons (be_isEg rfl D.T.t.isi b_isi TE.m2 (bv 0 rfl ⟨b3, q3, ba_cons (be_isEg rfl D.T.t.isi b_isi TE.m3 (bv 0 rfl ⟨b4, q4, ba_one (be_isEg rfl D.T.t.isi b_isi TE.m4 (bv 0 rfl ⟨b5, q5, [.bool b3, .bool b4, .bool b5], rfl, by show 3 ≤ sizeLine; decide, ob_catl (.inl rfl) (.inl rfl) (by show 6 ≤ sizeLine; decide) ?_⟩))⟩))⟩)))))))
    refine bs_cons (bs_set (i := 1) ndKi rfl (Or.inr rfl) (be_op (bv 1 rfl (be_lst (ba_cons (be_isEg rfl D.T.t.isi b_isi TE.m5 (bv 0 rfl ⟨b6, q6, ba_cons (be_isEg rfl D.T.t.isi b_isi TE.m6 (bv 0 rfl ⟨b7, q7, ba_one (be_isEg rfl D.T.t.isi b_isi TE.m7 (bv 0 rfl ⟨b8, q8, [.bool b6, .bool b7, .bool b8], rfl, by show 3 ≤ sizeLine; decide, ob_catl (.inl rfl) (.inl rfl) (by show 9 ≤ sizeLine; decide) ?_⟩))⟩))⟩)))))))
    refine bs_cons (bs_set (i := 1) ndKi rfl (Or.inr rfl) (be_op (bv 1 rfl (be_lst (ba_cons (be_isEg rfl D.T.t.isi b_isi TE.m8 (bv 0 rfl ⟨b9, q9, ba_cons (be_isEg rfl D.T.t.isi b_isi TE.tale (bv 0 rfl ⟨b10, q10, ba_one (be_isEt rfl D.T.t.isi b_isi rfl TE.ve b_ve (bv 0 rfl ⟨b11, q11, [.bool b9, .bool b10, .bool b11], rfl, by show 3 ≤ sizeLine; decide, ob_catl (.inl rfl) (.inl rfl) (by show 12 ≤ sizeLine; decide) ?_⟩))⟩))⟩)))))))
    refine bs_one (bs_ret (be_comp rfl csKi (bi_range1 rfl D.T.t.range_ (be_int ⟨12, rfl, by decide, by decide, kc_filter (atB [b0, b1, b2, b3, b4, b5, b6, b7, b8, b9, b10, b11]) id trivial ?_ (fun d hd => ?_) hk⟩))))
    · rw [range_len]
      exact small_le (by decide)
    · unfold rangeD at hd
      obtain ⟨i, hi, rfl⟩ := List.mem_map.mp hd
      have hi : i < 12 := List.mem_range.mp hi
      have e0 : (0 : Int) + (i : Int) = (i : Int) := by omega
      rw [e0]
      refine bgc_name (i := 0) ndKi1 rfl (by decide) (fun _ _ _ _ _ => Or.inl rfl) (fun _ _ _ _ _ => rfl) ⟨fun cl C ex s H => ?_, fun _ cl C ex s H => bv 0 rfl ⟨rfl, rfl⟩⟩
      refine bt_val (be_ix (by intro _ _; rfl) (bv 1 rfl (bv 0 rfl (ib_lst (d := .bool (atB [b0, b1, b2, b3, b4, b5, b6, b7, b8, b9, b10, b11] (.int i))) ?_ ⟨_, rfl, rfl, rfl⟩))))
      refine atI_nat' (k := i) ?_
      rcases (show i = 0 ∨ i = 1 ∨ i = 2 ∨ i = 3 ∨ i = 4 ∨ i = 5 ∨ i = 6 ∨ i = 7 ∨ i = 8 ∨ i = 9 ∨ i = 10 ∨ i = 11 by omega) with rfl | rfl | rfl | rfl | rfl | rfl | rfl | rfl | rfl | rfl | rfl | rfl <;> rfl
end
end K1
namespace K1
open PySem L2
section
variable {P : Program} {w : World} {K : PySem.W.Frag} {mg : Str → Option Value} {base : Heap} {kA cP cT c1 c2 c3 c4 c5 c6 c7 c8 cE : Addr} (D : All K mg kA)
def rAsked (n : Nat) : RB := fun as W k => ∃ d : PyData, as = [.d d] ∧ ((Small (n + 1) d ∧ plotB (n + 1) d = false ∧ k (.d (.tuple [.none, kindsD yP])) W) ∨ ∃ t : Pt, d = t.p ∧ PR n t ∧ (∀ out, t.o = some out → ∀ V q, (W ++ V)[q]? = some (ls out) → k (.t [.inr q, .inl (kindsD yN)]) (W ++ V)) ∧ (t.o = none → ∀ V, k (.d (.tuple [.none, kindsD yT])) (W ++ V)))
abbrev nAs : List Str := ["_law_plot", "_law_found", "_law_caught", "e"]
theorem scAs : FnScope nAs ["_law_plot"] (defScope sl_asked) := ⟨rfl, rfl, rfl, by decide +kernel, rfl, by decide +kernel, by decide +kernel⟩
theorem ndAs : nAs.Nodup := by decide +kernel
theorem okAsked (TX : TxtX K mg cT) (TY : TxtY K mg cP) (TE : TxtE K mg cP cT c1 c2 c3 c4 c5 c6 c7 c8 cE) (n : Nat) : Fok P w base D.l_asked (2 * n + 8) (rAsked n) := by
  have NR := okPlotRows (P := P) (w := w) (base := base) D TX TY n
  have NK := okKinds (P := P) (w := w) (base := base) D TX TY TE
  refine fn_B D.l_asked.d.fn scAs (fun as W k ⟨d, e, _⟩ => by subst e; rfl) fun cdv A outer s H E hr F0 A0 as W k hcl ⟨d, e, h⟩ => ?_
  subst e
  refine bs_cons (bs_set (i := 1) ndAs rfl (Or.inl rfl) (be_non ?_))
  refine bs_cons (bs_set (i := 2) ndAs rfl (Or.inl rfl) (be_non ?_))
  rcases h with ⟨hs, hb, hk⟩ | ⟨t, rfl, ht, hk1, hk2⟩
  · refine bs_then (fun S' W' => S' = [some (.d d), some (.d .none), some (.x cP), none] ∧ W' = W) (bs_tryN (i := 3) (fun C S' W' => C = cP ∧ S' = [some (.d d), some (.d .none), some (.d .none), none] ∧ W' = W) ⟨rfl, rfl, rfl⟩ TE.tale ndAs rfl rfl (fun X' pn F1 A1 xe hX xo hps => ?_) (fun X' pn F1 A1 ea C' S' W' hX hy => ?_)) ?_
    · subst hX
      exact bs_one (bs_set (i := 1) ndAs rfl (Or.inl rfl) (bcx D.p_plot_rows NR xo hr (ba_one (bv 0 rfl ⟨d, rfl, .inl ⟨hs, hb, TE.exP, rfl, rfl, rfl⟩⟩)) (by omega)))
    · subst hX
      obtain ⟨rfl, rfl, rfl⟩ := hy
      exact bs_one (bs_set (i := 2) ndAs rfl (Or.inl rfl) (bv 3 rfl ⟨rfl, rfl⟩))
    · rintro S' W' ⟨rfl, rfl⟩
      exact bs_one (bs_ret (be_tup (ba_cons (bv 1 rfl (ba_one (bc D.l_kinds NK hr (ba_one (bv 2 rfl ⟨_, yP, rfl, TE.kit.p, [.none, kindsD yP], rfl, by show 2 ≤ sizeLine; decide, hk⟩)) (by omega)))))))
  · refine bs_then (fun S' W' => (∃ out V q, t.o = some out ∧ S' = [some (.d t.p), some (.o q), some (.d .none), none] ∧ W' = W ++ V ∧ (W ++ V)[q]? = some (ls out)) ∨ ∃ V, t.o = none ∧ S' = [some (.d t.p), some (.d .none), some (.x cT), none] ∧ W' = W ++ V) (bs_tryN (i := 3) (fun C S' W' => C = cT ∧ S' = [some (.d t.p), some (.d .none), some (.d .none), none] ∧ t.o = none ∧ ∃ V, W' = W ++ V) ⟨rfl, rfl, rfl⟩ TE.tale ndAs rfl rfl (fun X' pn F1 A1 xe hX xo hps => ?_) (fun X' pn F1 A1 ea C' S' W' hX hy => ?_)) ?_
    · subst hX
      exact bs_one (bs_set (i := 1) ndAs rfl (Or.inl rfl) (bcx D.p_plot_rows NR xo hr (ba_one (bv 0 rfl ⟨t.p, rfl, .inr ⟨t, rfl, ht, fun out ho V q _ hq => .inl ⟨out, V, q, ho, rfl, rfl, hq⟩, fun ho V => ⟨TE.exT, rfl, rfl, ho, V, rfl⟩⟩⟩)) (by omega)))
    · subst hX
      obtain ⟨rfl, rfl, ho, V, rfl⟩ := hy
      exact bs_one (bs_set (i := 2) ndAs rfl (Or.inl rfl) (bv 3 rfl (.inr ⟨V, ho, rfl, rfl⟩)))
    · rintro S' W' (⟨out, V, q, ho, rfl, rfl, hq⟩ | ⟨V, ho, rfl, rfl⟩)
      · exact bs_one (bs_ret (be_tupT (ba_cons (bv 1 rfl (ba_one (bc D.l_kinds NK hr (ba_one (bv 2 rfl ⟨_, yN, rfl, TE.kit.n, [.inr q, .inl (kindsD yN)], rfl, by show 2 ≤ sizeLine; decide, hk1 out ho V q hq⟩)) (by omega)))))))
      · exact bs_one (bs_ret (be_tup (ba_cons (bv 1 rfl (ba_one (bc D.l_kinds NK hr (ba_one (bv 2 rfl ⟨_, yT, rfl, TE.kit.t, [.none, kindsD yT], rfl, by show 2 ≤ sizeLine; decide, hk2 ho V⟩)) (by omega)))))))
end
def odd5 (p : PyData) : List PyData := [.tuple [.str "row", .list [p]], .tuple [.str "or", .tuple []], .none, .tuple [.str "again", p, .int 1, .int 0], .tuple [.str "row", .tuple [.tuple [.str "send", .str "me", .str "me", .str "x"]]]]
theorem odd5_no {n : Nat} {t : Pt} (h : PR n t) : ∀ d ∈ odd5 t.p, shortT d ∧ Small (n + 2) d ∧ plotB (n + 2) d = false := by
  obtain ⟨h1, h2, h3, h4⟩ := h.yes
  have sw : ∀ x : Str, x.length ≤ 8 → shortD (.str x) := fun x hx => Nat.le_trans hx (by show 8 ≤ sizeLine; decide)
  intro d hd
  simp only [odd5, List.mem_cons, List.not_mem_nil, or_false] at hd
  rcases hd with rfl | rfl | rfl | rfl | rfl
  · have q : ∀ e ∈ ([.str "row", .list [t.p]] : List PyData), shortD e ∧ shortR e := fun e he => by
      simp only [List.mem_cons, List.not_mem_nil, or_false] at he
      rcases he with rfl | rfl
      · exact ⟨sw _ (by decide +kernel), trivial⟩
      · exact ⟨trivial, trivial⟩
    refine ⟨fun e he => (q e he).1, ⟨by simp, q, ?_⟩, ?_⟩
    · show (if ("row" : Str) = "again" then True else if ("row" : Str) = "row" then True else _)
      rw [if_neg (by decide +kernel), if_pos rfl]
      trivial
    · rw [plotB_one (by decide +kernel), if_pos rfl]
      rfl
  · have q : ∀ e ∈ ([.str "or", .tuple []] : List PyData), shortD e ∧ shortR e := fun e he => by
      simp only [List.mem_cons, List.not_mem_nil, or_false] at he
      rcases he with rfl | rfl
      · exact ⟨sw _ (by decide +kernel), trivial⟩
      · exact ⟨trivial, by simp [shortR]⟩
    refine ⟨fun e he => (q e he).1, ⟨by simp, q, ?_⟩, ?_⟩
    · show (if ("or" : Str) = "again" then True else if ("or" : Str) = "row" then True else ([] : List PyData).length ≤ 1000 ∧ ∀ p ∈ ([] : List PyData), Small (n + 1) p)
      rw [if_neg (by decide +kernel), if_neg (by decide +kernel)]
      exact ⟨by simp, fun p hp => by simp at hp⟩
    · rw [plotB_one (by decide +kernel), if_neg (by decide +kernel)]
      exact Bool.and_false _
  · exact ⟨trivial, trivial, rfl⟩
  · have q : ∀ e ∈ ([.str "again", t.p, .int 1, .int 0] : List PyData), shortD e ∧ shortR e := fun e he => by
      simp only [List.mem_cons, List.not_mem_nil, or_false] at he
      rcases he with rfl | rfl | rfl | rfl
      · exact ⟨sw _ (by decide +kernel), trivial⟩
      · exact ⟨h.sd, h2⟩
      · exact ⟨trivial, trivial⟩
      · exact ⟨trivial, trivial⟩
    refine ⟨fun e he => (q e he).1, ⟨by simp, q, ?_⟩, ?_⟩
    · show (if ("again" : Str) = "again" then Small (n + 1) t.p else _)
      rw [if_pos rfl]
      exact h3
    · show (if ("again" : Str) = "again" then (plotB (n + 1) t.p && rngD (.int 1) (.int 0)) else _) = false
      rw [if_pos rfl]
      exact Bool.and_false _
  · have q : ∀ e ∈ ([.str "row", .tuple [.tuple [.str "send", .str "me", .str "me", .str "x"]]] : List PyData), shortD e ∧ shortR e := fun e he => by
      simp only [List.mem_cons, List.not_mem_nil, or_false] at he
      rcases he with rfl | rfl
      · exact ⟨sw _ (by decide +kernel), trivial⟩
      · refine ⟨trivial, by simp, fun e he => ?_⟩
        simp only [List.mem_cons, List.not_mem_nil, or_false] at he
        subst he
        intro e he
        simp only [List.mem_cons, List.not_mem_nil, or_false] at he
        rcases he with rfl | rfl | rfl | rfl <;> exact sw _ (by decide +kernel)
    refine ⟨fun e he => (q e he).1, ⟨by simp, q, ?_⟩, ?_⟩
    · show (if ("row" : Str) = "again" then True else if ("row" : Str) = "row" then True else _)
      rw [if_neg (by decide +kernel), if_pos rfl]
      trivial
    · rw [plotB_one (by decide +kernel), if_pos rfl]
      decide +kernel
theorem bad_no {n : Nat} {t : Pt} (h : PR n t) {d : PyData} (hd : d ∈ odd5 t.p) : Small (n + 3) (.tuple [.str "then", .tuple [t.p, d]]) ∧ plotB (n + 3) (.tuple [.str "then", .tuple [t.p, d]]) = false := by
  obtain ⟨o1, o2, o3⟩ := odd5_no h d hd
  obtain ⟨h1, h2, h3, h4⟩ := h.up.yes
  refine ⟨⟨by simp, fun e he => ?_, ?_⟩, ?_⟩
  · simp only [List.mem_cons, List.not_mem_nil, or_false] at he
    rcases he with rfl | rfl
    · exact ⟨by show 4 ≤ sizeLine; decide, trivial⟩
    · refine ⟨trivial, by simp, fun e he => ?_⟩
      simp only [List.mem_cons, List.not_mem_nil, or_false] at he
      rcases he with rfl | rfl
      · exact h1
      · exact o1
  · show (if ("then" : Str) = "again" then True else if ("then" : Str) = "row" then True else ([t.p, d] : List PyData).length ≤ 1000 ∧ ∀ p ∈ ([t.p, d] : List PyData), Small (n + 2) p)
    rw [if_neg (by decide +kernel), if_neg (by decide +kernel)]
    refine ⟨by simp, fun p hp => ?_⟩
    simp only [List.mem_cons, List.not_mem_nil, or_false] at hp
    rcases hp with rfl | rfl
    · exact h3
    · exact o2
  · rw [plotB_one (by decide +kernel), if_neg (by decide +kernel)]
    show (_ && (!false && (plotB (n + 2) t.p && (plotB (n + 2) d && true)))) = false
    rw [o3]
    simp
end K1
namespace K1
open PySem L2
theorem well_mid {U V : Wl} {a : Int} {o : OD} {W' : Wl} (h : WellW (U ++ o :: V) U.length W') : ∃ n, W' = U ++ wl n :: V ∧ 0 ≤ n := by
  obtain ⟨n, e, h0⟩ := h
  exact ⟨n, by rw [e]; simp, h0⟩
theorem well_at {U V : Wl} {n : Int} (h : 0 ≤ n) : WellAt (U ++ wl n :: V) U.length := ⟨n, by simp, h⟩
theorem kinN : kindsD yN = .list [] := rfl
theorem kinP : kindsD yP = .list [.int 0, .int 10, .int 11] := rfl
theorem kinT : kindsD yT = .list [.int 1, .int 10, .int 11] := rfl
theorem datL3 (a b c : Int) : Dat (.list [.int a, .int b, .int c]) := ⟨by simp [PyData.canLay0, PyData.canLayAll0], by simp [PyData.depth, PyData.depthAll]⟩
theorem datL0 : Dat (.list []) := ⟨by simp [PyData.canLay0, PyData.canLayAll0], by simp [PyData.depth, PyData.depthAll]⟩
theorem odd_at {p : PyData} {i : Int} (h0 : 0 ≤ i) (h1 : i < 5) : ∃ d, atI (odd5 p) i = some d ∧ d ∈ odd5 p := by
  rcases (show i = 0 ∨ i = 1 ∨ i = 2 ∨ i = 3 ∨ i = 4 by omega) with rfl | rfl | rfl | rfl | rfl <;> exact ⟨_, rfl, by simp [odd5]⟩
section
variable {P : Program} {w : World} {K : PySem.W.Frag} {mg : Str → Option Value} {base : Heap} {kA cP cT c1 c2 c3 c4 c5 c6 c7 c8 cE : Addr}
def rLaw : RB := fun as W k => ∃ ns : List Int, as = [.s ns] ∧ ns.length ≤ 63 ∧ (∀ m ∈ ns, bits m ≤ 2 ^ 20) ∧ ∀ V, k (.d (.bool true)) (W ++ V)
def spLaw (K : PySem.W.Frag) : Sp := spB K rLaw
theorem law_start {H : Hp} {a : Addr} {ns : List Int} (hl : ns.length ≤ 63) (hb : ∀ m ∈ ns, Builtin.Int.intBits m ≤ 2 ^ 20) (hS : SqL K H a (ns.map V.int)) : spLaw K [.ref a] H (fun v _ => v = .bl true) fun _ _ _ => False :=
  ⟨H, [], [], [.s ns], fun e _ => e = .d (.bool true), ⟨.refl _, rfl, List.nodup_nil, fun a h => by simp at h, fun k a o h => by simp at h⟩, .cons ⟨a, rfl, hS⟩ .nil, ⟨ns, rfl, hl, hb, fun _ => rfl⟩, fun F' A' W' H' e v _ _ z h => by subst h; exact Rq.of_bl z⟩
abbrev nLa : List Str := ["_law_script", "_law_k", "_law_pack_here", "_law_plot", "_law_many", "_law_deeds_here", "_law_found", "_law_kinds_here", "_law_odd", "_law_bad"]
theorem scLa : FnScope nLa ["_law_script"] (defScope sLaw) := ⟨rfl, rfl, rfl, by decide +kernel, rfl, by decide +kernel, by decide +kernel⟩
theorem ndLa : nLa.Nodup := by decide +kernel
abbrev sLa (ns : List Int) (o1 o2 o3 o4 o5 o6 o7 o8 o9 : Option El) : Sl := [some (.s ns), o1, o2, o3, o4, o5, o6, o7, o8, o9]
abbrev iLaw (ns : List Int) (W : Wl) : Nat → Sl → Wl → Prop := fun i S' W' => ∃ (V : Wl) (o1 o2 o3 o4 o5 o6 o7 o8 o9 : Option El), W' = W ++ V ∧ S' = sLa ns o1 o2 o3 o4 o5 o6 o7 o8 o9
set_option maxHeartbeats 4000000 in
theorem ok_law (D : All K mg kA) {f : Addr} {fd : FuncData} (F : Fun K "law" "law" sLaw f fd) (TX : TxtX K mg cT) (TY : TxtY K mg cP) (TE : TxtE K mg cP cT c1 c2 c3 c4 c5 c6 c7 c8 cE) : FnOk P w K mg base CX0 19 f fd ["_law_script"] (spLaw K) := by
  have NP := okPack (P := P) (w := w) (base := base) D
  have NT := okTake (P := P) (w := w) (base := base) D
  have NC := okCounted (P := P) (w := w) (base := base) D
  have NA := okAsked (P := P) (w := w) (base := base) D TX TY TE 5
  refine fn_B F scLa (fun as W k ⟨ns, e, _⟩ => by subst e; rfl) fun cdv A outer s H E hr F0 A0 as W k hcl ⟨ns, e, hns, hbt, hk⟩ => ?_
  subst e
  refine bs_cons (bs_for PassesOwn.never rfl (bi_range1 rfl D.T.t.range_ (be_callB rfl D.T.t.max_ b_max (ba_cons (be_int (ba_one (be_callB rfl D.T.t.min_ b_min (ba_cons (be_callB rfl D.T.t.len_ b_len (ba_one (bv 0 rfl (cb_lenScript (ba_one (be_int (cb_min2 rfl (cb_max2 rfl ?_))))))))))))))))
  obtain ⟨M, hM, hM8⟩ : ∃ M : Nat, (if (if (8 : Int) < (ns.length : Int) then (8 : Int) else (ns.length : Int)) > 1 then (if (8 : Int) < (ns.length : Int) then (8 : Int) else (ns.length : Int)) else 1) = (M : Int) ∧ M ≤ 8 := by
    refine ⟨(if (if (8 : Int) < (ns.length : Int) then (8 : Int) else (ns.length : Int)) > 1 then (if (8 : Int) < (ns.length : Int) then (8 : Int) else (ns.length : Int)) else 1).toNat, ?_, ?_⟩ <;> split <;> split <;> omega
  rw [hM]
  refine ⟨_, rfl, by omega, by omega, W.length, iLaw ns W, Nat.le_refl _, Nat.zero_le _, Nat.le_refl _, ⟨[], none, none, none, none, none, none, none, none, none, by simp, rfl⟩, fun _ _ _ _ _ => trivial, ?_, ?_⟩
  · rintro i z S' W' hz ⟨V, o1, o2, o3, o4, o5, o6, o7, o8, o9, rfl, rfl⟩
    have hi : i < M := by have := (List.getElem?_eq_some_iff.mp hz).1; rw [range_len] at this; exact this
    obtain rfl : z = .int (i : Int) := by
      unfold rangeD at hz
      rw [List.getElem?_map, List.getElem?_range (by exact hi)] at hz
      simpa using hz.symm
    refine bg_name (i := 1) ndLa rfl (Or.inl rfl) ?_
    generalize hU : W ++ V = U
    refine bs_cons (bs_set (i := 2) ndLa rfl (Or.inl rfl) (bc D.l_pack NP hr (ba_cons (bv 0 rfl (ba_one (bv 1 rfl ⟨ns, i, rfl, hbt, by omega, fun n0 hn0 => ?_⟩))))))
    refine bs_cons (bs_asg (bc D.l_counted NC hr (ba_one (bv 2 rfl ⟨U.length, rfl, WellAt.last hn0, fun t many deeds W1 hc pw1 => bg_tup (ds := [t.p, .int many, .int deeds]) rfl (.cons (i := 3) ndLa rfl (Or.inl rfl) (.cons (i := 4) ndLa rfl (Or.inl rfl) (.cons (i := 5) ndLa rfl (Or.inl rfl) .nil))) rfl ?_⟩))))
    obtain ⟨n1, rfl, hn1⟩ := pw1.last
    refine bs_then (fun S' W' => ∃ (t' : Pt) (many' : Nat) (n2 : Int), Cnl 3 t' many' deeds ∧ 0 ≤ n2 ∧ W' = U ++ [wl n2] ∧ S' = sLa ns (some (.d (.int i))) (some (.o U.length)) (some (.d t'.p)) (some (.d (.int many'))) (some (.d (.int deeds))) o6 o7 o8 o9) (bs_if (bt_cmp rfl (bc D.l_take NT hr (ba_cons (bv 2 rfl (ba_one (be_int ⟨U.length, 2, rfl, WellAt.last hn1, by decide, by decide, fun b W2 b0 b1 pw2 => be_int (ob_eqI ⟨_, rfl, ?_⟩)⟩))))))) ?_
    · obtain ⟨n2, rfl, hn2⟩ := pw2.last
      by_cases hb0 : b = 0
      · rw [decide_eq_true hb0]
        refine iteT (bs_cons (bs_set (i := 3) ndLa rfl (Or.inl rfl) (be_tup (ba_cons (be_str (ba_one (be_tup (ba_cons (bv 3 rfl (ba_one (be_tup (ba_cons (be_str (ba_one (be_tup (ba_one (be_tup (ba_cons (be_str (ba_cons (be_str (ba_cons (be_str (ba_one (be_str ⟨[.str "take", .str "me", .str "you", .str "zz"], rfl, by show 4 ≤ sizeLine; decide, [dP zz], rfl, by show 1 ≤ sizeLine; decide, [.str "row", rP [zz]], rfl, by show 2 ≤ sizeLine; decide, [t.p, (rowP [zz]).p], rfl, by show 2 ≤ sizeLine; decide, [.str "or", .tuple [t.p, (rowP [zz]).p]], rfl, by show 2 ≤ sizeLine; decide, ?_⟩)))))))))))))))))))))))))
        exact bs_one (bs_set (i := 4) ndLa rfl (Or.inl rfl) (be_op (bv 4 rfl (be_int (ob_add ⟨manyP true [t, rowP [zz]], many + 1, n2, cnt_or hc, hn2, rfl, rfl⟩)))))
      · rw [decide_eq_false hb0]
        exact iteF (bs_nil ⟨t, many, n2, hc.plain, hn2, rfl, rfl⟩)
    rintro S' W' ⟨t', many', n2, hc', hn2, rfl, rfl⟩
    have hpr := hc'.pr
    have hp5 : PR 5 t' := hpr.up.up
    refine bs_then (fun S' W' => ∃ V', W' = U ++ wl n2 :: V' ∧ S' = sLa ns (some (.d (.int i))) (some (.o U.length)) (some (.d t'.p)) (some (.d (.int many'))) (some (.d (.int deeds))) o6 o7 o8 o9) (bs_if (BW.bt (bw_and (BT.mono (k := fun b Wc => Wc = U ++ [wl n2] ∧ b = decide (200 < many' ∨ 24 < deeds)) (BW.bt (bw_or (bt_cmp rfl (bv 4 rfl (be_int (ob_gt ⟨_, rfl, ?_⟩)))))) fun b Wc hb => ?_)))) ?_
    · by_cases h2 : 200 < many'
      · rw [decide_eq_true (show (200 : Int) < (many' : Int) by omega)]
        exact iteT ⟨rfl, (decide_eq_true (.inl h2)).symm⟩
      · rw [decide_eq_false (show ¬ (200 : Int) < (many' : Int) by omega)]
        refine iteF (bw_or1 (bt_cmp rfl (bv 5 rfl (be_int (ob_gt ⟨_, rfl, rfl, ?_⟩)))))
        refine decide_eq_decide.mpr ⟨fun h => .inr (by omega), fun h => by omega⟩
    · obtain ⟨rfl, rfl⟩ := hb
      by_cases hB : 200 < many' ∨ 24 < deeds
      · rw [decide_eq_true hB]
        have ho := hc'.no hB
        have hag : (agP t' 0 0).o = none := by
          show t'.o.bind _ = _
          rw [ho]
          rfl
        refine iteT (bw_and1 (bt_cmp rfl (be_ix (by intro _ _; rfl) (bc D.l_asked NA hr (ba_one (be_tup (ba_cons (be_str (ba_cons (bv 3 rfl (ba_cons (be_int (ba_one (be_int ⟨[.str "again", t'.p, .int 0, .int 0], rfl, by show 4 ≤ sizeLine; decide, _, rfl, .inr ⟨agP t' 0 0, rfl, .again hpr.up (by decide) (by decide), fun out h => (by rw [hag] at h; cases h), fun _ V1 => ?_⟩⟩))))))))))))))
        refine be_int (ib_tup (d := kindsD yT) rfl (be_lst (ba_cons (be_int (ba_cons (be_int (ba_one (be_int ⟨[.int 1, .int 10, .int 11], rfl, by show 3 ≤ sizeLine; decide, ?_⟩))))))))
        rw [kinT]
        refine ob_ne hr.units (.inl rfl) (.inl rfl) (datL3 _ _ _) (datL3 _ _ _) ⟨_, rfl, ?_⟩
        exact iteF (bs_nil ⟨V1, by simp, rfl⟩)
      · rw [decide_eq_false hB]
        exact iteF (iteF (bs_nil ⟨[], rfl, rfl⟩))
    rintro S' W' ⟨V', rfl, rfl⟩
    refine bs_then (fun S' W' => (∃ (V1 : Wl), (200 < many' ∨ 24 < deeds) ∧ W' = U ++ wl n2 :: V1 ∧ S' = sLa ns (some (.d (.int i))) (some (.o U.length)) (some (.d t'.p)) (some (.d (.int many'))) (some (.d (.int deeds))) (some (.d .none)) (some (.d (kindsD yT))) o8 o9) ∨ ∃ (V1 : Wl) (q : Nat) (out : List Row), ¬ (200 < many' ∨ 24 < deeds) ∧ out.length = many' ∧ (U ++ wl n2 :: V1)[q]? = some (ls out) ∧ W' = U ++ wl n2 :: V1 ∧ S' = sLa ns (some (.d (.int i))) (some (.o U.length)) (some (.d t'.p)) (some (.d (.int many'))) (some (.d (.int deeds))) (some (.o q)) (some (.d (kindsD yN))) o8 o9) (bs_asg (bc D.l_asked NA hr (ba_one (bv 3 rfl ⟨t'.p, rfl, .inr ⟨t', rfl, hp5, fun out ho V1 q hq => ?_, fun ho V1 => ?_⟩⟩)))) ?_
    · refine bg_tupT rfl (.cons (i := 6) ndLa rfl (Or.inl rfl) (.cons (i := 7) ndLa rfl (Or.inl rfl) .nil)) rfl (.inr ⟨V' ++ V1, q, out, fun hB => ?_, ?_, ?_, by simp, rfl⟩)
      · rw [hc'.no hB] at ho
        cases ho
      · obtain ⟨out', e, l⟩ := hc'.yes (by
          refine Nat.not_lt.mp fun z => ?_
          rw [hc'.no (.inl z)] at ho
          cases ho) (by
          refine Nat.not_lt.mp fun z => ?_
          rw [hc'.no (.inr z)] at ho
          cases ho)
        rw [ho] at e
        cases e
        exact l
      · rw [← hq]
        simp
    · refine bg_tup (ds := [.none, kindsD yT]) rfl (.cons (i := 6) ndLa rfl (Or.inl rfl) (.cons (i := 7) ndLa rfl (Or.inl rfl) .nil)) rfl (.inl ⟨V' ++ V1, ?_, by simp, rfl⟩)
      refine Classical.byContradiction fun hB => ?_
      obtain ⟨out', e, l⟩ := hc'.yes (by omega) (by omega)
      rw [ho] at e
      cases e
    intro S' W' hS
    refine bs_then (fun S' W' => ∃ V1 o6 o7, W' = U ++ wl n2 :: V1 ∧ S' = sLa ns (some (.d (.int i))) (some (.o U.length)) (some (.d t'.p)) (some (.d (.int many'))) (some (.d (.int deeds))) o6 o7 o8 o9) (bs_if ?_) ?_
    · rcases hS with ⟨V1, hB, rfl, rfl⟩ | ⟨V1, q, out, hB, hl, hq, rfl, rfl⟩
      · refine BT.mono (k := fun b Wc => Wc = U ++ wl n2 :: V1 ∧ b = true) (BW.bt (bw_or (bt_cmp rfl (bv 4 rfl (be_int (ob_gt ⟨_, rfl, ?_⟩)))))) fun b Wc hb => ?_
        · by_cases h2 : 200 < many'
          · rw [decide_eq_true (show (200 : Int) < (many' : Int) by omega)]
            exact iteT ⟨rfl, rfl⟩
          · rw [decide_eq_false (show ¬ (200 : Int) < (many' : Int) by omega)]
            exact iteF (bw_or1 (bt_cmp rfl (bv 5 rfl (be_int (ob_gt ⟨_, rfl, rfl, decide_eq_true (by omega)⟩)))))
        obtain ⟨rfl, rfl⟩ := hb
        refine iteT (bs_one (bs_if (bt_cmp rfl (bv 7 rfl (be_lst (ba_cons (be_int (ba_cons (be_int (ba_one (be_int ⟨[.int 1, .int 10, .int 11], rfl, by show 3 ≤ sizeLine; decide, ?_⟩)))))))))))
        rw [kinT]
        refine ob_ne hr.units (.inl rfl) (.inl rfl) (datL3 _ _ _) (datL3 _ _ _) ⟨_, rfl, ?_⟩
        exact iteF (bs_nil ⟨V1, _, _, rfl, rfl⟩)
      · refine BT.mono (k := fun b Wc => Wc = U ++ wl n2 :: V1 ∧ b = false) (BW.bt (bw_or (bt_cmp rfl (bv 4 rfl (be_int (ob_gt ⟨_, rfl, ?_⟩)))))) fun b Wc hb => ?_
        · rw [decide_eq_false (show ¬ (200 : Int) < (many' : Int) by omega)]
          exact iteF (bw_or1 (bt_cmp rfl (bv 5 rfl (be_int (ob_gt ⟨_, rfl, rfl, decide_eq_false (by omega)⟩)))))
        obtain ⟨rfl, rfl⟩ := hb
        refine iteF (bs_one (bs_if (BW.bt (bw_or (bt_cmp rfl (bv 7 rfl (be_lst (ba_nil ⟨[], rfl, Nat.zero_le _, ?_⟩))))))))
        rw [kinN]
        refine ob_ne hr.units (.inl rfl) (.inl rfl) datL0 datL0 ⟨_, rfl, ?_⟩
        have hL : lstD (U ++ wl n2 :: V1) (.o q) (out.map rP) := .inr ⟨q, rfl, hq⟩
        refine iteF (bw_or (bt_not (bt_val (be_isinst rfl D.T.t.isi b_isi rfl D.T.t.list_ b_list (by simp) (bv 6 rfl ⟨.list (out.map rP), .inr ⟨_, rfl, hL⟩, _, rfl, ?_⟩)))))
        refine iteF (bw_or1 (bt_cmp rfl (be_callB rfl D.T.t.len_ b_len (ba_one (bv 6 rfl (cb_lenL hL (bv 4 rfl (ob_neI ⟨_, rfl, ?_⟩))))))))
        rw [decide_eq_true (by rw [List.length_map, hl])]
        exact iteF (bs_nil ⟨V1, _, _, rfl, rfl⟩)
    rintro S' W' ⟨V1, o6', o7', rfl, rfl⟩
    refine bs_cons (bs_set (i := 8) ndLa rfl (Or.inl rfl) ?_)
    refine be_lst ?_
    refine ba_cons ?_
    refine be_tup (ba_cons (be_str (ba_one (be_lst (ba_one (bv 3 rfl ⟨[t'.p], rfl, by show 1 ≤ sizeLine; decide, [.str "row", .list [t'.p]], rfl, by show 2 ≤ sizeLine; decide, ?_⟩))))))
    refine ba_cons ?_
    refine be_tup (ba_cons (be_str (ba_one (be_tup (ba_nil ⟨[], rfl, Nat.zero_le _, [.str "or", .tuple []], rfl, by show 2 ≤ sizeLine; decide, ?_⟩)))))
    refine ba_cons ?_
    refine be_non ?_
    refine ba_cons ?_
    refine be_tup (ba_cons (be_str (ba_cons (bv 3 rfl (ba_cons (be_int (ba_one (be_int ⟨[.str "again", t'.p, .int 1, .int 0], rfl, by show 4 ≤ sizeLine; decide, ?_⟩))))))))
    refine ba_one ?_
    refine be_tup (ba_cons (be_str (ba_one (be_tup (ba_one (be_tup (ba_cons (be_str (ba_cons (be_str (ba_cons (be_str (ba_one (be_str ⟨[.str "send", .str "me", .str "me", .str "x"], rfl, by show 4 ≤ sizeLine; decide, [.tuple [.str "send", .str "me", .str "me", .str "x"]], rfl, by show 1 ≤ sizeLine; decide, [.str "row", .tuple [.tuple [.str "send", .str "me", .str "me", .str "x"]]], rfl, by show 2 ≤ sizeLine; decide, ?_⟩))))))))))))))
    refine ⟨odd5 t'.p, rfl, by show 5 ≤ sizeLine; decide, ?_⟩
    refine bs_cons (bs_set (i := 9) ndLa rfl (Or.inl rfl) (be_tup (ba_cons (be_str (ba_one (be_tup (ba_cons (bv 3 rfl (ba_one (be_ix (by intro _ _; rfl) (bv 8 rfl (bc D.l_take NT hr (ba_cons (bv 2 rfl (ba_one (be_int ⟨U.length, 5, rfl, well_at hn2, by decide, by decide, fun b W2 b0 b1 pw2 => ?_⟩))))))))))))))))
    obtain ⟨n3, rfl, hn3⟩ := well_mid (a := 0) pw2
    obtain ⟨d, hd, hdm⟩ := odd_at (p := t'.p) b0 b1
    refine ib_lst hd ⟨[t'.p, d], rfl, by show 2 ≤ sizeLine; decide, [.str "then", .tuple [t'.p, d]], rfl, by show 2 ≤ sizeLine; decide, ?_⟩
    have hbad := bad_no hpr hdm
    refine bs_one (bs_if (BW.bt (bw_and (bt_cmp rfl (bc D.l_take NT hr (ba_cons (bv 2 rfl (ba_one (be_int ⟨U.length, 4, rfl, well_at hn3, by decide, by decide, fun b W3 c0 c1 pw3 => be_int (ob_eqI ⟨_, rfl, ?_⟩)⟩)))))))))
    obtain ⟨n4, rfl, hn4⟩ := well_mid (a := 0) pw3
    by_cases hb0 : b = 0
    · rw [decide_eq_true hb0]
      refine iteT (bw_and1 (bt_cmp rfl (be_ix (by intro _ _; rfl) (bc D.l_asked NA hr (ba_one (bv 9 rfl ⟨_, rfl, .inl ⟨hbad.1, hbad.2, ?_⟩⟩))))))
      refine be_int (ib_tup (d := kindsD yP) rfl (be_lst (ba_cons (be_int (ba_cons (be_int (ba_one (be_int ⟨[.int 0, .int 10, .int 11], rfl, by show 3 ≤ sizeLine; decide, ?_⟩))))))))
      rw [kinP]
      refine ob_ne hr.units (.inl rfl) (.inl rfl) (datL3 _ _ _) (datL3 _ _ _) ⟨_, rfl, ?_⟩
      exact iteF (bs_nil ⟨V ++ wl n4 :: V1, _, _, _, _, _, _, _, _, _, by rw [← hU, List.append_assoc], rfl⟩)
    · rw [decide_eq_false hb0]
      exact iteF (iteF (bs_nil ⟨V ++ wl n4 :: V1, _, _, _, _, _, _, _, _, _, by rw [← hU, List.append_assoc], rfl⟩))
  · rintro S' W' ⟨V, o1, o2, o3, o4, o5, o6, o7, o8, o9, rfl, rfl⟩
    exact bs_one (bs_ret (be_bl (hk V)))
end
end K1
namespace K1
open PySem L2
set_option maxHeartbeats 4000000 in
theorem all_mk {l : PySem.W.OpenLaw} {w : World} {K : PySem.W.Frag} {h : Heap} {mg : Str → Option Value} {fa : Addr} {kdA : Addr} {odJ : Option Addr} {slJ : Array (Option Value)} {tl tn t1 t2 tk0 tk1 tk2 : Tok} {nK : Nat} (X : K.In h) (G : h.Ns mainGlobals mg) (hfa : mg "law" = some (.ref fa))
    {fx0 fx1 fx2 fx3 fx4 fx5 fx6 fx7 fx8 fx9 fx10 fx11 fx12 fx13 fx14 fx15 fx16 fx17 fx18 fx19 fx20 fx21 fZ : Addr} {odx0 anx0 odx1 anx1 odx2 anx2 odx3 anx3 odx4 anx4 odx5 anx5 odx6 anx6 odx7 anx7 odx8 anx8 odx9 anx9 odx10 anx10 odx11 anx11 odx12 anx12 odx13 anx13 odx14 anx14 odx15 anx15 odx16 anx16 odx17 anx17 odx18 anx18 odx19 anx19 odx20 anx20 odx21 anx21 odZ anZ : Option Addr} {slx0 slx1 slx2 slx3 slx4 slx5 slx6 slx7 slx8 slx9 slx10 slx11 slx12 slx13 slx14 slx15 slx16 slx17 slx18 slx19 slx20 slx21 slZ : Array (Option Value)} {ocx0 kVx0 dcx0 pmx0 cdx0 ctx0 ocx1 kVx1 dcx1 pmx1 cdx1 ctx1 ocx2 kVx2 dcx2 pmx2 cdx2 ctx2 ocx3 kVx3 dcx3 pmx3 cdx3 ctx3 ocx4 kVx4 dcx4 pmx4 cdx4 ctx4 ocx5 kVx5 dcx5 pmx5 cdx5 ctx5 ocx6 kVx6 dcx6 pmx6 cdx6 ctx6 ocx7 kVx7 dcx7 pmx7 cdx7 ctx7 ocx8 kVx8 dcx8 pmx8 cdx8 ctx8 ocx9 kVx9 dcx9 pmx9 cdx9 ctx9 ocx10 kVx10 dcx10 pmx10 cdx10 ctx10 ocx11 kVx11 dcx11 pmx11 cdx11 ctx11 ocx12 kVx12 dcx12 pmx12 cdx12 ctx12 ocx13 kVx13 dcx13 pmx13 cdx13 ctx13 ocx14 kVx14 dcx14 pmx14 cdx14 ctx14 ocx15 kVx15 dcx15 pmx15 cdx15 ctx15 ocx16 kVx16 dcx16 pmx16 cdx16 ctx16 ocx17 kVx17 dcx17 pmx17 cdx17 ctx17 ocx18 kVx18 dcx18 pmx18 cdx18 ctx18 ocx19 kVx19 dcx19 pmx19 cdx19 ctx19 ocx20 kVx20 dcx20 pmx20 cdx20 ctx20 ocx21 kVx21 dcx21 pmx21 cdx21 ctx21 ocZ kVZ dcZ pmZ cdZ ctZ : Value}
    (ax0 : PySem.W.nsIn K mainGlobals "is_whole" = some (some (.ref fx0))) (lx0 : K.lookup fx0 = some ⟨ocx0, odx0, .func (PySem.W.fnOf "is_whole" "is_whole" (defArgs sWhole) (defBody sWhole) (defScope sWhole) .none kVx0 dcx0 pmx0 anx0 cdx0 ctx0), slx0⟩) (cx0 : PySem.W.codeIn K cdx0 "is_whole" = true) (kx0 : PySem.W.keepIn K (.ref fx0) = true)
    (ax1 : PySem.W.nsIn K mainGlobals "is_name" = some (some (.ref fx1))) (lx1 : K.lookup fx1 = some ⟨ocx1, odx1, .func (PySem.W.fnOf "is_name" "is_name" (defArgs sName) (defBody sName) (defScope sName) .none kVx1 dcx1 pmx1 anx1 cdx1 ctx1), slx1⟩) (cx1 : PySem.W.codeIn K cdx1 "is_name" = true) (kx1 : PySem.W.keepIn K (.ref fx1) = true)
    (ax2 : PySem.W.nsIn K mainGlobals "is_deed" = some (some (.ref fx2))) (lx2 : K.lookup fx2 = some ⟨ocx2, odx2, .func (PySem.W.fnOf "is_deed" "is_deed" (defArgs sDeed) (defBody sDeed) (defScope sDeed) .none kVx2 dcx2 pmx2 anx2 cdx2 ctx2), slx2⟩) (cx2 : PySem.W.codeIn K cdx2 "is_deed" = true) (kx2 : PySem.W.keepIn K (.ref fx2) = true)
    (ax3 : PySem.W.nsIn K mainGlobals "is_row" = some (some (.ref fx3))) (lx3 : K.lookup fx3 = some ⟨ocx3, odx3, .func (PySem.W.fnOf "is_row" "is_row" (defArgs s_is_row) (defBody s_is_row) (defScope s_is_row) .none kVx3 dcx3 pmx3 anx3 cdx3 ctx3), slx3⟩) (cx3 : PySem.W.codeIn K cdx3 "is_row" = true) (kx3 : PySem.W.keepIn K (.ref fx3) = true)
    (ax4 : PySem.W.nsIn K mainGlobals "is_plot" = some (some (.ref fx4))) (lx4 : K.lookup fx4 = some ⟨ocx4, odx4, .func (PySem.W.fnOf "is_plot" "is_plot" (defArgs s_is_plot) (defBody s_is_plot) (defScope s_is_plot) .none kVx4 dcx4 pmx4 anx4 cdx4 ctx4), slx4⟩) (cx4 : PySem.W.codeIn K cdx4 "is_plot" = true) (kx4 : PySem.W.keepIn K (.ref fx4) = true)
    (ax5 : PySem.W.nsIn K mainGlobals "are_plots" = some (some (.ref fx5))) (lx5 : K.lookup fx5 = some ⟨ocx5, odx5, .func (PySem.W.fnOf "are_plots" "are_plots" (defArgs s_are_plots) (defBody s_are_plots) (defScope s_are_plots) .none kVx5 dcx5 pmx5 anx5 cdx5 ctx5), slx5⟩) (cx5 : PySem.W.codeIn K cdx5 "are_plots" = true) (kx5 : PySem.W.keepIn K (.ref fx5) = true)
    (ax6 : PySem.W.nsIn K mainGlobals "is_again" = some (some (.ref fx6))) (lx6 : K.lookup fx6 = some ⟨ocx6, odx6, .func (PySem.W.fnOf "is_again" "is_again" (defArgs s_is_again) (defBody s_is_again) (defScope s_is_again) .none kVx6 dcx6 pmx6 anx6 cdx6 ctx6), slx6⟩) (cx6 : PySem.W.codeIn K cdx6 "is_again" = true) (kx6 : PySem.W.keepIn K (.ref fx6) = true)
    (ax7 : PySem.W.nsIn K mainGlobals "plot_rows" = some (some (.ref fx7))) (lx7 : K.lookup fx7 = some ⟨ocx7, odx7, .func (PySem.W.fnOf "plot_rows" "plot_rows" (defArgs s_plot_rows) (defBody s_plot_rows) (defScope s_plot_rows) .none kVx7 dcx7 pmx7 anx7 cdx7 ctx7), slx7⟩) (cx7 : PySem.W.codeIn K cdx7 "plot_rows" = true) (kx7 : PySem.W.keepIn K (.ref fx7) = true)
    (ax8 : PySem.W.nsIn K mainGlobals "rows_of" = some (some (.ref fx8))) (lx8 : K.lookup fx8 = some ⟨ocx8, odx8, .func (PySem.W.fnOf "rows_of" "rows_of" (defArgs s_rows_of) (defBody s_rows_of) (defScope s_rows_of) .none kVx8 dcx8 pmx8 anx8 cdx8 ctx8), slx8⟩) (cx8 : PySem.W.codeIn K cdx8 "rows_of" = true) (kx8 : PySem.W.keepIn K (.ref fx8) = true)
    (ax9 : PySem.W.nsIn K mainGlobals "rows_or" = some (some (.ref fx9))) (lx9 : K.lookup fx9 = some ⟨ocx9, odx9, .func (PySem.W.fnOf "rows_or" "rows_or" (defArgs s_rows_or) (defBody s_rows_or) (defScope s_rows_or) .none kVx9 dcx9 pmx9 anx9 cdx9 ctx9), slx9⟩) (cx9 : PySem.W.codeIn K cdx9 "rows_or" = true) (kx9 : PySem.W.keepIn K (.ref fx9) = true)
    (ax10 : PySem.W.nsIn K mainGlobals "rows_then" = some (some (.ref fx10))) (lx10 : K.lookup fx10 = some ⟨ocx10, odx10, .func (PySem.W.fnOf "rows_then" "rows_then" (defArgs s_rows_then) (defBody s_rows_then) (defScope s_rows_then) .none kVx10 dcx10 pmx10 anx10 cdx10 ctx10), slx10⟩) (cx10 : PySem.W.codeIn K cdx10 "rows_then" = true) (kx10 : PySem.W.keepIn K (.ref fx10) = true)
    (ax11 : PySem.W.nsIn K mainGlobals "rows_again" = some (some (.ref fx11))) (lx11 : K.lookup fx11 = some ⟨ocx11, odx11, .func (PySem.W.fnOf "rows_again" "rows_again" (defArgs s_rows_again) (defBody s_rows_again) (defScope s_rows_again) .none kVx11 dcx11 pmx11 anx11 cdx11 ctx11), slx11⟩) (cx11 : PySem.W.codeIn K cdx11 "rows_again" = true) (kx11 : PySem.W.keepIn K (.ref fx11) = true)
    (ax12 : PySem.W.nsIn K mainGlobals "each_behind" = some (some (.ref fx12))) (lx12 : K.lookup fx12 = some ⟨ocx12, odx12, .func (PySem.W.fnOf "each_behind" "each_behind" (defArgs s_each_behind) (defBody s_each_behind) (defScope s_each_behind) .none kVx12 dcx12 pmx12 anx12 cdx12 ctx12), slx12⟩) (cx12 : PySem.W.codeIn K cdx12 "each_behind" = true) (kx12 : PySem.W.keepIn K (.ref fx12) = true)
    (ax13 : PySem.W.nsIn K mainGlobals "find_row" = some (some (.ref fx13))) (lx13 : K.lookup fx13 = some ⟨ocx13, odx13, .func (PySem.W.fnOf "find_row" "find_row" (defArgs s_find_row) (defBody s_find_row) (defScope s_find_row) .none kVx13 dcx13 pmx13 anx13 cdx13 ctx13), slx13⟩) (cx13 : PySem.W.codeIn K cdx13 "find_row" = true) (kx13 : PySem.W.keepIn K (.ref fx13) = true)
    (ax14 : PySem.W.nsIn K mainGlobals "_law_mixed" = some (some (.ref fx14))) (lx14 : K.lookup fx14 = some ⟨ocx14, odx14, .func (PySem.W.fnOf "_law_mixed" "_law_mixed" (defArgs sMixed) (defBody sMixed) (defScope sMixed) .none kVx14 dcx14 pmx14 anx14 cdx14 ctx14), slx14⟩) (cx14 : PySem.W.codeIn K cdx14 "_law_mixed" = true) (kx14 : PySem.W.keepIn K (.ref fx14) = true)
    (ax15 : PySem.W.nsIn K mainGlobals "_law_pack" = some (some (.ref fx15))) (lx15 : K.lookup fx15 = some ⟨ocx15, odx15, .func (PySem.W.fnOf "_law_pack" "_law_pack" (defArgs sPack) (defBody sPack) (defScope sPack) .none kVx15 dcx15 pmx15 anx15 cdx15 ctx15), slx15⟩) (cx15 : PySem.W.codeIn K cdx15 "_law_pack" = true) (kx15 : PySem.W.keepIn K (.ref fx15) = true)
    (ax16 : PySem.W.nsIn K mainGlobals "_law_take" = some (some (.ref fx16))) (lx16 : K.lookup fx16 = some ⟨ocx16, odx16, .func (PySem.W.fnOf "_law_take" "_law_take" (defArgs sTake) (defBody sTake) (defScope sTake) .none kVx16 dcx16 pmx16 anx16 cdx16 ctx16), slx16⟩) (cx16 : PySem.W.codeIn K cdx16 "_law_take" = true) (kx16 : PySem.W.keepIn K (.ref fx16) = true)
    (ax17 : PySem.W.nsIn K mainGlobals "_law_deeds" = some (some (.ref fx17))) (lx17 : K.lookup fx17 = some ⟨ocx17, odx17, .func (PySem.W.fnOf "_law_deeds" "_law_deeds" (defArgs sl_deeds) (defBody sl_deeds) (defScope sl_deeds) .none kVx17 dcx17 pmx17 anx17 cdx17 ctx17), slx17⟩) (cx17 : PySem.W.codeIn K cdx17 "_law_deeds" = true) (kx17 : PySem.W.keepIn K (.ref fx17) = true)
    (ax18 : PySem.W.nsIn K mainGlobals "_law_sum" = some (some (.ref fx18))) (lx18 : K.lookup fx18 = some ⟨ocx18, odx18, .func (PySem.W.fnOf "_law_sum" "_law_sum" (defArgs sl_sum) (defBody sl_sum) (defScope sl_sum) .none kVx18 dcx18 pmx18 anx18 cdx18 ctx18), slx18⟩) (cx18 : PySem.W.codeIn K cdx18 "_law_sum" = true) (kx18 : PySem.W.keepIn K (.ref fx18) = true)
    (ax19 : PySem.W.nsIn K mainGlobals "_law_counted" = some (some (.ref fx19))) (lx19 : K.lookup fx19 = some ⟨ocx19, odx19, .func (PySem.W.fnOf "_law_counted" "_law_counted" (defArgs sl_counted) (defBody sl_counted) (defScope sl_counted) .none kVx19 dcx19 pmx19 anx19 cdx19 ctx19), slx19⟩) (cx19 : PySem.W.codeIn K cdx19 "_law_counted" = true) (kx19 : PySem.W.keepIn K (.ref fx19) = true)
    (ax20 : PySem.W.nsIn K mainGlobals "_law_kinds" = some (some (.ref fx20))) (lx20 : K.lookup fx20 = some ⟨ocx20, odx20, .func (PySem.W.fnOf "_law_kinds" "_law_kinds" (defArgs sl_kinds) (defBody sl_kinds) (defScope sl_kinds) .none kVx20 dcx20 pmx20 anx20 cdx20 ctx20), slx20⟩) (cx20 : PySem.W.codeIn K cdx20 "_law_kinds" = true) (kx20 : PySem.W.keepIn K (.ref fx20) = true)
    (ax21 : PySem.W.nsIn K mainGlobals "_law_asked" = some (some (.ref fx21))) (lx21 : K.lookup fx21 = some ⟨ocx21, odx21, .func (PySem.W.fnOf "_law_asked" "_law_asked" (defArgs sl_asked) (defBody sl_asked) (defScope sl_asked) .none kVx21 dcx21 pmx21 anx21 cdx21 ctx21), slx21⟩) (cx21 : PySem.W.codeIn K cdx21 "_law_asked" = true) (kx21 : PySem.W.keepIn K (.ref fx21) = true)
    (aZ : PySem.W.nsIn K mainGlobals "law" = some (some (.ref fZ))) (lZ : K.lookup fZ = some ⟨ocZ, odZ, .func (PySem.W.fnOf "law" "law" (defArgs sLaw) (defBody sLaw) (defScope sLaw) .none kVZ dcZ pmZ anZ cdZ ctZ), slZ⟩) (cZ : PySem.W.codeIn K cdZ "law" = true) (kZ : PySem.W.keepIn K (.ref fZ) = true)
    (z0 : PySem.W.nsIn K mainGlobals "isinstance" = some none)
    (z1 : PySem.W.nsIn K mainGlobals "int" = some none)
    (z2 : PySem.W.nsIn K mainGlobals "tuple" = some none)
    (z3 : PySem.W.nsIn K mainGlobals "len" = some none)
    (z4 : PySem.W.nsIn K mainGlobals "all" = some none)
    (z5 : PySem.W.nsIn K mainGlobals "range" = some none)
    (z6 : PySem.W.nsIn K mainGlobals "divmod" = some none)
    (z7 : PySem.W.nsIn K mainGlobals "sum" = some none)
    (z8 : PySem.W.nsIn K mainGlobals "str" = some none)
    (z9 : PySem.W.nsIn K mainGlobals "max" = some none)
    (z10 : PySem.W.nsIn K mainGlobals "bool" = some none)
    (z11 : PySem.W.nsIn K mainGlobals "list" = some none)
    (z12 : PySem.W.nsIn K mainGlobals "min" = some none)
    (z13 : PySem.W.nsIn K mainGlobals "enumerate" = some none)
    (z14 : PySem.W.nsIn K mainGlobals "zip" = some none)
    (z15 : PySem.W.nsIn K mainGlobals "sorted" = some none)
    (z16 : PySem.W.nsIn K mainGlobals "set" = some none)
    (z17 : PySem.W.nsIn K mainGlobals "any" = some none)
    (z18 : PySem.W.nsIn K mainGlobals "dict" = some none)
    {rr0 rr1 rc0 rc1 rc2 rc3 rc4 rc5 rc6 rc7 rtA : Addr}
    (aLet : PySem.W.nsIn K mainGlobals "LETTERS" = some (some (.str "abcdefghijklmnopqrstuvwxyz" tl)))
    (aLon : PySem.W.nsIn K mainGlobals "LONGEST_NAME" = some (some (.int 8 tn)))
    (aKin : PySem.W.nsIn K mainGlobals "KINDS" = some (some (.ref kdA)))
    (lKin : K.lookup kdA = some ⟨.type "tuple", odJ, .seq #[.str "send" t1, .str "take" t2] nK, slJ⟩)
    (cv_MOST_ROWS : PySem.W.nsIn K mainGlobals "MOST_ROWS" = some (some (.int 200 tk0)))
    (cv_MOST_DEEDS : PySem.W.nsIn K mainGlobals "MOST_DEEDS" = some (some (.int 24 tk1)))
    (cv_MOST_TIMES : PySem.W.nsIn K mainGlobals "MOST_TIMES" = some (some (.int 4 tk2)))
    (h_rr0 : PySem.W.nsIn K mainGlobals "NoPlot" = some (some (.ref rr0)))
    (h_rr1 : PySem.W.nsIn K mainGlobals "TooMany" = some (some (.ref rr1)))
    (h_rc0 : PySem.W.nsIn K mainGlobals "NoBook" = some (some (.ref rc0)))
    (h_rc1 : PySem.W.nsIn K mainGlobals "NoCall" = some (some (.ref rc1)))
    (h_rc2 : PySem.W.nsIn K mainGlobals "NoHand" = some (some (.ref rc2)))
    (h_rc3 : PySem.W.nsIn K mainGlobals "NoKept" = some (some (.ref rc3)))
    (h_rc4 : PySem.W.nsIn K mainGlobals "NoNames" = some (some (.ref rc4)))
    (h_rc5 : PySem.W.nsIn K mainGlobals "NoRooms" = some (some (.ref rc5)))
    (h_rc6 : PySem.W.nsIn K mainGlobals "NoRow" = some (some (.ref rc6)))
    (h_rc7 : PySem.W.nsIn K mainGlobals "NoText" = some (some (.ref rc7)))
    (h_rtA : PySem.W.nsIn K mainGlobals "TaleError" = some (some (.ref rtA)))
    (rV : PySem.W.nsIn K mainGlobals "ValueError" = some none)
    (x_rr0 : PySem.W.excIn K rr0 [.type "ValueError", .type "Exception", .type "BaseException", .type "object"] "ValueError.__new__" = true)
    (m_rr0 : PySem.W.exmOne K (.ref rr0) (.ref rtA) = some true)
    (c_rr0 : (PySem.W.clsIn K rr0).isSome = true)
    (r1_rr0 : PySem.W.findIn K (.ref rr0) "__getattribute__" = some (some (.builtin "BaseException.__getattribute__")))
    (r2_rr0 : PySem.W.findIn K (.ref rr0) "__getattr__" = some none)
    (r3_rr0 : PySem.W.findIn K (.ref rr0) "__class__" = some (some (.builtin "object.__class__")))
    (r6_rr0 : PySem.W.mroIn K rr0 (.type "object") = some true)
    (r7_rr0 : PySem.W.mroIn K rr0 (.type "BaseException") = some true)
    (x_rr1 : PySem.W.excIn K rr1 [.type "ValueError", .type "Exception", .type "BaseException", .type "object"] "ValueError.__new__" = true)
    (m_rr1 : PySem.W.exmOne K (.ref rr1) (.ref rtA) = some true)
    (c_rr1 : (PySem.W.clsIn K rr1).isSome = true)
    (r1_rr1 : PySem.W.findIn K (.ref rr1) "__getattribute__" = some (some (.builtin "BaseException.__getattribute__")))
    (r2_rr1 : PySem.W.findIn K (.ref rr1) "__getattr__" = some none)
    (r3_rr1 : PySem.W.findIn K (.ref rr1) "__class__" = some (some (.builtin "object.__class__")))
    (r6_rr1 : PySem.W.mroIn K rr1 (.type "object") = some true)
    (r7_rr1 : PySem.W.mroIn K rr1 (.type "BaseException") = some true)
    (r4 : PySem.W.specialIn K (.builtin "object.__class__") "__get__" = some (some (.builtin "getset_descriptor.__get__")))
    (r5 : PySem.W.takesIn K (.builtin "object.__class__") = some true)
    (q0_0 : PySem.W.kitOne K (.type "NoneType") (.ref rr0) = some false)
    (q0_1 : PySem.W.kitOne K (.type "NoneType") (.ref rr1) = some false)
    (q0_2 : PySem.W.kitOne K (.type "NoneType") (.ref rc0) = some false)
    (q0_3 : PySem.W.kitOne K (.type "NoneType") (.ref rc1) = some false)
    (q0_4 : PySem.W.kitOne K (.type "NoneType") (.ref rc2) = some false)
    (q0_5 : PySem.W.kitOne K (.type "NoneType") (.ref rc3) = some false)
    (q0_6 : PySem.W.kitOne K (.type "NoneType") (.ref rc4) = some false)
    (q0_7 : PySem.W.kitOne K (.type "NoneType") (.ref rc5) = some false)
    (q0_8 : PySem.W.kitOne K (.type "NoneType") (.ref rc6) = some false)
    (q0_9 : PySem.W.kitOne K (.type "NoneType") (.ref rc7) = some false)
    (q0_10 : PySem.W.kitOne K (.type "NoneType") (.ref rtA) = some false)
    (q0_11 : PySem.W.kitOne K (.type "NoneType") (.type "ValueError") = some false)
    (q1_0 : PySem.W.kitOne K (.ref rr0) (.ref rr0) = some true)
    (q1_1 : PySem.W.kitOne K (.ref rr0) (.ref rr1) = some false)
    (q1_2 : PySem.W.kitOne K (.ref rr0) (.ref rc0) = some false)
    (q1_3 : PySem.W.kitOne K (.ref rr0) (.ref rc1) = some false)
    (q1_4 : PySem.W.kitOne K (.ref rr0) (.ref rc2) = some false)
    (q1_5 : PySem.W.kitOne K (.ref rr0) (.ref rc3) = some false)
    (q1_6 : PySem.W.kitOne K (.ref rr0) (.ref rc4) = some false)
    (q1_7 : PySem.W.kitOne K (.ref rr0) (.ref rc5) = some false)
    (q1_8 : PySem.W.kitOne K (.ref rr0) (.ref rc6) = some false)
    (q1_9 : PySem.W.kitOne K (.ref rr0) (.ref rc7) = some false)
    (q1_10 : PySem.W.kitOne K (.ref rr0) (.ref rtA) = some true)
    (q1_11 : PySem.W.kitOne K (.ref rr0) (.type "ValueError") = some true)
    (q2_0 : PySem.W.kitOne K (.ref rr1) (.ref rr0) = some false)
    (q2_1 : PySem.W.kitOne K (.ref rr1) (.ref rr1) = some true)
    (q2_2 : PySem.W.kitOne K (.ref rr1) (.ref rc0) = some false)
    (q2_3 : PySem.W.kitOne K (.ref rr1) (.ref rc1) = some false)
    (q2_4 : PySem.W.kitOne K (.ref rr1) (.ref rc2) = some false)
    (q2_5 : PySem.W.kitOne K (.ref rr1) (.ref rc3) = some false)
    (q2_6 : PySem.W.kitOne K (.ref rr1) (.ref rc4) = some false)
    (q2_7 : PySem.W.kitOne K (.ref rr1) (.ref rc5) = some false)
    (q2_8 : PySem.W.kitOne K (.ref rr1) (.ref rc6) = some false)
    (q2_9 : PySem.W.kitOne K (.ref rr1) (.ref rc7) = some false)
    (q2_10 : PySem.W.kitOne K (.ref rr1) (.ref rtA) = some true)
    (q2_11 : PySem.W.kitOne K (.ref rr1) (.type "ValueError") = some true)
    : ∃ fd : FuncData, (∀ (s : Shared) (v : Value), BindsTo s fd ⟨[v], []⟩ [("_law_script", v)]) ∧ ∀ base : Heap, K.In base → base.Ns mainGlobals mg → FnOk l.prog w K mg base CX0 19 fa fd ["_law_script"] (spLaw K) := by
  have e := hfa.symm.trans (PySem.W.mg_of X G aZ)
  cases e
  have T : TxtN K mg kdA := ⟨⟨PySem.W.mg_none_of X G z0, PySem.W.mg_none_of X G z1, PySem.W.mg_none_of X G z2, PySem.W.mg_none_of X G z3, PySem.W.mg_none_of X G z4, PySem.W.mg_none_of X G z5, PySem.W.mg_none_of X G z6, PySem.W.mg_none_of X G z7, PySem.W.mg_none_of X G z8, PySem.W.mg_none_of X G z9, PySem.W.mg_none_of X G z10, PySem.W.mg_none_of X G z11, PySem.W.mg_none_of X G z12, PySem.W.mg_none_of X G z13, PySem.W.mg_none_of X G z14, PySem.W.mg_none_of X G z15, PySem.W.mg_none_of X G z16, PySem.W.mg_none_of X G z17, PySem.W.mg_none_of X G z18⟩, ⟨tl, PySem.W.mg_of X G aLet⟩, ⟨tn, PySem.W.mg_of X G aLon⟩, PySem.W.mg_of X G aKin, fun H => .inr ⟨_, _, _, lKin, rfl, rfl, (by show 2 ≤ sizeLine; decide), .cons ⟨_, rfl⟩ (.cons ⟨_, rfl⟩ .nil)⟩⟩
  have Fx0 := fun_mk (st := sWhole) lx0 cx0 kx0
  have Fx1 := fun_mk (st := sName) lx1 cx1 kx1
  have Fx2 := fun_mk (st := sDeed) lx2 cx2 kx2
  have Fx3 := fun_mk (st := s_is_row) lx3 cx3 kx3
  have Fx4 := fun_mk (st := s_is_plot) lx4 cx4 kx4
  have Fx5 := fun_mk (st := s_are_plots) lx5 cx5 kx5
  have Fx6 := fun_mk (st := s_is_again) lx6 cx6 kx6
  have Fx7 := fun_mk (st := s_plot_rows) lx7 cx7 kx7
  have Fx8 := fun_mk (st := s_rows_of) lx8 cx8 kx8
  have Fx9 := fun_mk (st := s_rows_or) lx9 cx9 kx9
  have Fx10 := fun_mk (st := s_rows_then) lx10 cx10 kx10
  have Fx11 := fun_mk (st := s_rows_again) lx11 cx11 kx11
  have Fx12 := fun_mk (st := s_each_behind) lx12 cx12 kx12
  have Fx13 := fun_mk (st := s_find_row) lx13 cx13 kx13
  have Fx14 := fun_mk (st := sMixed) lx14 cx14 kx14
  have Fx15 := fun_mk (st := sPack) lx15 cx15 kx15
  have Fx16 := fun_mk (st := sTake) lx16 cx16 kx16
  have Fx17 := fun_mk (st := sl_deeds) lx17 cx17 kx17
  have Fx18 := fun_mk (st := sl_sum) lx18 cx18 kx18
  have Fx19 := fun_mk (st := sl_counted) lx19 cx19 kx19
  have Fx20 := fun_mk (st := sl_kinds) lx20 cx20 kx20
  have Fx21 := fun_mk (st := sl_asked) lx21 cx21 kx21
  have FZ := fun_mk (st := sLaw) lZ cZ kZ
  have bx0 := Fx0.binds (ps := ["thing"]) fun _ _ _ _ _ _ us hl => match us, hl with | [_], _ => rfl
  have bx1 := Fx1.binds (ps := ["thing"]) fun _ _ _ _ _ _ us hl => match us, hl with | [_], _ => rfl
  have bx2 := Fx2.binds (ps := ["thing"]) fun _ _ _ _ _ _ us hl => match us, hl with | [_], _ => rfl
  have bx3 := Fx3.binds (ps := ["thing"]) fun _ _ _ _ _ _ us hl => match us, hl with | [_], _ => rfl
  have bx4 := Fx4.binds (ps := ["thing"]) fun _ _ _ _ _ _ us hl => match us, hl with | [_], _ => rfl
  have bx5 := Fx5.binds (ps := ["thing"]) fun _ _ _ _ _ _ us hl => match us, hl with | [_], _ => rfl
  have bx6 := Fx6.binds (ps := ["thing"]) fun _ _ _ _ _ _ us hl => match us, hl with | [_], _ => rfl
  have bx7 := Fx7.binds (ps := ["plot"]) fun _ _ _ _ _ _ us hl => match us, hl with | [_], _ => rfl
  have bx8 := Fx8.binds (ps := ["plot"]) fun _ _ _ _ _ _ us hl => match us, hl with | [_], _ => rfl
  have bx9 := Fx9.binds (ps := ["parts"]) fun _ _ _ _ _ _ us hl => match us, hl with | [_], _ => rfl
  have bx10 := Fx10.binds (ps := ["parts"]) fun _ _ _ _ _ _ us hl => match us, hl with | [_], _ => rfl
  have bx11 := Fx11.binds (ps := ["rows", "least", "most"]) fun _ _ _ _ _ _ us hl => match us, hl with | [_, _, _], _ => rfl
  have bx12 := Fx12.binds (ps := ["firsts", "seconds"]) fun _ _ _ _ _ _ us hl => match us, hl with | [_, _], _ => rfl
  have bx13 := Fx13.binds (ps := ["found", "row"]) fun _ _ _ _ _ _ us hl => match us, hl with | [_, _], _ => rfl
  have bx14 := Fx14.binds (ps := ["_law_cell"]) fun _ _ _ _ _ _ us hl => match us, hl with | [_], _ => rfl
  have bx15 := Fx15.binds (ps := ["_law_script", "_law_k"]) fun _ _ _ _ _ _ us hl => match us, hl with | [_, _], _ => rfl
  have bx16 := Fx16.binds (ps := ["_law_pack_here", "_law_size"]) fun _ _ _ _ _ _ us hl => match us, hl with | [_, _], _ => rfl
  have bx17 := Fx17.binds (ps := ["_law_amount"]) fun _ _ _ _ _ _ us hl => match us, hl with | [_], _ => rfl
  have bx18 := Fx18.binds (ps := ["_law_amount"]) fun _ _ _ _ _ _ us hl => match us, hl with | [_], _ => rfl
  have bx19 := Fx19.binds (ps := ["_law_pack_here"]) fun _ _ _ _ _ _ us hl => match us, hl with | [_], _ => rfl
  have bx20 := Fx20.binds (ps := ["_law_caught"]) fun _ _ _ _ _ _ us hl => match us, hl with | [_], _ => rfl
  have bx21 := Fx21.binds (ps := ["_law_plot"]) fun _ _ _ _ _ _ us hl => match us, hl with | [_], _ => rfl
  have D : All K mg kdA := ⟨T, ⟨fx0, _, ⟨Fx0, bx0, PySem.W.mg_of X G ax0⟩⟩, ⟨fx1, _, ⟨Fx1, bx1, PySem.W.mg_of X G ax1⟩⟩, ⟨fx2, _, ⟨Fx2, bx2, PySem.W.mg_of X G ax2⟩⟩, ⟨fx3, _, ⟨Fx3, bx3, PySem.W.mg_of X G ax3⟩⟩, ⟨fx4, _, ⟨Fx4, bx4, PySem.W.mg_of X G ax4⟩⟩, ⟨fx5, _, ⟨Fx5, bx5, PySem.W.mg_of X G ax5⟩⟩, ⟨fx6, _, ⟨Fx6, bx6, PySem.W.mg_of X G ax6⟩⟩, ⟨fx7, _, ⟨Fx7, bx7, PySem.W.mg_of X G ax7⟩⟩, ⟨fx8, _, ⟨Fx8, bx8, PySem.W.mg_of X G ax8⟩⟩, ⟨fx9, _, ⟨Fx9, bx9, PySem.W.mg_of X G ax9⟩⟩, ⟨fx10, _, ⟨Fx10, bx10, PySem.W.mg_of X G ax10⟩⟩, ⟨fx11, _, ⟨Fx11, bx11, PySem.W.mg_of X G ax11⟩⟩, ⟨fx12, _, ⟨Fx12, bx12, PySem.W.mg_of X G ax12⟩⟩, ⟨fx13, _, ⟨Fx13, bx13, PySem.W.mg_of X G ax13⟩⟩, ⟨fx14, _, ⟨Fx14, bx14, PySem.W.mg_of X G ax14⟩⟩, ⟨fx15, _, ⟨Fx15, bx15, PySem.W.mg_of X G ax15⟩⟩, ⟨fx16, _, ⟨Fx16, bx16, PySem.W.mg_of X G ax16⟩⟩, ⟨fx17, _, ⟨Fx17, bx17, PySem.W.mg_of X G ax17⟩⟩, ⟨fx18, _, ⟨Fx18, bx18, PySem.W.mg_of X G ax18⟩⟩, ⟨fx19, _, ⟨Fx19, bx19, PySem.W.mg_of X G ax19⟩⟩, ⟨fx20, _, ⟨Fx20, bx20, PySem.W.mg_of X G ax20⟩⟩, ⟨fx21, _, ⟨Fx21, bx21, PySem.W.mg_of X G ax21⟩⟩, ⟨_, PySem.W.mg_of X G cv_MOST_ROWS⟩, ⟨_, PySem.W.mg_of X G cv_MOST_DEEDS⟩, ⟨_, PySem.W.mg_of X G cv_MOST_TIMES⟩⟩
  exact ⟨PySem.W.fnOf "law" "law" (defArgs sLaw) (defBody sLaw) (defScope sLaw) .none kVZ dcZ pmZ anZ cdZ ctZ, fun s v => .of_eq rfl, fun base _ _ => ok_law D FZ (TX := ⟨PySem.W.mg_of X G h_rr1, x_rr1⟩) (TY := ⟨PySem.W.mg_of X G h_rr0, x_rr0⟩) (TE := ⟨PySem.W.mg_of X G h_rtA, PySem.W.mg_none_of X G rV, PySem.W.mg_of X G h_rc0, PySem.W.mg_of X G h_rc1, PySem.W.mg_of X G h_rc2, PySem.W.mg_of X G h_rc3, PySem.W.mg_of X G h_rc4, PySem.W.mg_of X G h_rc5, PySem.W.mg_of X G h_rc6, PySem.W.mg_of X G h_rc7, m_rr0, m_rr1, ⟨⟨q0_0, q0_1, q0_2, q0_3, q0_4, q0_5, q0_6, q0_7, q0_8, q0_9, q0_10, q0_11, trivial⟩, ⟨⟨⟨⟨r1_rr0, r2_rr0, r3_rr0, r4, r5, r6_rr0, r7_rr0⟩, c_rr0⟩, q1_0⟩, ⟨⟨⟨r1_rr0, r2_rr0, r3_rr0, r4, r5, r6_rr0, r7_rr0⟩, c_rr0⟩, q1_1⟩, ⟨⟨⟨r1_rr0, r2_rr0, r3_rr0, r4, r5, r6_rr0, r7_rr0⟩, c_rr0⟩, q1_2⟩, ⟨⟨⟨r1_rr0, r2_rr0, r3_rr0, r4, r5, r6_rr0, r7_rr0⟩, c_rr0⟩, q1_3⟩, ⟨⟨⟨r1_rr0, r2_rr0, r3_rr0, r4, r5, r6_rr0, r7_rr0⟩, c_rr0⟩, q1_4⟩, ⟨⟨⟨r1_rr0, r2_rr0, r3_rr0, r4, r5, r6_rr0, r7_rr0⟩, c_rr0⟩, q1_5⟩, ⟨⟨⟨r1_rr0, r2_rr0, r3_rr0, r4, r5, r6_rr0, r7_rr0⟩, c_rr0⟩, q1_6⟩, ⟨⟨⟨r1_rr0, r2_rr0, r3_rr0, r4, r5, r6_rr0, r7_rr0⟩, c_rr0⟩, q1_7⟩, ⟨⟨⟨r1_rr0, r2_rr0, r3_rr0, r4, r5, r6_rr0, r7_rr0⟩, c_rr0⟩, q1_8⟩, ⟨⟨⟨r1_rr0, r2_rr0, r3_rr0, r4, r5, r6_rr0, r7_rr0⟩, c_rr0⟩, q1_9⟩, ⟨⟨⟨r1_rr0, r2_rr0, r3_rr0, r4, r5, r6_rr0, r7_rr0⟩, c_rr0⟩, q1_10⟩, ⟨⟨⟨r1_rr0, r2_rr0, r3_rr0, r4, r5, r6_rr0, r7_rr0⟩, c_rr0⟩, q1_11⟩, trivial⟩, ⟨⟨⟨⟨r1_rr1, r2_rr1, r3_rr1, r4, r5, r6_rr1, r7_rr1⟩, c_rr1⟩, q2_0⟩, ⟨⟨⟨r1_rr1, r2_rr1, r3_rr1, r4, r5, r6_rr1, r7_rr1⟩, c_rr1⟩, q2_1⟩, ⟨⟨⟨r1_rr1, r2_rr1, r3_rr1, r4, r5, r6_rr1, r7_rr1⟩, c_rr1⟩, q2_2⟩, ⟨⟨⟨r1_rr1, r2_rr1, r3_rr1, r4, r5, r6_rr1, r7_rr1⟩, c_rr1⟩, q2_3⟩, ⟨⟨⟨r1_rr1, r2_rr1, r3_rr1, r4, r5, r6_rr1, r7_rr1⟩, c_rr1⟩, q2_4⟩, ⟨⟨⟨r1_rr1, r2_rr1, r3_rr1, r4, r5, r6_rr1, r7_rr1⟩, c_rr1⟩, q2_5⟩, ⟨⟨⟨r1_rr1, r2_rr1, r3_rr1, r4, r5, r6_rr1, r7_rr1⟩, c_rr1⟩, q2_6⟩, ⟨⟨⟨r1_rr1, r2_rr1, r3_rr1, r4, r5, r6_rr1, r7_rr1⟩, c_rr1⟩, q2_7⟩, ⟨⟨⟨r1_rr1, r2_rr1, r3_rr1, r4, r5, r6_rr1, r7_rr1⟩, c_rr1⟩, q2_8⟩, ⟨⟨⟨r1_rr1, r2_rr1, r3_rr1, r4, r5, r6_rr1, r7_rr1⟩, c_rr1⟩, q2_9⟩, ⟨⟨⟨r1_rr1, r2_rr1, r3_rr1, r4, r5, r6_rr1, r7_rr1⟩, c_rr1⟩, q2_10⟩, ⟨⟨⟨r1_rr1, r2_rr1, r3_rr1, r4, r5, r6_rr1, r7_rr1⟩, c_rr1⟩, q2_11⟩, trivial⟩⟩⟩)⟩
theorem walk {l : PySem.W.OpenLaw} {q : Program} {loose : List Str} {XP : (Str → Option Value) → Heap → Prop} {YP : World → Heap → Prop} {d : DefRec} {K : Params → PySem.W.Frag} (hn : l.most = some 63) (hdf : d.params.defaults = [])
    (hY : ∀ (w : World) (h : Heap), YP w h → (K w.params).In h)
    (F : ∀ (w : World) (mg : Str → Option Value) (fa : Addr) (h : Heap), (K w.params).In h → h.Ns mainGlobals mg → mg d.name = some (.ref fa) →
      ∃ fd : FuncData, (∀ (s : Shared) (u : Value), BindsTo s fd ⟨[u], []⟩ [("_law_script", u)]) ∧ ∀ base : Heap, (K w.params).In base → base.Ns mainGlobals mg → FnOk l.prog w (K w.params) mg base CX0 19 fa fd ["_law_script"] (spLaw (K w.params))) :
    PySem.W.WalkO q loose XP YP l.row.toRowW d [] (fun f vs => PySem.call f vs) :=
  L2.walk_ofB (n := 63) (k := 19) (x := "_law_script") (CX := fun _ => CX0) (sp := fun w => spLaw (K w.params)) hn (by decide) hdf ⟨rfl, by decide, by decide⟩ hY F (fun _ _ a ns hl hb _ hS => law_start hl hb hS) fun _ _ _ _ _ z => z
end K1
open PySem PySem.W PyProof.Rows
def PySem.W.Fast.tw11576277746542818346 : Unit := ()
def PySem.W.Fast.tw5306426081201549700 : Unit := ()
def PySem.W.Fast.tw4869579596585010265 : Unit := ()
def PySem.W.Fast.tw2002812650255627137 : Unit := ()
def PySem.W.Fast.tw13976150213725641100 : Unit := ()
def PySem.W.Fast.tw13098453236507455017 : Unit := ()
def PySem.W.Fast.tw14504767282777698383 : Unit := ()
def PySem.W.Fast.tw8771081478709978335 : Unit := ()
def PySem.W.Fast.tw601344350685077540 : Unit := ()
def PySem.W.Fast.tw1906193161318020954 : Unit := ()
def PySem.W.Fast.tw123583026692090034 : Unit := ()
def PySem.W.Fast.tw5847964584055988194 : Unit := ()
def PySem.W.Fast.tw957211722740044396 : Unit := ()
def PySem.W.Fast.tw15624305325342962708 : Unit := ()
def PySem.W.Fast.tw15664090305968536504 : Unit := ()
def PySem.W.Fast.tw8341728503068602869 : Unit := ()
def PySem.W.Fast.tw8421132321728175031 : Unit := ()
def PySem.W.Fast.tw9871673580465674257 : Unit := ()
def PySem.W.Fast.tw4776672369979726827 : Unit := ()
def PySem.W.Fast.tw14282279041289353362 : Unit := ()
def PySem.W.Fast.tw2152486844629752060 : Unit := ()
def PySem.W.Fast.tw3360648977209010695 : Unit := ()
def PySem.W.Fast.tw11104820096161551056 : Unit := ()
def PySem.W.Fast.tw13490970345056247788 : Unit := ()
def PySem.W.Fast.tw10040656284829943237 : Unit := ()
def PySem.W.Fast.tw9319249340152016378 : Unit := ()
def PySem.W.Fast.tw2695168934390256976 : Unit := ()
def PySem.W.Fast.tw5273692564729672089 : Unit := ()
def PySem.W.Fast.tw17756323211952589807 : Unit := ()
def PySem.W.Fast.tw14045527315784607070 : Unit := ()
def PySem.W.Fast.tw14361761548197237896 : Unit := ()
def PySem.W.Fast.tw231929756083499575 : Unit := ()
def PySem.W.Fast.tw1651773217322957143 : Unit := ()
def PySem.W.Fast.tw17417585720687464047 : Unit := ()
def PySem.W.Fast.tw1815117292357457351 : Unit := ()
def PySem.W.Fast.tw12102437497324008799 : Unit := ()
def PySem.W.Fast.tw9522859608852702161 : Unit := ()
def PySem.W.Fast.tw4588541639744570355 : Unit := ()
def PySem.W.Fast.tw7636544010692642483 : Unit := ()
def PySem.W.Fast.tw8763904377760597094 : Unit := ()
def PySem.W.Fast.tw16878872273168351938 : Unit := ()
def PySem.W.Fast.tw4248159003660500255 : Unit := ()
def PySem.W.Fast.tw13959306315860070430 : Unit := ()
def PySem.W.Fast.tw9883047147134706050 : Unit := ()
def PySem.W.Fast.tw14748379741480194404 : Unit := ()
def PySem.W.Fast.tw7616648283581840904 : Unit := ()
def PySem.W.Fast.tw12392341047994864992 : Unit := ()
def PySem.W.Fast.tw8915630757292549063 : Unit := ()
def PySem.W.Fast.tw648404046273258474 : Unit := ()
def PySem.W.Fast.tw15037189270264739065 : Unit := ()
def PySem.W.Fast.tw2690632075089549915 : Unit := ()
def PySem.W.Fast.tw11610253109878208886 : Unit := ()
def PySem.W.Fast.tw15256671161419920595 : Unit := ()
def PySem.W.Fast.tw16934986829541859759 : Unit := ()
def PySem.W.Fast.tw15340750075326111199 : Unit := ()
def PySem.W.Fast.tw6743797571890280648 : Unit := ()
def PySem.W.Fast.tw16988318602097936486 : Unit := ()
def PySem.W.Fast.tw5866431815487196003 : Unit := ()
def PySem.W.Fast.tw11287552093009912415 : Unit := ()
def PySem.W.Fast.tw7146410982195527995 : Unit := ()
def PySem.W.Fast.tw15153968822458223907 : Unit := ()
def PySem.W.Fast.tw3108201327887090192 : Unit := ()
def PySem.W.Fast.tw6690218674362159145 : Unit := ()
set_option maxRecDepth 100000 in
set_option maxHeartbeats 0 in
theorem PySem.Challenge.cw_talehands_k28_plots_refused_holds : PySem.Challenge.rw_talehands_k28_plots_refused.Holds := by
  w_on; o_law; k_head; (case hw => w_witness2)
  k_fill
  refine K1.walk (l := PySem.Challenge.rw_talehands_k28_plots_refused) rfl rfl (fun w h Y => PySem.W.kIn_of Y) ?F
  case F =>
    intro w mg fa h KX G hmg
    refine' K1.all_mk KX G hmg ?ax0 ?lx0 ?cx0 ?kx0 ?ax1 ?lx1 ?cx1 ?kx1 ?ax2 ?lx2 ?cx2 ?kx2 ?ax3 ?lx3 ?cx3 ?kx3 ?ax4 ?lx4 ?cx4 ?kx4 ?ax5 ?lx5 ?cx5 ?kx5 ?ax6 ?lx6 ?cx6 ?kx6 ?ax7 ?lx7 ?cx7 ?kx7 ?ax8 ?lx8 ?cx8 ?kx8 ?ax9 ?lx9 ?cx9 ?kx9 ?ax10 ?lx10 ?cx10 ?kx10 ?ax11 ?lx11 ?cx11 ?kx11 ?ax12 ?lx12 ?cx12 ?kx12 ?ax13 ?lx13 ?cx13 ?kx13 ?ax14 ?lx14 ?cx14 ?kx14 ?ax15 ?lx15 ?cx15 ?kx15 ?ax16 ?lx16 ?cx16 ?kx16 ?ax17 ?lx17 ?cx17 ?kx17 ?ax18 ?lx18 ?cx18 ?kx18 ?ax19 ?lx19 ?cx19 ?kx19 ?ax20 ?lx20 ?cx20 ?kx20 ?ax21 ?lx21 ?cx21 ?kx21 ?aZ ?lZ ?cZ ?kZ ?z0 ?z1 ?z2 ?z3 ?z4 ?z5 ?z6 ?z7 ?z8 ?z9 ?z10 ?z11 ?z12 ?z13 ?z14 ?z15 ?z16 ?z17 ?z18 ?aLet ?aLon ?aKin ?lKin ?cv_MOST_ROWS ?cv_MOST_DEEDS ?cv_MOST_TIMES ?h_rr0 ?h_rr1 ?h_rc0 ?h_rc1 ?h_rc2 ?h_rc3 ?h_rc4 ?h_rc5 ?h_rc6 ?h_rc7 ?h_rtA ?rV ?x_rr0 ?m_rr0 ?c_rr0 ?r1_rr0 ?r2_rr0 ?r3_rr0 ?r6_rr0 ?r7_rr0 ?x_rr1 ?m_rr1 ?c_rr1 ?r1_rr1 ?r2_rr1 ?r3_rr1 ?r6_rr1 ?r7_rr1 ?r4 ?r5 ?q0_0 ?q0_1 ?q0_2 ?q0_3 ?q0_4 ?q0_5 ?q0_6 ?q0_7 ?q0_8 ?q0_9 ?q0_10 ?q0_11 ?q1_0 ?q1_1 ?q1_2 ?q1_3 ?q1_4 ?q1_5 ?q1_6 ?q1_7 ?q1_8 ?q1_9 ?q1_10 ?q1_11 ?q2_0 ?q2_1 ?q2_2 ?q2_3 ?q2_4 ?q2_5 ?q2_6 ?q2_7 ?q2_8 ?q2_9 ?q2_10 ?q2_11
    (case ax0 => k_is)
    (case lx0 => k_is)
    (case cx0 => k_is)
    (case kx0 => k_is)
    (case ax1 => k_is)
    (case lx1 => k_is)
    (case cx1 => k_is)
    (case kx1 => k_is)
    (case ax2 => k_is)
    (case lx2 => k_is)
    (case cx2 => k_is)
    (case kx2 => k_is)
    (case ax3 => k_is)
    (case lx3 => k_is)
    (case cx3 => k_is)
    (case kx3 => k_is)
    (case ax4 => k_is)
    (case lx4 => k_is)
    (case cx4 => k_is)
    (case kx4 => k_is)
    (case ax5 => k_is)
    (case lx5 => k_is)
    (case cx5 => k_is)
    (case kx5 => k_is)
    (case ax6 => k_is)
    (case lx6 => k_is)
    (case cx6 => k_is)
    (case kx6 => k_is)
    (case ax7 => k_is)
    (case lx7 => k_is)
    (case cx7 => k_is)
    (case kx7 => k_is)
    (case ax8 => k_is)
    (case lx8 => k_is)
    (case cx8 => k_is)
    (case kx8 => k_is)
    (case ax9 => k_is)
    (case lx9 => k_is)
    (case cx9 => k_is)
    (case kx9 => k_is)
    (case ax10 => k_is)
    (case lx10 => k_is)
    (case cx10 => k_is)
    (case kx10 => k_is)
    (case ax11 => k_is)
    (case lx11 => k_is)
    (case cx11 => k_is)
    (case kx11 => k_is)
    (case ax12 => k_is)
    (case lx12 => k_is)
    (case cx12 => k_is)
    (case kx12 => k_is)
    (case ax13 => k_is)
    (case lx13 => k_is)
    (case cx13 => k_is)
    (case kx13 => k_is)
    (case ax14 => k_is)
    (case lx14 => k_is)
    (case cx14 => k_is)
    (case kx14 => k_is)
    (case ax15 => k_is)
    (case lx15 => k_is)
    (case cx15 => k_is)
    (case kx15 => k_is)
    (case ax16 => k_is)
    (case lx16 => k_is)
    (case cx16 => k_is)
    (case kx16 => k_is)
    (case ax17 => k_is)
    (case lx17 => k_is)
    (case cx17 => k_is)
    (case kx17 => k_is)
    (case ax18 => k_is)
    (case lx18 => k_is)
    (case cx18 => k_is)
    (case kx18 => k_is)
    (case ax19 => k_is)
    (case lx19 => k_is)
    (case cx19 => k_is)
    (case kx19 => k_is)
    (case ax20 => k_is)
    (case lx20 => k_is)
    (case cx20 => k_is)
    (case kx20 => k_is)
    (case ax21 => k_is)
    (case lx21 => k_is)
    (case cx21 => k_is)
    (case kx21 => k_is)
    (case aZ => k_is)
    (case lZ => k_is)
    (case cZ => k_is)
    (case kZ => k_is)
    (case z0 => k_is)
    (case z1 => k_is)
    (case z2 => k_is)
    (case z3 => k_is)
    (case z4 => k_is)
    (case z5 => k_is)
    (case z6 => k_is)
    (case z7 => k_is)
    (case z8 => k_is)
    (case z9 => k_is)
    (case z10 => k_is)
    (case z11 => k_is)
    (case z12 => k_is)
    (case z13 => k_is)
    (case z14 => k_is)
    (case z15 => k_is)
    (case z16 => k_is)
    (case z17 => k_is)
    (case z18 => k_is)
    (case aLet => k_is)
    (case aLon => k_is)
    (case aKin => k_is)
    (case lKin => k_is)
    (case cv_MOST_ROWS => k_is)
    (case cv_MOST_DEEDS => k_is)
    (case cv_MOST_TIMES => k_is)
    (case h_rr0 => k_is)
    (case h_rr1 => k_is)
    (case h_rc0 => k_is)
    (case h_rc1 => k_is)
    (case h_rc2 => k_is)
    (case h_rc3 => k_is)
    (case h_rc4 => k_is)
    (case h_rc5 => k_is)
    (case h_rc6 => k_is)
    (case h_rc7 => k_is)
    (case h_rtA => k_is)
    (case rV => k_is)
    (case x_rr0 => k_exc)
    (case m_rr0 => kts_exm)
    (case c_rr0 => rfl)
    (case r1_rr0 => k_is)
    (case r2_rr0 => k_is)
    (case r3_rr0 => k_is)
    (case r6_rr0 => k_is)
    (case r7_rr0 => k_is)
    (case x_rr1 => k_exc)
    (case m_rr1 => kts_exm)
    (case c_rr1 => rfl)
    (case r1_rr1 => k_is)
    (case r2_rr1 => k_is)
    (case r3_rr1 => k_is)
    (case r6_rr1 => k_is)
    (case r7_rr1 => k_is)
    (case r4 => k_is)
    (case r5 => k_is)
    (case q0_0 => kit_is)
    (case q0_1 => kit_is)
    (case q0_2 => kit_is)
    (case q0_3 => kit_is)
    (case q0_4 => kit_is)
    (case q0_5 => kit_is)
    (case q0_6 => kit_is)
    (case q0_7 => kit_is)
    (case q0_8 => kit_is)
    (case q0_9 => kit_is)
    (case q0_10 => kit_is)
    (case q0_11 => kit_is)
    (case q1_0 => kit_is)
    (case q1_1 => kit_is)
    (case q1_2 => kit_is)
    (case q1_3 => kit_is)
    (case q1_4 => kit_is)
    (case q1_5 => kit_is)
    (case q1_6 => kit_is)
    (case q1_7 => kit_is)
    (case q1_8 => kit_is)
    (case q1_9 => kit_is)
    (case q1_10 => kit_is)
    (case q1_11 => kit_is)
    (case q2_0 => kit_is)
    (case q2_1 => kit_is)
    (case q2_2 => kit_is)
    (case q2_3 => kit_is)
    (case q2_4 => kit_is)
    (case q2_5 => kit_is)
    (case q2_6 => kit_is)
    (case q2_7 => kit_is)
    (case q2_8 => kit_is)
    (case q2_9 => kit_is)
    (case q2_10 => kit_is)
    (case q2_11 => kit_is)
