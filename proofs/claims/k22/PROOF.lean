import PyProof.Rows.All
import Wide.All
import OpenK.AllK
import Wide.FinOn
import Lean
import PyProof.EqAt
import PyProof.EqKinds
import PyProof.TupleCall
import PySem.Challenge.RW_talehands_k22_stories_within_rooms
open List renaming getElem?_eq_some_iff → ay0, length_map → ay3, getElem?_map → ay4, getElem?_eq_getElem → ay7, getElem?_append_left → ay8, mem_of_getElem? → by3, mem_cons_self → by5, size_toArray → by6, mem_cons_of_mem → by8, mem_append → by9, mem_cons → cy4, length_append → cy5, mem_singleton → cy9, getElem?_append_right → dy1, getElem?_set_self → dy3, mem_append_right → dy5, mem_map → dy6, getElem?_take_of_lt → dy9, range → ey5, getElem?_set_ne → ey6, map_append → fy1, map_cons → fy4, append_assoc → fy5, mem_append_left → fy6, mem_iff_getElem? → gy0, take_add_one → gy1, getElem?_drop → gy2, filter_append → gy5, map_map → gy7, append_nil → hy4, take_length → hy6, mem_flatMap → hy7, length_take → iy2, take_of_length_le → jy0, countP_eq_length_filter → jy7, mem_filter → jy8, length_drop → ky1, filter_cons → ky2, filterMap_cons → ky5, replicate → ky6, of_mem_zip → ky7, length_set → ky8, getElem?_eq_none → ly0, lookup_cons → ly4, mem_of_mem_take → ly6, mem_range → my0, ext_getElem? → my2, find?_cons → my4, getElem?_zip_eq_some → ny5, getElem?_of_mem → ny6, mem_of_mem_drop → ny7, nodup_cons → ny9, length_range → oy3, length_eq_zero_iff → oy6, getElem?_range → oy8, map_congr_left → oy9, getElem_inj → py0, take_append_of_le_length → py2, not_mem_nil → py3, mem_filterMap → py5, length_filter_le → qy2, any_cons → qy7, length_cons → ry2, prefix_refl → ry4, take_prefix → ry5, getElem_mem → ry6, getD → sy4
open PySem renaming wpAny_bind → ay1, wpAny_pure → ay9, sizeLine → by0, mainGlobals → by7, Program → dy7, starEach → ey1, bootBuiltins → ey7, FuncData → ey8, Spec → fy2, compareOp → fy7, wpAny_newObj_type → gy3, wpAny_callSpecial?_slot → hy3, wpAny_call_entry → hy5, foldedSetIterable → hy8, mem_of_lookup → iy1, wpAny_truthy_bool → iy6, wpAny_field → iy8, wpAny_loadPart' → jy2, wpAny_holding → jy3, binaryOp → jy5, assignEach → ky0, codeAny_builtin → ky9, sysModules → ly1, wpAny_mono → ly2, wpAny_typeNameOfWhole_valiter → ly5, wpAny_passesOwn → ny8, wpAny_typeNameOf_valiter → oy1, sizeLine_eq → oy4, wpAny_getItem_str_slice → oy5, wpAny_pyIter_tuple → py4, wpAny_setField_rec → py6, NameKind → sy2
open PySem.W renaming Frag → ay2, nsIn → cy2, keepIn → cy8, codeIn → dy0, mg_of → dy2, fnOf → dy4, mg_none_of → ey9, kia_one → iy0
open Nat renaming le_refl → ay5, lt_of_lt_of_le → by1, le_trans → cy6, ne_of_lt → cy7, zero_le → dy8, lt_irrefl → ly8, ne_of_gt → my1, lt_succ_self → my7, le_of_lt → my8, min_eq_left → qy1, lt_succ_of_lt → qy8, min_le_right → ry3, le_succ → sy6
open PySem.Heap renaming get?_push_of_some → ay6, get?_push_size → by2, lt_size → cy1, SameBut → hy0, get?_update_other → ky4, get?_update_self → my9, size_push → ry0
open PySem.F renaming plainAttrs_list → cy0, slot_list_append → ey3, type_list_append → ey4, slot_list_index → gy6, type_list_index → iy7, slot_dict_valueiterator_next → iy9, slot_dict_setdefault → jy6, plainAttrs_dict → jy9, slot_tuple_iterator_next → ky3, slot_enumerate_next → my5, slot_dict_values → oy2, type_dict_setdefault → py8, called_set → qy5
open Bool renaming false_ne_true → cy3, eq_iff_iff → gy4, and_eq_true → iy3, false_eq_true → ny2
open PySem.PyData renaming eqv → ey0, canLayAll0 → ey2, depthAll → fy9, canLay0 → iy4, eqvAll → jy4, depth → qy3, strOk → ry9
open Option renaming map_eq_some_iff → fy0, map_some → sy3
open PySem.Value renaming none → fy3, ref → fy8
open PySem.PassesOwn renaming never → gy8
open PySem.Builtin.Int renaming intBits → gy9
open Int renaming toNat_natCast → hy1
open PyProof.Rows renaming slot_tuple_getitem → hy2, callWith_type1 → my3
open Array renaming length_toList → hy9, getElem?_toList → ny0
open Ne renaming symm → iy5
open Option.some renaming inj → jy1
open PySem.Obj renaming mapSeq → ly3, data_mapFields → ny1
open PySem.Around renaming under_plainId → ly7
open PySem.NameKind renaming free → ly9
open False renaming elim → my6
open PySem.Builtin.Slice renaming slicePlaces → ny3, sliceAdjust → qy9
open PySem.Builtin.SmallTypes renaming nextOf → ny4, ownedTupleHandOut → ry1, ownedTupleIsFree → ry7
open PySem.Builtin.Tuple renaming tupleExact → oy0
open PySem.Heap.SameBut renaming update → oy7
open PySem.Txt renaming slice → py1
open PySem.Builtin.Dict_items renaming ownsTuple → py7
open PySem.Str renaming ofString → py9
open ForInStep renaming yield → qy0
open PySem.Builtin.Dict renaming showsAll → qy4
open True renaming intro → qy6
open PySem.Builtin.List renaming listTooLong → ry8
open PySem.Builtin.Range renaming rangeSize → sy0
open PySem.Builtin.Str renaming occurrences → sy1
open Function renaming comp → sy5
noncomputable section
set_option Elab.async false
set_option linter.all false
set_option maxRecDepth 100000
set_option Elab.async false
set_option linter.all false
set_option maxRecDepth 100000
namespace L2
open PySem PySem.Spec PyProof.Rows
/-- a key: an int or a str -/
abbrev Key:=Sum Int Str
def zF6 : Key->Value->Bool
 | .inl k,v=>Value.isInt k v
 | .inr x,v=>Value.isStrOf x v
def keyH (w : World) : Key->Int
 | .inl k=>hashInt k
 | .inr x=>hashStr w x
theorem ze0 : ∀ {k : Key} {v : Value},zF6 k v = true->(∃ i t,k = Sum.inl i /\ v = Value.int i t) \/ (∃ x t,k = Sum.inr x /\ v = Value.str x t)
 | .inl i,v,h=>by
  obtain ⟨t,e⟩:=Value.isInt_shape (k:=i) (v:=v) h
  exact .inl ⟨i,t,rfl,e⟩
 | .inr x,v,h=>by
  obtain ⟨t,e⟩:=Value.isStrOf_shape (x:=x) (v:=v) h
  exact .inr ⟨x,t,rfl,e⟩
theorem zR6 (i : Int) (t : Tok) : zF6 (.inl i) (.int i t) = true:=by simp [zF6,Value.isInt]
theorem zR7 (x : Str) (t : Tok) : zF6 (.inr x) (.str x t) = true:=by simp [zF6,Value.isStrOf]
theorem zc65 (a b : Int) : decide ((Sum.inl a : Key) = Sum.inl b) = (a == b):=by
 by_cases e : a = b
 ·subst e; simp
 ·have h : ¬ (Sum.inl a : Key) = Sum.inl b:=fun q=>e (Sum.inl.inj q)
  rw [decide_eq_false h]
  exact (beq_eq_false_iff_ne.mpr e).symm
theorem zc66 (a b : Str) : decide ((Sum.inr a : Key) = Sum.inr b) = decide (a = b):=by
 by_cases e : a = b
 ·subst e; simp
 ·have h : ¬ (Sum.inr a : Key) = Sum.inr b:=fun q=>e (Sum.inr.inj q)
  rw [decide_eq_false h,decide_eq_false e]
theorem zc67 (a : Int) (b : Str) : decide ((Sum.inl a : Key) = Sum.inr b) = false:=decide_eq_false (fun q=>nomatch q)
theorem zc68 (a : Str) (b : Int) : decide ((Sum.inr a : Key) = Sum.inl b) = false:=decide_eq_false (fun q=>nomatch q)
def ze3 (prog : dy7) (w : World) : PySem.KeyKind prog w Key where
 is:=zF6
 hash:=keyH w
 inj:=fun v a b ha hb=>by
  rcases ze0 ha with ⟨i,t,rfl,rfl⟩ | ⟨x,t,rfl,rfl⟩
  ·rcases ze0 hb with ⟨j,u,rfl,e⟩ | ⟨y,u,rfl,e⟩
   ·injection e with e1 _; rw [e1]
   ·exact nomatch e
  ·rcases ze0 hb with ⟨j,u,rfl,e⟩ | ⟨y,u,rfl,e⟩
   ·exact nomatch e
   ·injection e with e1 _; rw [e1]
 byValue:=fun k v h=>by
  rcases ze0 h with ⟨i,t,rfl,rfl⟩ | ⟨x,t,rfl,rfl⟩ <;> rfl
 pyHash:=fun hv h=>by
  rcases ze0 hv with ⟨i,t,rfl,rfl⟩ | ⟨x,t,rfl,rfl⟩
  ·exact wpAny_pyHash_int h
  ·exact wpAny_pyHash_str h
 eqBool:=fun hu hv h=>by
  rcases ze0 hu with ⟨i,t,rfl,rfl⟩ | ⟨x,t,rfl,rfl⟩
  ·rcases ze0 hv with ⟨j,u,rfl,rfl⟩ | ⟨y,u,rfl,rfl⟩
   ·rw [zc65] at h; exact wpAny_eqBool_int h
   ·rw [zc67] at h; exact SeqAt.EqAt.int_str i t y u _ _ _ _ h
  ·rcases ze0 hv with ⟨j,u,rfl,rfl⟩ | ⟨y,u,rfl,rfl⟩
   ·rw [zc68] at h; exact SeqAt.EqAt.str_int x t j u _ _ _ _ h
   ·rw [zc66] at h; exact wpAny_eqBool_str h
 «strs»:=fun k x t v h=>by
  rcases ze0 h with ⟨i,u,rfl,e⟩ | ⟨y,u,rfl,e⟩
  ·exact nomatch e
  ·injection e with e1 _
   subst e1
   cases v <;> rfl
theorem zF7 (prog : dy7) (w : World) (i : Int) (t : Tok) : (ze3 prog w).is (.inl i) (.int i t) = true:=zR6 i t
theorem zF8 (prog : dy7) (w : World) (x : Str) (t : Tok) : (ze3 prog w).is (.inr x) (.str x t) = true:=zR7 x t
/-- a value,without the heap -/
inductive V where
 | non | bl (b : Bool) | int (i : Int) | str (x : Str) | byt (b : Array UInt8) | flt (b : UInt64) | ref (a : Addr) | ty (n : String)
 deriving DecidableEq
def RelV : V->Value->Prop
 | .non,u=>u = fy3
 | .bl b,u=>u = Value.bool b
 | .int i,u=>∃ t,u = Value.int i t
 | .str x,u=>∃ t,u = Value.str x t
 | .byt b,u=>∃ t,u = Value.bytes b t
 | .flt b,u=>∃ t,u = Value.float b t
 | .ref a,u=>u = fy8 a
 | .ty n,u=>u = Value.type n
abbrev Vals : List V->List Value->Prop:=Paired RelV
theorem Vals.length {xs : List V} {us : List Value} (r : Vals xs us) : xs.length = us.length:=Paired.length r
theorem Vals.get : ∀ {xs : List V} {us : List Value} {i : Nat} {x : V},Vals xs us->xs[i]? = some x->∃ u,us[i]? = some u /\ RelV x u
 | _,_,_,_,.nil,e=>by simp at e
 | _,_,0,_,.cons r _,e=>by simp at e; subst e; exact ⟨_,rfl,r⟩
 | _,_,i + 1,x,.cons _ t,e=>by
  obtain ⟨u,h1,h2⟩:=Vals.get (i:=i) (x:=x) t (by simpa using e)
  exact ⟨u,by simpa using h1,h2⟩
theorem Vals.set {x : V} {u : Value} (r : RelV x u) : ∀ {xs : List V} {us : List Value} (i : Nat),Vals xs us->Vals (xs.set i x) (us.set i u)
 | _,_,_,.nil=>.nil
 | _,_,0,.cons _ t=>.cons r t
 | _,_,i + 1,.cons q t=>.cons q (Vals.set r i t)
theorem Vals.append : ∀ {xs ys : List V} {us ws : List Value},Vals xs us->Vals ys ws->Vals (xs++ys) (us++ws)
 | _,_,_,_,.nil,s=>s
 | _,_,_,_,.cons r t,s=>.cons r (Vals.append t s)
theorem Vals.take : ∀ {xs : List V} {us : List Value} (n : Nat),Vals xs us->Vals (xs.take n) (us.take n)
 | _,_,0,_=>.nil
 | _,_,_ + 1,.nil=>.nil
 | _,_,n + 1,.cons r t=>.cons r (Vals.take n t)
theorem Vals.drop : ∀ {xs : List V} {us : List Value} (n : Nat),Vals xs us->Vals (xs.drop n) (us.drop n)
 | _,_,0,r=>r
 | _,_,_ + 1,.nil=>.nil
 | _,_,n + 1,.cons _ t=>Vals.drop n t
def zx8 : Option V->Option Value->Prop
 | some v,some u=>RelV v u
 | none,none=>True
 | _,_=>False
def KV {κ : Type} : List (κ × V)->List (κ × Value)->Prop:=Paired fun (p : κ × V) (q : κ × Value)=>p.1 = q.1 /\ RelV p.2 q.2
/-- a key of a dict (00_mix): an int or a text -/
def kV : Key->V
 | .inl i=>.int i
 | .inr x=>.str x
/-- what stands at a tracked address -/
inductive HO where
 /-- a list -/
 | lst (xs : List V)
 /-- a tuple (never changes) -/
 | tup (xs : List V)
 /-- a dict whose keys are ints and texts; one whose keys are tuples of ints and texts (the empty one is both) -/
 | dK (kvs : List (Key × V)) | dT (kvs : List (List Key × V))
 /-- a set of ints: its members,its size -/
 | set (S : Int->Bool) (n : Nat)
 /-- an instance of the class at C,its dict at dx,its attributes -/
 | ins (C dx : Addr) (fs : List (Str × V))
 /-- the dict of the instance at x -/
 | own (x : Addr)
 /-- the dict of an exception -/
 | xd (fs : List (Str × V))
 /-- a bound method,f of x -/
 | met (f x : Addr)
 /-- a range object lo,lo + 1,.. below hi -/
 | rng (lo hi : Int)
 /-- a thing that is known to the object (the script; a dict while a loop walks it): read,never written while it is so -/
 | frz (o : Obj) (u : HO)
 /-- a code object's table -/
 | tbl (ps : Array Value)
 /-- any other thing,by what is true of its one object (a def of one's own: SetO a S n:=HO.ext fun h=>..) -/
 | ext (φ : Heap->Prop)
abbrev Hp:=Addr->Option HO
def upd (H : Hp) (a : Addr) (o : HO) : Hp:=fun b=>if b = a then some o else H b
theorem zc4 {H : Hp} {a : Addr} {o : HO} : upd H a o a = some o:=by unfold upd; rw [if_pos rfl]
theorem zb3 {H : Hp} {a b : Addr} {o : HO} (h : b ≠ a) : upd H a o b = H b:=by unfold upd; rw [if_neg h]
/-- two objects of different content stand apart -/
theorem zN0 {H : Hp} {a b : Addr} {o u : HO} (h : H a = some o) (h' : H b = some u) (d : o ≠ u) : a ≠ b:=by
 intro e; subst e; rw [h] at h'; exact d (jy1 h')
theorem zb1 {H : Hp} {a b : Addr} {o : HO} (h : H a = some o) (h' : H b = none) : a ≠ b:=by
 intro e; subst e; rw [h] at h'; cases h'
section
variable (P : dy7) (w : World)
def zd2 (H : Hp) (h : Heap) (a : Addr) : HO->Prop
 | .lst xs=>xs.length <= by0 /\ ∃ (its : List Value) (n : Nat),Vals xs its /\ h.get? a = some { cls:=.type "list",data:=.seq its.toArray n }
 | .tup xs=>xs.length <= by0 /\ ∃ its : List Value,Vals xs its /\ IsTup h a its.toArray
 | .dK kvs=>kvs.length <= by0 /\ (a == ly1) = false /\ ∃ vs,KV kvs vs /\ h.DictOf (ze3 P w) a vs
 | .dT kvs=>kvs.length <= by0 /\ (a == ly1) = false /\ ∃ xs : List (List Key × Addr × Value),
   Paired (fun (p : List Key × V) (q : List Key × Addr × Value)=>p.1 = q.1 /\ H q.2.1 = some (.tup (p.1.map kV)) /\ RelV p.2 q.2.2) kvs xs /\
   ∃ o es ep,h.get? a = some o /\ o.ExactDict /\ o.data = .dict es ep /\ es.toList = xs.map (entryOfKey (tupleKind (ze3 P w))) /\ (xs.map (·.1)).Nodup
 | .set S n=>h.SetOf (intKind P w) a S n
 | .ins C dx fs=>H dx = some (.own a) /\ fs.length <= 1000 /\ dx ≠ a /\ h.get? a = some (PySem.W.instObj C dx) /\
   ∃ mA,h.Ns1 dx mA /\ (∀ f,zx8 (fs.lookup f) (mA f)) /\ PySem.Within mA (fs.map (·.1))
 | .own _=>∃ o,h.get? a = some o
 | .xd fs=>∃ mA,h.Ns1 a mA /\ ∀ f,zx8 (fs.lookup f) (mA f)
 | .rng lo hi=>∃ t u v,h.get? a = some { cls:=.type "range",data:=.fields #[.int lo t,.int hi u,.int 1 v] }
 | .frz o u=>h.get? a = some o /\ zd2 H h a u
 | .tbl ps=>h.get? a = some { cls:=.none,data:=.fields ps }
 | .met f x=>h.get? a = some (PySem.W.methodObj (.ref f) (.ref x))
 | .ext φ=>φ h /\ (∃ o,h.get? a = some o) /\ ∀ h1 h2 : Heap,φ h1->(∀ o,h1.get? a = some o->h2.get? a = some o)->φ h2
/-- the abstract heap is held -/
def HOk (H : Hp) (h : Heap) : Prop:=∀ a o,H a = some o->zd2 P w H h a o
end
section
variable {P : dy7} {w : World} {H H' : Hp} {h h' : Heap} {a : Addr} {o : HO}
theorem zd2.lt (x : zd2 P w H h a o) : a < h.objs.size:=by
 cases o with
 | lst xs=>obtain ⟨_,_,_,_,e⟩:=x; exact cy1 e
 | tup xs=>obtain ⟨_,_,_,p⟩:=x; exact p.lt
 | dK kvs=>obtain ⟨_,_,_,_,o,_,_,e,_⟩:=x; exact cy1 e
 | dT kvs=>obtain ⟨_,_,_,_,o,_,_,e,_⟩:=x; exact cy1 e
 | set S n=>obtain ⟨o,_,_,_,e,_⟩:=x; exact cy1 e
 | ins C dx fs=>obtain ⟨_,_,_,e,_⟩:=x; exact cy1 e
 | own y=>obtain ⟨_,e⟩:=x; exact cy1 e
 | xd fs=>obtain ⟨_,⟨_,_,_,e,_⟩,_⟩:=x; exact cy1 e
 | rng lo hi=>obtain ⟨_,_,_,e⟩:=x; exact cy1 e
 | frz ob u=>obtain ⟨e,_⟩:=x; exact cy1 e
 | tbl ps=>exact cy1 (show h.get? a = some _ from x)
 | met f y=>exact cy1 (show h.get? a = some _ from x)
 | ext φ=>obtain ⟨_,⟨_,e⟩,_⟩:=x; exact cy1 e
theorem Paired.mapP {α β : Type} {F G : α->β->Prop} : ∀ {l₁ : List α} {l₂ : List β},Paired F l₁ l₂->(∀ a b,F a b->G a b)->Paired G l₁ l₂
 | _,_,.nil,_=>.nil
 | _,_,.cons r t,f=>.cons (f _ _ r) (Paired.mapP t f)
/-- what an object's description leans on: its own object,its own dict,the tuples -/
theorem zd2.zN1 (x : zd2 P w H h a o) (k : ∀ b u,(b = a \/ H b = some (.own a))->h.get? b = some u->h'.get? b = some u)
  (ho : ∀ b,H b = some (.own a)->H' b = some (.own a)) (ht : ∀ b xs,H b = some (.tup xs)->H' b = some (.tup xs)) : zd2 P w H' h' a o:=by
 induction o with
 | lst xs=>obtain ⟨z,its,n,r,e⟩:=x; exact ⟨z,its,n,r,k _ _ (.inl rfl) e⟩
 | tup xs=>obtain ⟨z,its,r,ob,e,c⟩:=x; exact ⟨z,its,r,ob,k _ _ (.inl rfl) e,c⟩
 | dK kvs=>obtain ⟨z,y,vs,r,ob,es,ep,e,c⟩:=x; exact ⟨z,y,vs,r,ob,es,ep,k _ _ (.inl rfl) e,c⟩
 | dT kvs =>
  obtain ⟨z,y,xs,r,ob,es,ep,e,c⟩:=x
  exact ⟨z,y,xs,Paired.mapP r fun p q z=>⟨z.1,ht _ _ z.2.1,z.2.2⟩,ob,es,ep,k _ _ (.inl rfl) e,c⟩
 | set S n=>obtain ⟨ob,es,ep,t,e,c⟩:=x; exact ⟨ob,es,ep,t,k _ _ (.inl rfl) e,c⟩
 | ins C dx fs =>
  obtain ⟨d,z,ne,e,mA,⟨od,es,ep,e2,c⟩,r⟩:=x
  exact ⟨ho _ d,z,ne,k _ _ (.inl rfl) e,mA,⟨od,es,ep,k _ _ (.inr d) e2,c⟩,r⟩
 | own y=>obtain ⟨ob,e⟩:=x; exact ⟨ob,k _ _ (.inl rfl) e⟩
 | xd fs=>obtain ⟨mA,⟨od,es,ep,e,c⟩,r⟩:=x; exact ⟨mA,⟨od,es,ep,k _ _ (.inl rfl) e,c⟩,r⟩
 | rng lo hi=>obtain ⟨t,u,v,e⟩:=x; exact ⟨t,u,v,k _ _ (.inl rfl) e⟩
 | frz ob u ih=>obtain ⟨e,q⟩:=x; exact ⟨k _ _ (.inl rfl) e,ih q⟩
 | tbl ps =>
  have e : h.get? a = some { cls:=.none,data:=.fields ps }:=x
  show h'.get? a = some { cls:=.none,data:=.fields ps }
  exact k a _ (.inl rfl) e
 | met f y =>
  have e : h.get? a = some (PySem.W.methodObj (.ref f) (.ref y)):=x
  show h'.get? a = some (PySem.W.methodObj (.ref f) (.ref y))
  exact k a _ (.inl rfl) e
 | ext φ=>obtain ⟨p,⟨o,e⟩,st⟩:=x; exact ⟨st _ _ p fun o q=>k _ _ (.inl rfl) q,⟨o,k _ _ (.inl rfl) e⟩,st⟩
theorem HOk.lt (x : HOk P w H h) (e : H a = some o) : a < h.objs.size:=(x a o e).lt
theorem HOk.fresh (x : HOk P w H h) (e : h.objs.size <= a) : H a = none:=by
 cases q : H a with
 | none=>rfl
 | some u=>exact absurd (by1 (x.lt q) e) (ly8 _)
/-- every object of the heap is kept -/
theorem HOk.kept (x : HOk P w H h) (k : ∀ b u,h.get? b = some u->h'.get? b = some u) : HOk P w H h':=fun a o e =>
 (x a o e).zN1 (fun b u _ q=>k b u q) (fun _ q=>q) fun _ _ q=>q
/-- a new object is laid and tracked -/
theorem HOk.laid (x : HOk P w H h) (k : ∀ b u,h.get? b = some u->h'.get? b = some u) (hp : h.objs.size <= a) (new : zd2 P w (upd H a o) h' a o) : HOk P w (upd H a o) h':=fun b u e=>by
 have hn:=x.fresh hp
 by_cases hb : b = a
 ·subst hb; rw [zc4] at e; cases e; exact new
 ·rw [zb3 hb] at e
  exact (x b u e).zN1 (fun c v _ q=>k c v q) (fun c q=>by rw [zb3 (zb1 q hn)]; exact q) fun c xs q=>by rw [zb3 (zb1 q hn)]; exact q
end
/-- what may be read as u: it is u,or a known u -/
def Rd (H : Hp) (a : Addr) (u : HO) : Prop:=H a = some u \/ ∃ o,H a = some (.frz o u)
theorem Rd.ok {P : dy7} {w : World} {H : Hp} {h : Heap} {a : Addr} {u : HO} (r : Rd H a u) (x : HOk P w H h) : zd2 P w H h a u:=by
 rcases r with r | ⟨o,r⟩
 ·exact x a u r
 ·obtain ⟨_,q⟩:=x a _ r
  exact q
/-- what may be written -/
def Mut : Option HO->Prop
 | some (.lst _)=>True
 | some (.dK _)=>True
 | some (.dT _)=>True
 | some (.set _ _)=>True
 | some (.ins _ _ _)=>True
 | some (.ext _)=>True
 | _=>False
section
variable {P : dy7} {w : World} {H : Hp} {h h' : Heap} {x e : Addr} {o' : HO}
/-- the object at e is changed: x itself,or the dict of the instance x -/
theorem HOk.write (ok : HOk P w H h) (mu : Mut (H x)) (he : e = x \/ H e = some (.own x)) (k : ∀ b u,b ≠ e->h.get? b = some u->h'.get? b = some u) (heo : ∃ u,h'.get? e = some u)
  (new : zd2 P w (upd H x o') h' x o') : HOk P w (upd H x o') h':=fun b u q=>by
 have nown : ∀ c y,H c = some (.own y)->c ≠ x:=fun c y r z=>by subst z; rw [r] at mu; exact mu
 have ntup : ∀ c xs,H c = some (.tup xs)->c ≠ x:=fun c xs r z=>by subst z; rw [r] at mu; exact mu
 by_cases hb : b = x
 ·subst hb; rw [zc4] at q; cases q; exact new
 ·rw [zb3 hb] at q
  by_cases hbe : b = e
  ·have q' : H b = some (.own x):=by
    rcases he with z | z
    ·exact absurd (hbe.trans z) hb
    ·rw [hbe]; exact z
   rw [q] at q'; cases q'
   obtain ⟨v,hv⟩:=heo
   exact ⟨v,by rw [hbe]; exact hv⟩
  ·refine (ok b u q).zN1 (fun c v hc r=>k c v ?_ r) (fun c r=>by rw [zb3 (nown c b r)]; exact r) fun c xs r=>by rw [zb3 (ntup c xs r)]; exact r
   rcases hc with rfl | hc
   ·exact hbe
   ·rintro rfl
    rcases he with z | z
    ·exact nown c b hc z
    ·rw [hc] at z; cases z; exact hb rfl
end
structure Un (fs ex : List Addr) (H H' : Hp) (h h' : Heap) : Prop where
 keep : ∀ b o,h.get? b = some o->H b = none->b ∉ fs->b ∉ ex->h'.get? b = some o
 slot : ∀ b o,h.get? b = some o->H b = none->b∈fs->b ∉ ex->∃ sl,h'.get? b = some { o with slots:=sl }
 free : ∀ b o,h.get? b = some o->H b = none->b ∉ ex->H' b = none
 there : ∀ b o,h.get? b = some o->b ∉ ex->∃ o',h'.get? b = some o'
 tups : ∀ b xs,H b = some (.tup xs)->H' b = some (.tup xs)
 frzs : ∀ b o u,H b = some (.frz o u)->H' b = some (.frz o u)
 tbls : ∀ b ps,H b = some (.tbl ps)->∃ more,H' b = some (.tbl (ps++more))
section
variable {fs fs' ex ex' : List Addr} {H H1 H2 : Hp} {h h1 h2 h' : Heap} {a x e : Addr} {o : HO}
theorem Un.any (u : Un fs ex H H1 h h1) {b : Addr} {ob : Obj} (q : h.get? b = some ob) (n : H b = none) (hx : b ∉ ex) : ∃ sl,h1.get? b = some { ob with slots:=sl }:=by
 by_cases hb : b∈fs
 ·exact u.slot b ob q n hb hx
 ·exact ⟨ob.slots,u.keep b ob q n hb hx⟩
theorem Un.kept (k : ∀ b u,h.get? b = some u->h'.get? b = some u) : Un fs ex H H h h' :=
 ⟨fun b ob q _ _ _=>k b ob q,fun b ob q _ _ _=>⟨ob.slots,k b ob q⟩,fun _ _ _ n _=>n,fun b ob q _=>⟨ob,k b ob q⟩,fun _ _ q=>q,fun _ _ _ q=>q,fun _ ps q=>⟨#[],by rw [q]; simp⟩⟩
theorem Un.refl : Un fs ex H H h h:=Un.kept fun _ _ q=>q
theorem Un.laid (k : ∀ b u,h.get? b = some u->h'.get? b = some u) (hp : h.objs.size <= a) (hn : H a = none) : Un fs ex H (upd H a o) h h' where
 keep:=fun b u q _ _ _=>k b u q
 slot:=fun b u q _ _ _=>⟨u.slots,k b u q⟩
 free:=fun b u q n _=>by rw [zb3 (cy7 (by1 (cy1 q) hp))]; exact n
 there:=fun b u q _=>⟨u,k b u q⟩
 tups:=fun b xs q=>by rw [zb3 (zb1 q hn)]; exact q
 frzs:=fun b u xs q=>by rw [zb3 (zb1 q hn)]; exact q
 tbls:=fun b ps q=>⟨#[],by rw [zb3 (zb1 q hn),q]; simp⟩
theorem Un.write (mu : Mut (H x)) (he : e = x \/ H e = some (.own x)) (k : ∀ b u,b ≠ e->h.get? b = some u->h'.get? b = some u) (heo : ∃ u,h'.get? e = some u) : Un fs ex H (upd H x o) h h':=by
 have hx : ∀ b,H b = none->b ≠ x:=fun b n z=>by subst z; rw [n] at mu; exact mu
 have hb : ∀ b,H b = none->b ≠ e:=fun b n z=>by
  subst z
  rcases he with r | r
  ·exact hx b n r
  ·rw [n] at r; cases r
 have hm : ∀ b u,H b = some u->¬ Mut (some u)->b ≠ x:=fun b u q nm z=>by subst z; rw [q] at mu; exact nm mu
 refine ⟨fun b u q n _ _=>k b u (hb b n) q,fun b u q n _ _=>⟨u.slots,k b u (hb b n) q⟩,fun b u q n _=>by rw [zb3 (hx b n)]; exact n,fun b u q _=>?_,
  fun b xs q=>by rw [zb3 (hm b _ q fun z=>z)]; exact q,fun b u xs q=>by rw [zb3 (hm b _ q fun z=>z)]; exact q,fun b ps q=>⟨#[],by rw [zb3 (hm b _ q fun z=>z),q]; simp⟩⟩
 by_cases hbe : b = e
 ·subst hbe; exact heo
 ·exact ⟨u,k b u hbe q⟩
end
def trk (h : Heap) (H : Hp) : List Addr:=(ey5 h.objs.size).filter fun a=>(H a).isSome
def hidT (h : Heap) (H : Hp) : Heap:=PySem.W.hideAll h (trk h H)
theorem zR8 (h : Heap) (H : Hp) : (hidT h H).objs.size = h.objs.size:=PySem.W.hideAll_size _ _
theorem za42 {h : Heap} {H : Hp} {b : Addr} {o : Obj} (e : h.get? b = some o) (n : H b = none) : (hidT h H).get? b = some o :=
 PySem.W.hideAll_get _ e fun hm=>by
  have q : (H b).isSome = true:=(jy8.mp hm).2
  rw [n] at q; simp at q
theorem zb60 {h : Heap} {H : Hp} {b : Addr} {o : Obj} (e : (hidT h H).get? b = some o) : h.get? b = some o /\ H b = none:=by
 have e' : h.get? b = some o:=PySem.W.of_hideAll (trk h H) e
 refine ⟨e',?_⟩
 cases q : H b with
 | none=>rfl
 | some x =>
  have hm : b∈trk h H:=jy8.mpr ⟨my0.mpr (cy1 e'),by simp [q]⟩
  have z : (hidT h H).get? b = none:=PySem.W.hideAll_none (trk h H) hm
  rw [z] at e; cases e
/-- the module's facts,over the base: the heap at the law's entry without what is tracked there -/
structure Mod (K : ay2) (mg : Str->Option Value) (base : Heap) : Prop where
 kin : K.In base
 glob : base.Ns by7 mg
 blt : ∃ mb,base.Ns builtinsNs mb /\ ∀ x : Str,x ≠ "__name__" -> mb x = ey7 x
 nolimit : base.NoLimit
/-- the context: a def's body (or a comprehension's block) running. base: fixed through the whole law; s₀,H₀: the entry; outer: the frames whose slots others may change (a def's callers); stack: all frames that run;
   ex: iterators that were made ahead of the entry and are walked here (a comprehension's); fn: the names whose cells were made at the entry (a def: all; a comprehension's block: its own); calm: not within an except suite; pn: pins that every state bears; xe: what is wanted of an exception that leaves the code -/
structure Cx where
 prog : dy7
 w : World
 K : ay2
 mg : Str->Option Value
 base : Heap
 A : Around
 N : List Str
 s₀ : Shared
 H₀ : Hp
 env : Env
 outer : List Env
 stack : List Env
 ex : List Addr
 fn : Str->Bool
 calm : Bool
 pn : List (Addr × Obj)
 xe : Value->Shared->Prop
/-- the callers' frames -/
def frs (l : List Env) : List Addr:=l.filterMap (·.frame)
abbrev Cx.fs (X : Cx) : List Addr:=frs X.outer
def Vis (sc : Scope) (x : Str) : Prop:=sc.names.lookup x = some .local \/ sc.names.lookup x = some .cell \/ sc.names.lookup x = some .free
def Loc (sc : Scope) (x : Str) : Prop:=sc.names.lookup x = some .local \/ sc.names.lookup x = some .cell
def Look (env : Env) (h : Heap) (m : Str->Option Value) (x : Str) (u : Value) : Prop :=
 (env.kindOf x = some .local /\ m x = some u) \/ ((env.kindOf x = some .cell \/ env.kindOf x = some .free) /\ ∃ c,env.cells.lookup x = some c /\ h.IsCell c (some u))
structure Cx.Ok (X : Cx) : Prop where
 mod : Mod X.K X.mg X.base
 kind : X.env.scope.kind = .function
 glob : X.env.globals = by7
 blt : X.env.builtins = builtinsNs
 above : X.s₀.heap.objs.size <= X.env.locals
 inj : ∀ x y c,X.env.cells.lookup x = some c->X.env.cells.lookup y = some c->x = y
 has : ∀ x,(X.env.kindOf x = some .cell \/ X.env.kindOf x = some .free)->∃ c,X.env.cells.lookup x = some c
 cab : ∀ x c,X.fn x = true->X.env.cells.lookup x = some c->X.s₀.heap.objs.size <= c
 hd : X.calm = true->X.A.handled = none
 frames : X.A.frames = some X.stack
 stk : X.stack = X.outer \/ (X.stack = X.env :: X.outer /\ X.env.frame = some X.env.locals)
 exf : ∀ b∈X.ex,b ≠ X.env.locals /\ ∀ x c,X.env.cells.lookup x = some c->c ≠ b
 bs : ∀ b o,X.base.get? b = some o->X.s₀.heap.get? b = some o /\ X.H₀ b = none
 bsz : X.base.objs.size <= X.s₀.heap.objs.size
 noex : ∀ b o,X.base.get? b = some o->b ∉ X.ex
 exfs : ∀ b∈X.ex,b ∉ X.fs
 zR9 : X.s₀.heap.FunFrames X.base X.outer
 frf : ∀ b∈X.fs,X.H₀ b = none
structure Inv (X : Cx) (pins : List (Addr × Obj)) (σ : List (Option V)) (H : Hp) (s : Shared) : Prop where
 ok : X.Ok
 os : s.os = X.s₀.os
 bare : AllBare s.gens
 base : Un X.fs X.ex X.H₀ H X.s₀.heap s.heap
 loc : ∃ m,s.heap.Ns X.env.locals m /\ ∀ (i : Nat) (x : Str) (v : V),X.N[i]? = some x->σ[i]? = some (some v)->Vis X.env.scope x->∃ u,RelV v u /\ Look X.env s.heap m x u
 cell : ∀ x c,X.env.cells.lookup x = some c->∃ v,s.heap.IsCell c v
 free : H X.env.locals = none
 freeC : ∀ x c,X.env.cells.lookup x = some c->H c = none
 pin : ∀ p∈X.pn++pins,s.heap.get? p.1 = some p.2 /\ H p.1 = none /\ p.1 ≠ X.env.locals /\ p.1 ∉ X.fs /\ ∀ v,p.2.data ≠ .cell v
 hok : HOk X.prog X.w H s.heap
 len : σ.length = X.N.length
section
variable {X : Cx} {pins : List (Addr × Obj)} {σ : List (Option V)} {H H' : Hp} {s : Shared} {h' : Heap}
theorem Cx.Ok.nofr (ok : X.Ok) {b : Addr} {o : Obj} (e : X.base.get? b = some o) : b ∉ X.fs:=fun hb=>by
 have:=(ok.zR9.mem hb).1
 rw [e] at this; cases this
theorem Inv.bs (I : Inv X pins σ H s) : ∀ b o,X.base.get? b = some o->s.heap.get? b = some o /\ H b = none:=fun b o e =>
 ⟨I.base.keep b o (I.ok.bs b o e).1 (I.ok.bs b o e).2 (I.ok.nofr e) (I.ok.noex b o e),I.base.free b o (I.ok.bs b o e).1 (I.ok.bs b o e).2 (I.ok.noex b o e)⟩
theorem Inv.bk (I : Inv X pins σ H s) : ∀ b o,X.base.get? b = some o->s.heap.get? b = some o:=fun b o e=>(I.bs b o e).1
theorem Inv.mod (I : Inv X pins σ H s) : Mod X.K X.mg X.base:=I.ok.mod
theorem Inv.kIn (I : Inv X pins σ H s) : X.K.In s.heap:=I.ok.mod.kin.keeps I.bk
/-- the frame over the base: for OpenK's rules (K.In X.base is I.mod.kin) -/
theorem Inv.fr (I : Inv X pins σ H s) : ∃ m,Fr X.base X.env.locals s.heap m :=
 let ⟨m,hn,_⟩:=I.loc
 ⟨m,hn,I.bk,cy6 I.ok.bsz I.ok.above⟩
theorem Inv.lt (I : Inv X pins σ H s) : X.env.locals < s.heap.objs.size:=let ⟨_,hn,_⟩:=I.loc; hn.lt
theorem Inv.sz (I : Inv X pins σ H s) : X.s₀.heap.objs.size <= s.heap.objs.size:=cy6 I.ok.above (my8 I.lt)
theorem Inv.nofs (I : Inv X pins σ H s) {a : Addr} (h : s.heap.objs.size <= a) : a ∉ X.fs:=fun hb=>by
 obtain ⟨_,o,ho,_⟩:=I.ok.zR9.mem hb
 exact absurd (by1 (cy1 ho) (cy6 I.sz h)) (ly8 _)
theorem Inv.cne (I : Inv X pins σ H s) : ∀ x c,X.env.cells.lookup x = some c->c ≠ X.env.locals:=fun x c e z=>by
 obtain ⟨v,o,ho,hd⟩:=I.cell x c e
 obtain ⟨m,⟨o',es,ep,ho',hd',_⟩,_⟩:=I.loc
 rw [z,ho'] at ho; cases ho; rw [hd'] at hd; cases hd
theorem Inv.zR9 (I : Inv X pins σ H s) : s.heap.FunFrames X.base X.outer:=by
 have all : ∀ (l : List Env),(∀ b∈frs l,b∈X.fs)->X.s₀.heap.FunFrames X.base l->s.heap.FunFrames X.base l:=by
  intro l
  induction l with
  | nil=>intro _ _; trivial
  | cons env r ih =>
   intro hs hl
   obtain ⟨hk,⟨L,o,hf,hn,ho,hd⟩,hr⟩:=hl
   have hL : L∈X.fs:=hs L (by unfold frs; rw [ky5,hf]; exact by5)
   obtain ⟨sl,e⟩:=I.base.slot L o ho (I.ok.frf L hL) hL fun z=>I.ok.exfs L z hL
   exact ⟨hk,⟨L,_,hf,hn,e,hd⟩,ih (fun b hb=>hs b (by unfold frs; rw [ky5,hf]; exact by8 _ hb)) hr⟩
 exact all X.outer (fun _ hb=>hb) I.ok.zR9
/-- the frames that run,for a call -/
theorem Inv.stack (I : Inv X pins σ H s) : s.heap.FunFrames X.base X.stack:=by
 rcases I.ok.stk with e | ⟨e,hf⟩
 ·rw [e]; exact I.zR9
 ·rw [e]
  obtain ⟨m,hn,_⟩:=I.loc
  refine .cons (by rw [I.ok.kind]; decide) hf hn ?_ I.zR9
  exact Heap.get?_none_of_le (cy6 I.ok.bsz I.ok.above)
theorem Inv.zS0 (I : Inv X pins σ H s) : ∀ b∈frs X.stack,b∈X.env.locals :: X.fs:=fun b hb=>by
 rcases I.ok.stk with e | ⟨e,hf⟩
 ·rw [e] at hb; exact by8 _ hb
 ·rw [e] at hb
  unfold frs at hb
  rw [ky5,hf] at hb
  exact hb
theorem Inv.zF9 (I : Inv X pins σ H s) : ∀ b∈frs X.stack,H b = none:=fun b hb=>by
 rcases cy4.mp (I.zS0 b hb) with e | hb
 ·rw [e]; exact I.free
 ·obtain ⟨_,o,ho,_⟩:=I.ok.zR9.mem hb
  exact I.base.free b o ho (I.ok.frf b hb) fun z=>I.ok.exfs b z hb
/-- THE STEP: the untracked objects but the frame and the records at ch are kept (the callers' frames up to slots),the frame's map is kept,the new abstract heap is held -/
theorem Inv.step {g' : Array GenState} {t' : Nat} {d' : Drawn} {ch : List Addr} (I : Inv X pins σ H s)
  (hch : ∀ b∈ch,(b∈X.ex \/ X.s₀.heap.objs.size <= b) /\ b ≠ X.env.locals /\ (∀ x c,X.env.cells.lookup x = some c->c ≠ b) /\ ∀ p∈X.pn++pins,p.1 ≠ b)
  (keep : ∀ b o,b ≠ X.env.locals->b ∉ X.fs->b ∉ ch->s.heap.get? b = some o->H b = none->h'.get? b = some o)
  (slot : ∀ b o,b ≠ X.env.locals->b∈X.fs->b ∉ ch->s.heap.get? b = some o->H b = none->∃ sl,h'.get? b = some { o with slots:=sl }) (free : ∀ b o,b ∉ ch->s.heap.get? b = some o->H b = none->H' b = none)
  (there : ∀ b o,b ∉ ch->s.heap.get? b = some o->∃ o',h'.get? b = some o')
  (tups : ∀ b xs,H b = some (.tup xs)->H' b = some (.tup xs)) (frzs : ∀ b o u,H b = some (.frz o u)->H' b = some (.frz o u)) (tbls : ∀ b ps,H b = some (.tbl ps)->∃ more,H' b = some (.tbl (ps++more)))
  (ns : ∀ m,s.heap.Ns X.env.locals m->h'.Ns X.env.locals m) (hok : HOk X.prog X.w H' h') (hg : AllBare g') :
  Inv X pins σ H' { s with heap:=h',gens:=g',drawn:=d',toks:=t' }:=by
 have neL : ∀ b o,X.s₀.heap.get? b = some o->b ≠ X.env.locals:=fun b o e=>cy7 (by1 (cy1 e) I.ok.above)
 have neC : ∀ b o,X.s₀.heap.get? b = some o->b ∉ X.ex->b ∉ ch:=fun b o e hx hb=>by
  rcases (hch b hb).1 with z | z
  ·exact hx z
  ·exact absurd (by1 (cy1 e) z) (ly8 _)
 have cellK : ∀ x c,X.env.cells.lookup x = some c->∀ v,s.heap.IsCell c v->h'.IsCell c v:=fun x c e v ⟨o,ho,hd⟩=>by
  have nch : c ∉ ch:=fun z=>(hch c z).2.2.1 x c e rfl
  by_cases hc : c∈X.fs
  ·obtain ⟨sl,q⟩:=slot c o (I.cne x c e) hc nch ho (I.freeC x c e)
   exact ⟨_,q,hd⟩
  ·exact ⟨o,keep c o (I.cne x c e) hc nch ho (I.freeC x c e),hd⟩
 refine ⟨I.ok,I.os,hg,⟨fun b o e n hb hx=>?_,fun b o e n hb hx=>?_,fun b o e n hx=>?_,fun b o e hx=>?_,fun b xs e=>tups b xs (I.base.tups b xs e),fun b o xs e=>frzs b o xs (I.base.frzs b o xs e),fun b ps e=>?_⟩,?_,fun x c e=>?_,?_,fun x c e=>?_,fun p hp=>?_,hok,I.len⟩
 ·exact keep b o (neL b o e) hb (neC b o e hx) (I.base.keep b o e n hb hx) (I.base.free b o e n hx)
 ·obtain ⟨sl,e1⟩:=I.base.slot b o e n hb hx
  obtain ⟨sl',e2⟩:=slot b _ (neL b o e) hb (neC b o e hx) e1 (I.base.free b o e n hx)
  exact ⟨sl',e2⟩
 ·obtain ⟨o',e1⟩:=I.base.there b o e hx
  exact free b o' (neC b o e hx) e1 (I.base.free b o e n hx)
 ·obtain ⟨o',e1⟩:=I.base.there b o e hx
  exact there b o' (neC b o e hx) e1
 ·obtain ⟨m1,e1⟩:=I.base.tbls b ps e
  obtain ⟨m2,e2⟩:=tbls b _ e1
  exact ⟨m1++m2,by rw [e2,Array.append_assoc]⟩
 ·obtain ⟨m,hn,hl⟩:=I.loc
  refine ⟨m,ns m hn,fun i x v e1 e2 e3=>?_⟩
  obtain ⟨u,r,l⟩:=hl i x v e1 e2 e3
  refine ⟨u,r,?_⟩
  rcases l with l | ⟨k,c,e,z⟩
  ·exact .inl l
  ·exact .inr ⟨k,c,e,cellK x c e _ z⟩
 ·obtain ⟨v,z⟩:=I.cell x c e
  exact ⟨v,cellK x c e v z⟩
 ·obtain ⟨m,⟨o,_,_,ho,_⟩,_⟩:=I.loc
  exact free _ o (fun z=>(hch _ z).2.1 rfl) ho I.free
 ·obtain ⟨v,o,ho,hd⟩:=I.cell x c e
  exact free c o (fun z=>(hch c z).2.2.1 x c e rfl) ho (I.freeC x c e)
 ·obtain ⟨e,n,ne,nf,d⟩:=I.pin p hp
  have nch : p.1 ∉ ch:=fun z=>(hch p.1 z).2.2.2 p hp rfl
  exact ⟨keep p.1 p.2 ne nf nch e n,free p.1 p.2 nch e n,ne,nf,d⟩
/-- .. where the frame's own object is kept too -/
theorem Inv.un {t' : Nat} (I : Inv X pins σ H s) (u : Un X.fs [] H H' s.heap h') (hok : HOk X.prog X.w H' h') : Inv X pins σ H' { s with heap:=h',toks:=t' }:=by
 obtain ⟨m,⟨o,es,ep,ho,r⟩,_⟩:=id I.loc
 obtain ⟨sl,hL⟩:=u.any ho I.free (by simp)
 exact I.step (g':=s.gens) (d':=s.drawn) (ch:=[]) (fun _ z=>nomatch z) (fun b o _ hb _ e n=>u.keep b o e n hb (by simp)) (fun b o _ hb _ e n=>u.slot b o e n hb (by simp)) (fun b o _ e n=>u.free b o e n (by simp)) (fun b o _ e=>u.there b o e (by simp)) u.tups u.frzs u.tbls (fun m' hm=>by
  obtain ⟨o',es',ep',ho',r'⟩:=hm
  rw [ho] at ho'; cases ho'
  exact ⟨_,es',ep',hL,r'⟩) hok I.bare
/-- behind a call (or a comprehension's block): the slots of this frame may have changed too,the records at ch may have turned -/
theorem Inv.call {g' : Array GenState} {t' : Nat} {d' : Drawn} {ch : List Addr} (I : Inv X pins σ H s) (u : Un (frs X.stack) ch H H' s.heap h') (hok : HOk X.prog X.w H' h') (hg : AllBare g')
  (hch : ∀ b∈ch,(b∈X.ex \/ X.s₀.heap.objs.size <= b) /\ b ≠ X.env.locals /\ (∀ x c,X.env.cells.lookup x = some c->c ≠ b) /\ ∀ p∈X.pn++pins,p.1 ≠ b) :
  Inv X pins σ H' { s with heap:=h',gens:=g',drawn:=d',toks:=t' }:=by
 obtain ⟨m,⟨o,es,ep,ho,r⟩,_⟩:=id I.loc
 obtain ⟨sl,hL⟩:=u.any ho I.free fun z=>(hch _ z).2.1 rfl
 exact I.step (ch:=ch) hch (fun b o hL hb hc e n=>u.keep b o e n (fun z=>(cy4.mp (I.zS0 b z)).elim hL hb) hc) (fun b o _ _ hc e n=>u.any e n hc) (fun b o hc e n=>u.free b o e n hc) (fun b o hc e=>u.there b o e hc) u.tups u.frzs u.tbls (fun m' hm=>by
  obtain ⟨o',es',ep',ho',r'⟩:=hm
  rw [ho] at ho'; cases ho'
  exact ⟨_,es',ep',hL,r'⟩) hok hg
/-- an untracked record of ours (an iterator) has turned -/
theorem Inv.turned {t' : Nat} {it : Addr} (I : Inv X pins σ H s) (k : ∀ b o,b ≠ it->s.heap.get? b = some o->h'.get? b = some o) (hn : H it = none) (hL : it ≠ X.env.locals)
  (h1 : it∈X.ex \/ X.s₀.heap.objs.size <= it) (h2 : ∀ x c,X.env.cells.lookup x = some c->c ≠ it) (h3 : ∀ p∈X.pn++pins,p.1 ≠ it) : Inv X pins σ H { s with heap:=h',toks:=t' }:=by
 have nit : ∀ b u,H b = some u->b ≠ it:=fun b u e z=>by rw [z,hn] at e; cases e
 refine I.step (g':=s.gens) (d':=s.drawn) (ch:=[it]) (fun b hb=>?_) (fun b o _ _ hc e _=>k b o (fun z=>hc (by simp [z])) e) (fun b o _ _ hc e _=>⟨o.slots,k b o (fun z=>hc (by simp [z])) e⟩) (fun _ _ _ _ n=>n)
  (fun b o hc e=>⟨o,k b o (fun z=>hc (by simp [z])) e⟩) (fun _ _ e=>e) (fun _ _ _ e=>e) (fun b ps e=>⟨#[],by rw [e]; simp⟩) (fun m hm=>?_) (fun b u e=>?_) I.bare
 ·have e : b = it:=by simpa using hb
  subst e
  exact ⟨h1,hL,h2,h3⟩
 ·obtain ⟨o,es,ep,ho,r⟩:=hm
  exact ⟨o,es,ep,k _ o (iy5 hL) ho,r⟩
 ·refine (I.hok b u e).zN1 (fun c v hc q=>k c v ?_ q) (fun _ q=>q) fun _ _ q=>q
  rcases hc with z | z
  ·rw [z]; exact nit b u e
  ·exact nit c _ z
theorem Inv.tok (I : Inv X pins σ H s) (t : Nat) : Inv X pins σ H { s with toks:=t }:=I.un (h':=s.heap) (t':=t) Un.refl I.hok
/-- all objects kept -/
theorem Inv.kept {t' : Nat} (I : Inv X pins σ H s) (k : ∀ b u,s.heap.get? b = some u->h'.get? b = some u) : Inv X pins σ H { s with heap:=h',toks:=t' }:=I.un (Un.kept k) (I.hok.kept k)
/-- a new object laid and tracked -/
theorem Inv.laid {a : Addr} {o : HO} {t' : Nat} (I : Inv X pins σ H s) (k : ∀ b u,s.heap.get? b = some u->h'.get? b = some u) (hp : s.heap.objs.size <= a) (new : zd2 X.prog X.w (upd H a o) h' a o) :
  Inv X pins σ (upd H a o) { s with heap:=h',toks:=t' }:=I.un (Un.laid k hp (I.hok.fresh hp)) (I.hok.laid k hp new)
/-- an object written -/
theorem Inv.write {x e : Addr} {o : HO} {t' : Nat} (I : Inv X pins σ H s) (mu : Mut (H x)) (he : e = x \/ H e = some (.own x)) (k : ∀ b u,b ≠ e->s.heap.get? b = some u->h'.get? b = some u) (heo : ∃ u,h'.get? e = some u)
  (new : zd2 X.prog X.w (upd H x o) h' x o) : Inv X pins σ (upd H x o) { s with heap:=h',toks:=t' }:=I.un (Un.write mu he k heo) (I.hok.write mu he k heo new)
/-- forgetting slots,pins -/
theorem Inv.weak {σ' : List (Option V)} (I : Inv X pins σ H s) (hl : σ'.length = σ.length) (w : ∀ (i : Nat) v,σ'[i]? = some (some v)->σ[i]? = some (some v)) : Inv X pins σ' H s :=
 ⟨I.ok,I.os,I.bare,I.base,let ⟨m,hn,hl'⟩:=I.loc; ⟨m,hn,fun i x v e1 e2 e3=>hl' i x v e1 (w i v e2) e3⟩,I.cell,I.free,I.freeC,I.pin,I.hok,hl.trans I.len⟩
theorem Inv.zj7 {pins' : List (Addr × Obj)} (I : Inv X pins σ H s) (h : ∀ p∈pins',s.heap.get? p.1 = some p.2 /\ H p.1 = none /\ p.1 ≠ X.env.locals /\ p.1 ∉ X.fs /\ ∀ v,p.2.data ≠ .cell v) : Inv X pins' σ H s :=
 ⟨I.ok,I.os,I.bare,I.base,I.loc,I.cell,I.free,I.freeC,fun p hp=>(by9.mp hp).elim (fun z=>I.pin p (fy6 _ z)) (h p),I.hok,I.len⟩
theorem zI8 {N : List Str} (hN : N.Nodup) {i j : Nat} {x : Str} (a : N[i]? = some x) (b : N[j]? = some x) : i = j:=by
 obtain ⟨h1,e1⟩:=ay0.mp a
 obtain ⟨h2,e2⟩:=ay0.mp b
 exact (py0 hN).mp (e1.trans e2.symm)
/-- a name is stored; what changed -/
theorem zC3 {M : Model} {A : Around} {E : Value->Shared->Prop} {i : Nat} {x : Str} {v : V} {u : Value} {Q : Unit->Shared->Prop} (I : Inv X pins σ H s) (hN : X.N.Nodup) (hi : X.N[i]? = some x) (hx : Loc X.env.scope x) (r : RelV v u)
  (h : ∀ s',Inv X pins (σ.set i (some v)) H s'->(∃ a,hy0 a s.heap s'.heap /\ (a = X.env.locals \/ X.env.cells.lookup x = some a))->Q () s') (hf : X.fn x = true \/ X.env.scope.names.lookup x = some .local:=by first | exact .inl rfl | exact .inr rfl | assumption) : wpAny M A (storeName X.env x u) Q E s:=by
 obtain ⟨m,hn,hl⟩:=id I.loc
 have hcls : (X.env.scope.kind == .class || (X.env.scope.kind == .module && X.env.locals != X.env.globals)) = false:=by rw [I.ok.kind]; rfl
 have hiσ : i < σ.length:=by rw [I.len]; exact (ay0.mp hi).1
 have cne:=I.cne
 have tracked : ∀ {a : Addr} {h' : Heap},(∃ o,s.heap.get? a = some o /\ H a = none)->hy0 a s.heap h'->HOk X.prog X.w H h':=fun {a h'} ha hs b ob e=>by
  obtain ⟨_,_,hfree⟩:=ha
  refine (I.hok b ob e).zN1 (fun c w' hc q=>(hs.2 c ?_).trans q) (fun _ q=>q) fun _ _ q=>q
  rintro rfl
  rcases hc with rfl | hc
  ·rw [hfree] at e; cases e
  ·rw [hfree] at hc; cases hc
 rcases hx with hk | hk
 ·refine wpAny_storeName_local hk hn (fun h' hn' hs=>?_) hcls
  obtain ⟨oL,_,_,hoL,_⟩:=id hn
  refine h _ ⟨I.ok,I.os,I.bare,⟨fun b o e n hb hx=>?_,fun b o e n hb hx=>?_,I.base.free,fun b o e hx=>?_,I.base.tups,I.base.frzs,I.base.tbls⟩,⟨_,hn',fun j y v' e1 e2 e3=>?_⟩,fun y c e=>?_,I.free,I.freeC,fun p hp=>?_,tracked ⟨oL,hoL,I.free⟩ hs,by simpa using I.len⟩ ⟨_,hs,.inl rfl⟩
  ·exact (hs.2 b (cy7 (by1 (cy1 e) I.ok.above))).trans (I.base.keep b o e n hb hx)
  ·obtain ⟨sl,e1⟩:=I.base.slot b o e n hb hx
   exact ⟨sl,(hs.2 b (cy7 (by1 (cy1 e) I.ok.above))).trans e1⟩
  ·obtain ⟨o',e1⟩:=I.base.there b o e hx
   exact ⟨o',(hs.2 b (cy7 (by1 (cy1 e) I.ok.above))).trans e1⟩
  ·by_cases hj : j = i
   ·subst hj
    rw [hi] at e1; cases e1
    rw [dy3 hiσ] at e2
    cases e2
    exact ⟨u,r,.inl ⟨hk,by simp⟩⟩
   ·rw [ey6 (iy5 hj)] at e2
    obtain ⟨u',r',q⟩:=hl j y v' e1 e2 e3
    refine ⟨u',r',?_⟩
    rcases q with ⟨k,e⟩ | ⟨k,c,e,z⟩
    ·refine .inl ⟨k,?_⟩
     have : y ≠ x:=fun e=>hj (zI8 hN e1 (e ▸ hi))
     simp [this,e]
    ·exact .inr ⟨k,c,e,z.sameBut hs (cne y c e)⟩
  ·obtain ⟨w',z⟩:=I.cell y c e
   exact ⟨w',z.sameBut hs (cne y c e)⟩
  ·obtain ⟨e,n,ne,nf,d⟩:=I.pin p hp
   exact ⟨(hs.2 p.1 ne).trans e,n,ne,nf,d⟩
 ·have hfn : X.fn x = true:=by
   rcases hf with z | z
   ·exact z
   ·rw [z] at hk; cases hk
  obtain ⟨c,hc⟩:=I.ok.has x (.inl hk)
  obtain ⟨w',z⟩:=I.cell x c hc
  refine wpAny_storeName_cell I.ok.kind hk hc z (fun h' hc' hs=>?_)
  obtain ⟨oc,hoc,hocd⟩:=id z
  refine h { s with heap:=h' } ⟨I.ok,I.os,I.bare,⟨fun b o e n hb hx=>?_,fun b o e n hb hx=>?_,I.base.free,fun b o e hx=>?_,I.base.tups,I.base.frzs,I.base.tbls⟩,⟨m,hn.sameBut hs (iy5 (cne x c hc)),fun j y v' e1 e2 e3=>?_⟩,fun y c' e=>?_,I.free,I.freeC,fun p hp=>?_,tracked ⟨oc,hoc,I.freeC x c hc⟩ hs,by simpa using I.len⟩ ⟨c,hs,.inr hc⟩
  ·exact (hs.2 b (cy7 (by1 (cy1 e) (I.ok.cab x c hfn hc)))).trans (I.base.keep b o e n hb hx)
  ·obtain ⟨sl,e1⟩:=I.base.slot b o e n hb hx
   exact ⟨sl,(hs.2 b (cy7 (by1 (cy1 e) (I.ok.cab x c hfn hc)))).trans e1⟩
  ·obtain ⟨o',e1⟩:=I.base.there b o e hx
   exact ⟨o',(hs.2 b (cy7 (by1 (cy1 e) (I.ok.cab x c hfn hc)))).trans e1⟩
  ·by_cases hj : j = i
   ·subst hj
    rw [hi] at e1; cases e1
    rw [dy3 hiσ] at e2
    cases e2
    exact ⟨u,r,.inr ⟨.inl hk,c,hc,hc'⟩⟩
   ·rw [ey6 (iy5 hj)] at e2
    obtain ⟨u',r',q⟩:=hl j y v' e1 e2 e3
    refine ⟨u',r',?_⟩
    rcases q with q | ⟨k,c',e,z'⟩
    ·exact .inl q
    ·refine .inr ⟨k,c',e,z'.sameBut hs ?_⟩
     rintro rfl
     exact hj (zI8 hN e1 (I.ok.inj _ _ _ e hc ▸ hi))
  ·by_cases hcc : c' = c
   ·subst hcc; exact ⟨_,hc'⟩
   ·obtain ⟨w2,z2⟩:=I.cell y c' e
    exact ⟨w2,z2.sameBut hs hcc⟩
  ·obtain ⟨e,n,ne,nf,d⟩:=I.pin p hp
   refine ⟨(hs.2 p.1 ?_).trans e,n,ne,nf,d⟩
   intro q
   rw [q,hoc] at e
   have q' : oc = p.2:=jy1 e
   exact d w' (by rw [<- q']; exact hocd)
theorem zx9 {M : Model} {A : Around} {E : Value->Shared->Prop} {i : Nat} {x : Str} {v : V} {u : Value} {Q : Unit->Shared->Prop} (I : Inv X pins σ H s) (hN : X.N.Nodup) (hi : X.N[i]? = some x) (hx : Loc X.env.scope x) (r : RelV v u)
  (h : ∀ s',Inv X pins (σ.set i (some v)) H s'->Q () s') (hf : X.fn x = true \/ X.env.scope.names.lookup x = some .local:=by first | exact .inl rfl | exact .inr rfl | assumption) : wpAny M A (storeName X.env x u) Q E s :=
 zC3 I hN hi hx r (fun s' I' _=>h s' I') hf
/-- behind a call or a block,the state as it is -/
theorem Inv.za43 {s' : Shared} {ch : List Addr} (I : Inv X pins σ H s) (ho : s'.os = s.os) (u : Un (frs X.stack) ch H H' s.heap s'.heap) (hok : HOk X.prog X.w H' s'.heap) (hg : AllBare s'.gens)
  (hch : ∀ b∈ch,(b∈X.ex \/ X.s₀.heap.objs.size <= b) /\ b ≠ X.env.locals /\ (∀ x c,X.env.cells.lookup x = some c->c ≠ b) /\ ∀ p∈X.pn++pins,p.1 ≠ b) : Inv X pins σ H' s':=by
 obtain ⟨h',g',d',t',o'⟩:=s'
 have e : o' = s.os:=ho
 subst e
 exact I.call (g':=g') (t':=t') (d':=d') u hok hg hch
end
/-- an exception: its class,its own dict's address (where it has one),the abstract heap behind it -/
abbrev XK:=Value->Option Addr->Hp->Prop
abbrev St:=List (Option V)
abbrev VK:=V->Hp->Prop
/-- an expression's reading; a test's; an argument list's -/
abbrev TE:=St->Hp->VK->Prop
abbrev TT:=St->Hp->(Bool->Hp->Prop)->Prop
abbrev TA:=St->Hp->(List V->Hp->Prop)->Prop
/-- what is wanted behind a statement -/
structure Ends where
 nx : St->Hp->Prop
 rt : VK
 bk : St->Hp->Prop:=fun _ _=>False
 ct : St->Hp->Prop:=fun _ _=>False
abbrev TS:=Ends->St->Hp->Prop
def EP (X : Cx) (pins : List (Addr × Obj)) (σ : St) (Q : VK) (u : Value) (s' : Shared) : Prop:=∃ v H',Inv X pins σ H' s' /\ RelV v u /\ Q v H'
def TP (X : Cx) (pins : List (Addr × Obj)) (σ : St) (Q : Bool->Hp->Prop) (b : Bool) (s' : Shared) : Prop:=∃ H',Inv X pins σ H' s' /\ Q b H'
def AP (X : Cx) (pins : List (Addr × Obj)) (σ : St) (Q : List V->Hp->Prop) (us : List Value) (s' : Shared) : Prop:=∃ vs H',Inv X pins σ H' s' /\ Vals vs us /\ Q vs H'
def SP (X : Cx) (pins : List (Addr × Obj)) (D : Ends) (f : Flow) (s' : Shared) : Prop :=
 match f with
 | .next=>∃ σ' H',Inv X pins σ' H' s' /\ D.nx σ' H'
 | .brk=>∃ σ' H',Inv X pins σ' H' s' /\ D.bk σ' H'
 | .cont=>∃ σ' H',Inv X pins σ' H' s' /\ D.ct σ' H'
 | .ret u=>∃ v σ' H',Inv X pins σ' H' s' /\ RelV v u /\ D.rt v H'
def PE (X : Cx) (e : Expr) (t : TE) : Prop :=
 ∀ (pins : List (Addr × Obj)) (s : Shared) (σ : St) (H : Hp) (Q : VK),Inv X pins σ H s->t σ H Q->wpAny (model X.prog X.w) X.A (eval e X.env) (EP X pins σ Q) X.xe s
def PT (X : Cx) (e : Expr) (t : TT) : Prop :=
 ∀ (pins : List (Addr × Obj)) (s : Shared) (σ : St) (H : Hp) (Q : Bool->Hp->Prop),Inv X pins σ H s->t σ H Q->wpAny (model X.prog X.w) X.A (isTrue e X.env (eval e X.env)) (TP X pins σ Q) X.xe s
/-- a test whatever its 'whole' is (and,or) -/
def PW (X : Cx) (e : Expr) (t : TT) : Prop :=
 ∀ (whole : Sem Value) (pins : List (Addr × Obj)) (s : Shared) (σ : St) (H : Hp) (Q : Bool->Hp->Prop),Inv X pins σ H s->t σ H Q->wpAny (model X.prog X.w) X.A (isTrue e X.env whole) (TP X pins σ Q) X.xe s
theorem PW.pt {X : Cx} {e : Expr} {t : TT} (h : PW X e t) : PT X e t:=h _
/-- an argument list (no star),from the left -/
def PA (X : Cx) (es : List Expr) (t : TA) : Prop :=
 ∀ (pos : Pos) (pins : List (Addr × Obj)) (s : Shared) (σ : St) (H : Hp) (Q : List V->Hp->Prop),Inv X pins σ H s->t σ H Q->wpAny (model X.prog X.w) X.A (spliced (backTo pos (ey1 es X.env))) (AP X pins σ Q) X.xe s
def PS (X : Cx) (st : Stmt) (t : TS) : Prop :=
 ∀ (pins : List (Addr × Obj)) (s : Shared) (σ : St) (H : Hp) (D : Ends),Inv X pins σ H s->t D σ H->wpAny (model X.prog X.w) X.A (exec st X.env) (SP X pins D) X.xe s
def PSs (X : Cx) (st : List Stmt) (t : TS) : Prop :=
 ∀ (pins : List (Addr × Obj)) (s : Shared) (σ : St) (H : Hp) (D : Ends),Inv X pins σ H s->t D σ H->wpAny (model X.prog X.w) X.A (execs st X.env) (SP X pins D) X.xe s
/-- weaken the end -/
theorem thn {α : Type} {t : Sem α} {Q Q' : α->Shared->Prop} {M : Model} {A : Around} {E : Value->Shared->Prop} {s : Shared} (h : wpAny M A t Q E s) (hQ : ∀ a s,Q a s->Q' a s) : wpAny M A t Q' E s:=ly2 h hQ fun _ _ x=>x
section
variable {X : Cx}
def tVar (i : Nat) : TE:=fun σ H Q=>∃ v,σ[i]? = some (some v) /\ Q v H
def tC (v : V) : TE:=fun _ H Q=>Q v H
theorem zc69 {i : Nat} {x : Str} {pos : Pos} (hN : X.N[i]? = some x) (hv : Vis X.env.scope x) (hd : (x == ("__debug__" : Str)) = false:=by decide) (hcd : (x == ("__classdict__" : Str)) = false:=by decide) : PE X (.Name x pos) (tVar i):=by
 intro pins s σ H Q I h
 obtain ⟨v,e,h⟩:=h
 obtain ⟨m,hn,hl⟩:=I.loc
 obtain ⟨u,r,l⟩:=hl i x v hN e hv
 have fin : EP X pins σ Q u s:=⟨v,H,I,r,h⟩
 rcases l with ⟨hk,hm⟩ | ⟨hk,c,hc,hcell⟩
 ·exact wpAny_Name (wpAny_loadName_local I.ok.kind hk hn hm fin) hd
 ·rcases hk with hk | hk
  ·exact wpAny_Name (wpAny_loadName_cell I.ok.kind hk hc hcell fin) hd
  ·exact wpAny_Name (wpAny_loadName_free I.ok.kind hk hc hcell fin hcd) hd
theorem zc70 {i j pos} : PE X (.Constant (.int i) j pos) (tC (.int i)):=fun _ _ _ H _ I h=>wpAny_Constant_int ⟨.int i,H,I.tok _,⟨_,rfl⟩,h⟩
theorem ze10 {b j pos} : PE X (.Constant (.bool b) j pos) (tC (.bl b)):=fun _ _ _ H _ I h=>Constant_bool ⟨.bl b,H,I,rfl,h⟩
theorem zc71 {j pos} : PE X (.Constant .none j pos) (tC .non):=fun _ _ _ H _ I h=>Constant_none ⟨.non,H,I,rfl,h⟩
theorem zc72 {x j pos} : PE X (.Constant (.str x) j pos) (tC (.str x)):=fun _ _ _ H _ I h=>Calls.Constant_str ⟨.str x,H,I.tok _,⟨_,rfl⟩,h⟩
/-- a global name of the def -/
def Gl (X : Cx) (x : Str) : Prop:=X.env.kindOf x = some .globalImplicit
theorem zy0 {E : Value->Shared->Prop} {pins : List (Addr × Obj)} {s : Shared} {σ : St} {H : Hp} {x : Str} {u : Value} {pos : Pos} {Q : Value->Shared->Prop} (I : Inv X pins σ H s) (hg : Gl X x) (hm : X.mg x = some u) (h : Q u s)
  (hd : (x == ("__debug__" : Str)) = false:=by decide) : wpAny (model X.prog X.w) X.A (eval (.Name x pos) X.env) Q E s :=
 Calls.Name_function_global I.ok.kind hg (Calls.loadGlobal_global (by rw [I.ok.glob]; exact I.mod.glob.keeps I.bk) hm h) hd
theorem zw4 {E : Value->Shared->Prop} {pins : List (Addr × Obj)} {s : Shared} {σ : St} {H : Hp} {x : Str} {u : Value} {pos : Pos} {Q : Value->Shared->Prop} (I : Inv X pins σ H s) (hg : Gl X x) (hm : X.mg x = none) (hv : ey7 x = some u) (h : Q u s)
  (hn : x ≠ "__name__" := by decide) (hd : (x == ("__debug__" : Str)) = false:=by decide) : wpAny (model X.prog X.w) X.A (eval (.Name x pos) X.env) Q E s:=by
 obtain ⟨mb,h1,h2⟩:=I.mod.blt
 exact Calls.Name_function_global I.ok.kind hg (Calls.loadGlobal_builtin (by rw [I.ok.glob]; exact I.mod.glob.keeps I.bk) hm (by rw [I.ok.blt]; exact h1.keeps I.bk) ((h2 x hn).trans hv) h) hd
/-- a module's constant,a class,a function,as a value -/
theorem zb61 {x : Str} {v : V} {u : Value} {pos : Pos} (hg : Gl X x) (hm : X.mg x = some u) (r : RelV v u) (hd : (x == ("__debug__" : Str)) = false:=by decide) : PE X (.Name x pos) (tC v) :=
 fun _ _ _ H _ I h=>zy0 I hg hm ⟨v,H,I,r,h⟩ hd
theorem zb62 {x : Str} {v : V} {u : Value} {pos : Pos} (hg : Gl X x) (hm : X.mg x = none) (hv : ey7 x = some u) (r : RelV v u) (hn : x ≠ "__name__" := by decide) (hd : (x == ("__debug__" : Str)) = false:=by decide) : PE X (.Name x pos) (tC v) :=
 fun _ _ _ H _ I h=>zw4 I hg hm hv ⟨v,H,I,r,h⟩ hn hd
variable {a b : Expr} {ta tb : TE} {pos : Pos}
/-- a comparison as a value,as a test -/
def tB (t : TE) : TT:=fun σ H Q=>t σ H fun x H1=>∃ c,x = .bl c /\ Q c H1
/-- an expression whose value is a bool,as a test -/
theorem zc73 {e : Expr} {t : TE} (h : PE X e t) (he : ∀ whole,isTrue e X.env whole = (do let v <- whole; standAt e.pos; holding [v] (truthy v)):=by intro _; rfl) : PT X e (tB t):=by
 intro pins s σ H Q I hw
 refine isTrue_plain (thn (h pins s σ H _ I hw) fun v s1 ⟨x,H1,I1,r1,q1⟩=>?_) (he _)
 obtain ⟨d,rfl,q⟩:=q1
 cases r1
 exact iy6 ⟨H1,I1,q⟩
variable {tA tB' : TT} {rest : List Expr}
def tAnd (t u : TT) : TT:=fun σ H Q=>t σ H fun c H1=>if c = true then u σ H1 Q else Q false H1
def tOr (t u : TT) : TT:=fun σ H Q=>t σ H fun c H1=>if c = true then Q true H1 else u σ H1 Q
def tNot (t : TT) : TT:=fun σ H Q=>t σ H fun c H1=>Q (!c) H1
theorem zb63 (ha : PT X a tA) : PW X (.BoolOp .And [a] pos) tA:=by
 intro wh pins s σ H Q I h
 refine isTrue_and (thn (ha pins s σ H Q I h) fun c s1 e=>?_)
 cases c with
 | true=>exact isTrue_and_nil e
 | false=>exact e
theorem zc74 (ha : PT X a tA) : PW X (.BoolOp .Or [a] pos) tA:=by
 intro wh pins s σ H Q I h
 refine isTrue_or (thn (ha pins s σ H Q I h) fun c s1 e=>?_)
 cases c with
 | false=>exact isTrue_or_nil e
 | true=>exact e
theorem zc75 (ha : PT X a tA) (hb : PW X (.BoolOp .And (b :: rest) pos) tB') : PW X (.BoolOp .And (a :: b :: rest) pos) (tAnd tA tB'):=by
 intro wh pins s σ H Q I h
 refine isTrue_and (thn (ha pins s σ H _ I h) fun c s1 ⟨H1,I1,q1⟩=>?_)
 cases c with
 | true=>exact hb wh pins s1 σ H1 Q I1 q1
 | false=>exact ⟨H1,I1,q1⟩
theorem ze11 (ha : PT X a tA) (hb : PW X (.BoolOp .Or (b :: rest) pos) tB') : PW X (.BoolOp .Or (a :: b :: rest) pos) (tOr tA tB'):=by
 intro wh pins s σ H Q I h
 refine isTrue_or (thn (ha pins s σ H _ I h) fun c s1 ⟨H1,I1,q1⟩=>?_)
 cases c with
 | true=>exact ⟨H1,I1,q1⟩
 | false=>exact hb wh pins s1 σ H1 Q I1 q1
theorem zc76 (ha : PT X a tA) : PT X (.UnaryOp .Not a pos) (tNot tA):=by
 intro pins s σ H Q I h
 exact isTrue_not (ha pins s σ H (fun c H1=>Q (!c) H1) I h)
/-- .. as values (bools) -/
def ze12 (ta tb : TE) : TE:=fun σ H Q=>ta σ H fun x H1=>∃ c,x = .bl c /\ if c = true then tb σ H1 Q else Q (.bl false) H1
def tOrV (ta tb : TE) : TE:=fun σ H Q=>ta σ H fun x H1=>∃ c,x = .bl c /\ if c = true then Q (.bl true) H1 else tb σ H1 Q
def ze13 (ta : TE) : TE:=fun σ H Q=>ta σ H fun x H1=>∃ c,x = .bl c /\ Q (.bl (!c)) H1
theorem zc77 {op} {t : TE} (h : PE X a t) : PE X (.BoolOp op [a] pos) t:=fun pins s σ H Q I hw=>BoolOp_one (h pins s σ H Q I hw)
theorem zc78 (ha : PE X a ta) (hb : PE X (.BoolOp .And (b :: rest) pos) tb) : PE X (.BoolOp .And (a :: b :: rest) pos) (ze12 ta tb):=by
 intro pins s σ H Q I h
 refine BoolOp_and (thn (ha pins s σ H _ I h) fun v s1 ⟨x,H1,I1,r1,q1⟩=>?_)
 obtain ⟨c,rfl,q1⟩:=q1
 cases r1
 refine iy6 ?_
 cases c with
 | true=>exact hb pins s1 σ H1 Q I1 q1
 | false=>exact ⟨.bl false,H1,I1,rfl,q1⟩
theorem ze14 (ha : PE X a ta) (hb : PE X (.BoolOp .Or (b :: rest) pos) tb) : PE X (.BoolOp .Or (a :: b :: rest) pos) (tOrV ta tb):=by
 intro pins s σ H Q I h
 refine BoolOp_or (thn (ha pins s σ H _ I h) fun v s1 ⟨x,H1,I1,r1,q1⟩=>?_)
 obtain ⟨c,rfl,q1⟩:=q1
 cases r1
 refine iy6 ?_
 cases c with
 | false=>exact hb pins s1 σ H1 Q I1 q1
 | true=>exact ⟨.bl true,H1,I1,rfl,q1⟩
theorem zc79 (ha : PE X a ta) : PE X (.UnaryOp .Not a pos) (ze13 ta):=by
 intro pins s σ H Q I h
 refine UnaryOp_ (thn (ha pins s σ H _ I h) fun v s1 ⟨x,H1,I1,r1,q1⟩=>?_)
 obtain ⟨c,rfl,q1⟩:=q1
 cases r1
 exact not_of (iy6 ⟨.bl (!c),H1,I1,rfl,q1⟩)
/-- a if t else b -/
def tIf (t : TT) (ta tb : TE) : TE:=fun σ H Q=>t σ H fun c H1=>if c = true then ta σ H1 Q else tb σ H1 Q
theorem za44 {c : Expr} (hc : PT X c tA) (ha : PE X a ta) (hb : PE X b tb) : PE X (.IfExp c a b pos) (tIf tA ta tb):=by
 intro pins s σ H Q I h
 refine wpAny_IfExp (thn (hc pins s σ H _ I h) fun d s1 ⟨H1,I1,q1⟩=>?_)
 cases d with
 | true=>exact ha pins s1 σ H1 Q I1 q1
 | false=>exact hb pins s1 σ H1 Q I1 q1
end
def SqL (K : ay2) (H : Hp) (a : Addr) (xs : List V) : Prop :=
 Rd H a (.lst xs) \/
  ∃ (o : Obj) (its : Array Value) (n : Nat),K.lookup a = some o /\ o.cls = .type "list" /\ o.dict = none /\ o.data = .seq its n /\ its.size <= by0 /\ Vals xs its.toList
def SqT (K : ay2) (H : Hp) (a : Addr) (xs : List V) : Prop :=
 Rd H a (.tup xs) \/
  ∃ (o : Obj) (its : Array Value) (n : Nat),K.lookup a = some o /\ o.cls = .type "tuple" /\ o.data = .seq its n /\ its.size <= by0 /\ Vals xs its.toList
def absV : Value->Option V
 | .none=>some .non
 | .bool b=>some (.bl b)
 | .int i _=>some (.int i)
 | .str x _=>some (.str x)
 | .bytes b _=>some (.byt b)
 | .float b _=>some (.flt b)
 | .ref a=>some (.ref a)
 | .type n=>some (.ty n)
 | _=>none
theorem RelV.abs {x : V} {u : Value} (r : RelV x u) : absV u = some x:=by
 cases x with
 | non=>cases r; rfl
 | bl _=>cases r; rfl
 | int _=>obtain ⟨t,rfl⟩:=r; rfl
 | str _=>obtain ⟨t,rfl⟩:=r; rfl
 | byt _=>obtain ⟨t,rfl⟩:=r; rfl
 | flt _=>obtain ⟨t,rfl⟩:=r; rfl
 | ref _=>cases r; rfl
 | ty _=>cases r; rfl
theorem RelV.inj {x y : V} {u : Value} (r : RelV x u) (q : RelV y u) : x = y:=jy1 (r.abs.symm.trans q.abs)
theorem Vals.inj : ∀ {xs ys : List V} {us : List Value},Vals xs us->Vals ys us->xs = ys
 | _,_,_,.nil,.nil=>rfl
 | _,_,_,.cons r t,.cons r' t'=>by rw [r.inj r',Vals.inj t t']
section
variable {X : Cx} {pins : List (Addr × Obj)} {σ : St} {H : Hp} {s : Shared} {a : Addr} {xs ys : List V}
theorem SqL.of {K : ay2} (h : H a = some (.lst xs)) : SqL K H a xs:=.inl (.inl h)
theorem SqT.of {K : ay2} (h : H a = some (.tup xs)) : SqT K H a xs:=.inl (.inl h)
theorem Inv.list (I : Inv X pins σ H s) (h : SqL X.K H a xs) : ∃ its : List Value,Vals xs its /\ PlainL s.heap a its.toArray /\ xs.length <= by0:=by
 rcases h with h | ⟨o,its,n,hk,hc,hd,hs,hz,r⟩
 ·obtain ⟨z,its,n,r,e⟩:=h.ok I.hok
  exact ⟨its,r,⟨_,n,e,rfl,rfl,rfl⟩,z⟩
 ·refine ⟨its.toList,r,⟨o,n,I.kIn a o hk,hc,hd,by simpa using hs⟩,?_⟩
  have e:=r.length
  simp only [hy9] at e
  omega
theorem Inv.tuple (I : Inv X pins σ H s) (h : SqT X.K H a xs) : ∃ its : List Value,Vals xs its /\ IsTup s.heap a its.toArray /\ xs.length <= by0:=by
 rcases h with h | ⟨o,its,n,hk,hc,hs,hz,r⟩
 ·obtain ⟨z,its,r,p⟩:=h.ok I.hok
  exact ⟨its,r,p,z⟩
 ·refine ⟨its.toList,r,⟨o,I.kIn a o hk,hc,n,by simpa using hs⟩,?_⟩
  have e:=r.length
  simp only [hy9] at e
  omega
theorem Inv.zy1 (I : Inv X pins σ H s) (h : SqL X.K H a xs) (h' : SqL X.K H a ys) : xs = ys:=by
 obtain ⟨its,r,⟨o,n,e,_,_,d⟩,_⟩:=I.list h
 obtain ⟨its',r',⟨o',n',e',_,_,d'⟩,_⟩:=I.list h'
 rw [e] at e'; cases e'
 rw [d] at d'
 injection d' with d1 _
 have : its = its':=by simpa using congrArg Array.toList d1
 subst this
 exact r.inj r'
theorem Inv.zC4 (I : Inv X pins σ H s) (h : SqT X.K H a xs) (h' : SqT X.K H a ys) : xs = ys:=by
 obtain ⟨its,r,⟨o,e,_,n,d⟩,_⟩:=I.tuple h
 obtain ⟨its',r',⟨o',e',_,n',d'⟩,_⟩:=I.tuple h'
 rw [e] at e'; cases e'
 rw [d] at d'
 injection d' with d1 _
 have : its = its':=by simpa using congrArg Array.toList d1
 subst this
 exact r.inj r'
end
abbrev Cx.zI9 (X : Cx) (E : Value->Shared->Prop) : Cx:={ X with xe:=E }
/-- no exception leaves -/
abbrev Cx.nox (X : Cx) : Cx:=X.zI9 fun _ _=>False
theorem Cx.Ok.zI9 {X : Cx} (ok : X.Ok) (E : Value->Shared->Prop) : (X.zI9 E).Ok :=
 ⟨ok.mod,ok.kind,ok.glob,ok.blt,ok.above,ok.inj,ok.has,ok.cab,ok.hd,ok.frames,ok.stk,ok.exf,ok.bs,ok.bsz,ok.noex,ok.exfs,ok.zR9,ok.frf⟩
theorem Cx.Ok.zn9 {X : Cx} {E : Value->Shared->Prop} (ok : (X.zI9 E).Ok) : X.Ok :=
 ⟨ok.mod,ok.kind,ok.glob,ok.blt,ok.above,ok.inj,ok.has,ok.cab,ok.hd,ok.frames,ok.stk,ok.exf,ok.bs,ok.bsz,ok.noex,ok.exfs,ok.zR9,ok.frf⟩
section
variable {X : Cx} {pins : List (Addr × Obj)} {σ : St} {H : Hp} {s : Shared} {E : Value->Shared->Prop}
theorem Inv.zI9 (I : Inv X pins σ H s) (E : Value->Shared->Prop) : Inv (X.zI9 E) pins σ H s:=⟨I.ok.zI9 E,I.os,I.bare,I.base,I.loc,I.cell,I.free,I.freeC,I.pin,I.hok,I.len⟩
theorem Inv.zn9 (I : Inv (X.zI9 E) pins σ H s) : Inv X pins σ H s:=⟨I.ok.zn9,I.os,I.bare,I.base,I.loc,I.cell,I.free,I.freeC,I.pin,I.hok,I.len⟩
theorem SP.zn9 {D : Ends} {f : Flow} {s' : Shared} (h : SP (X.zI9 E) pins D f s') : SP X pins D f s':=by
 cases f with
 | next=>obtain ⟨σ',H',I,q⟩:=h; exact ⟨σ',H',I.zn9,q⟩
 | brk=>obtain ⟨σ',H',I,q⟩:=h; exact ⟨σ',H',I.zn9,q⟩
 | cont=>obtain ⟨σ',H',I,q⟩:=h; exact ⟨σ',H',I.zn9,q⟩
 | ret u=>obtain ⟨v,σ',H',I,r,q⟩:=h; exact ⟨v,σ',H',I.zn9,r,q⟩
theorem PSs.nox {st : List Stmt} {t : TS} (h : PSs X.nox st t) : PSs X st t:=fun pins s σ H D I hw =>
 ly2 (h pins s σ H D (I.zI9 _) hw) (fun _ _ q=>q.zn9) fun _ _ z=>my6 z
end
section
variable {X : Cx} {st : Stmt} {rest : List Stmt} {t u : TS} {e : Expr} {te : TE} {pos : Pos}
def ze15 : TS:=fun D σ H=>D.nx σ H
def tSeq (t u : TS) : TS:=fun D σ H=>t { D with nx:=u D } σ H
theorem zb64 : PSs X [] ze15:=fun _ _ σ H _ I h=>wpAny_execs_nil ⟨σ,H,I,h⟩
theorem za45 (h1 : PS X st t) (h2 : PSs X rest u) : PSs X (st :: rest) (tSeq t u):=by
 intro pins s σ H D I h
 refine wpAny_execs_cons (thn (h1 pins s σ H { D with nx:=u D } I h) fun f s1 q=>?_)
 cases f with
 | next =>
  obtain ⟨σ',H',I',q⟩:=q
  exact h2 pins s1 σ' H' D I' q
 | ret v=>exact q
 | brk=>exact q
 | cont=>exact q
theorem zb65 (h1 : PS X st t) : PSs X [st] t:=by
 intro pins s σ H D I h
 refine wpAny_execs_cons (thn (h1 pins s σ H D I h) fun f s1 q=>?_)
 cases f with
 | next=>exact wpAny_execs_nil q
 | ret v=>exact q
 | brk=>exact q
 | cont=>exact q
/-- in a def's body nothing is shown -/
theorem Inv.quiet {pins : List (Addr × Obj)} {σ : St} {H : Hp} {s : Shared} (I : Inv X pins σ H s) : interactive X.env = false:=by simp [interactive,I.ok.kind]
/-- an expression whose value is dropped -/
def ze16 (te : TE) : TS:=fun D σ H=>te σ H fun _ H1=>D.nx σ H1
theorem zb66 (he : PE X e te) (hs : swapsWith e none pos.line X.env = pure false:=by rfl) : PS X (.Expr e pos) (ze16 te):=by
 intro pins s σ H D I h
 exact wpAny_Expr_any (thn (he pins s σ H _ I h) fun v s1 ⟨x,H1,I1,r1,q1⟩=>⟨σ,H1,I1,q1⟩) I.quiet hs
def tRet (te : TE) : TS:=fun D σ H=>te σ H D.rt
theorem zS1 (he : PE X e te) : PS X (.Return (some e) pos) (tRet te):=by
 intro pins s σ H D I h
 exact wpAny_Return_some (thn (he pins s σ H _ I h) fun v s1 ⟨x,H1,I1,r1,q1⟩=>⟨x,σ,H1,I1,r1,q1⟩)
def tIfS (c : TT) (t u : TS) : TS:=fun D σ H=>c σ H fun b H1=>if b = true then t D σ H1 else u D σ H1
theorem ze17 {c : Expr} {a b : List Stmt} {tc : TT} (hc : PT X c tc) (ha : PSs X a t) (hb : PSs X b u) : PS X (.If c a b pos) (tIfS tc t u):=by
 intro pins s σ H D I h
 refine wpAny_If (thn (hc pins s σ H _ I h) fun d s1 ⟨H1,I1,q1⟩=>?_)
 cases d with
 | true=>exact ha pins s1 σ H1 D I1 q1
 | false=>exact hb pins s1 σ H1 D I1 q1
end
abbrev TG:=V->St->Hp->(St->Hp->Prop)->Prop
abbrev TGs:=List V->St->Hp->(St->Hp->Prop)->Prop
def PG (X : Cx) (target : Expr) (t : TG) : Prop :=
 ∀ (pins : List (Addr × Obj)) (s : Shared) (σ : St) (H : Hp) (v : V) (u : Value) (Q : St->Hp->Prop),Inv X pins σ H s->RelV v u->t v σ H Q ->
  wpAny (model X.prog X.w) X.A (assign target X.env u) (fun _ s'=>∃ σ' H',Inv X pins σ' H' s' /\ Q σ' H') X.xe s
/-- several targets,one after another -/
def PGs (X : Cx) (ts : List Expr) (t : TGs) : Prop :=
 ∀ (pins : List (Addr × Obj)) (s : Shared) (σ : St) (H : Hp) (vs : List V) (us : List Value) (Q : St->Hp->Prop),Inv X pins σ H s->Vals vs us->t vs σ H Q ->
  wpAny (model X.prog X.w) X.A (assignInOrder ((ky0 ts X.env).map (·.2)) us) (fun _ s'=>∃ σ' H',Inv X pins σ' H' s' /\ Q σ' H') X.xe s
/-- o[i] = v,by values -/
abbrev TSet:=V->V->V->Hp->(Hp->Prop)->Prop
def PSet (X : Cx) (t : TSet) : Prop :=
 ∀ (pins : List (Addr × Obj)) (s : Shared) (σ : St) (H : Hp) (o i v : V) (ov iv u : Value) (Q : Hp->Prop),Inv X pins σ H s->RelV o ov->RelV i iv->RelV v u->t o i v H Q ->
  wpAny (model X.prog X.w) X.A (setItem ov iv u) (fun _ s'=>∃ H',Inv X pins σ H' s' /\ Q H') X.xe s
/-- a op= b,by values -/
abbrev TIp:=V->V->Hp->VK->Prop
def PIp (X : Cx) (op : Operator) (t : TIp) : Prop :=
 ∀ (pins : List (Addr × Obj)) (s : Shared) (σ : St) (H : Hp) (x y : V) (v u : Value) (Q : VK),Inv X pins σ H s->RelV x v->RelV y u->t x y H Q ->
  wpAny (model X.prog X.w) X.A (inplaceOp op v u) (EP X pins σ Q) X.xe s
section
variable {X : Cx} {pos : Pos}
def zN2 (i : Nat) : TG:=fun v σ H Q=>Q (σ.set i (some v)) H
theorem zG0 {i : Nat} {x : Str} (hN : X.N.Nodup) (hi : X.N[i]? = some x) (hx : Loc X.env.scope x) (hf : X.fn x = true \/ X.env.scope.names.lookup x = some .local:=by first | exact .inl rfl | exact .inr rfl | assumption) : PG X (.Name x pos) (zN2 i):=by
 intro pins s σ H v u Q I r h
 exact wpAny_assign_Name (zx9 I hN hi hx r (fun s' I'=>⟨_,H,I',h⟩) hf)
def gNil : TGs:=fun vs σ H Q=>vs = [] /\ Q σ H
def zb67 (t : TG) (u : TGs) : TGs:=fun vs σ H Q=>∃ v r,vs = v :: r /\ t v σ H fun σ' H'=>u r σ' H' Q
theorem zS2 : PGs X [] gNil:=by
 intro pins s σ H vs us Q I r h
 obtain ⟨e,h⟩:=h
 subst e
 cases r
 exact assignInOrder_nil ⟨σ,H,I,h⟩
theorem zJ0 {e : Expr} {es : List Expr} {t : TG} {u : TGs} (h1 : PG X e t) (h2 : PGs X es u)
  (hs : (ky0 (e :: es) X.env).map (·.2) = assign e X.env :: (ky0 es X.env).map (·.2):=by rfl) : PGs X (e :: es) (zb67 t u):=by
 intro pins s σ H vs us Q I r h
 obtain ⟨v,vr,e1,h⟩:=h
 subst e1
 cases r with
 | cons r rr =>
  rw [hs]
  refine assignInOrder_cons (thn (h1 pins s σ H _ _ _ I r h) fun _ s1 ⟨σ1,H1,I1,q1⟩=>?_)
  exact h2 pins s1 σ1 H1 _ _ Q I1 rr q1
/-- (a,b,..) = a tuple of that length -/
def gTup (K : ay2) (n : Nat) (t : TGs) : TG:=fun v σ H Q=>∃ a xs,v = .ref a /\ SqT K H a xs /\ xs.length = n /\ t xs σ H Q
theorem zS3 {es : List Expr} {k : Nat} {t : TGs} {n : Nat} (hc : X.calm = true) (h : PGs X es t)
  (hn : (ky0 es X.env).length = n:=by rfl) (hst : (ky0 es X.env).findIdx? (·.1) = none:=by rfl) : PG X (.Tuple es k pos) (gTup X.K n t):=by
 intro pins s σ H v u Q I r hw
 obtain ⟨a,xs,e1,hq,hl,hw⟩:=hw
 subst e1
 cases r
 obtain ⟨its,rv,ht,hz⟩:=I.tuple hq
 refine assign_Tuple_tuple (I.ok.hd hc) ht (by simp [hn,<- hl,rv.length]) hst fun h' hx=>?_
 have I1 : Inv X pins σ H { s with heap:=h' }:=I.kept (t':=s.toks) fun b o e=>hx b o (cy7 (cy1 e)) e
 exact h pins _ σ H xs _ Q I1 (by simpa using rv) hw
/-- o[i] = .. -/
def gSub (to ti : TE) (t : TSet) : TG:=fun v σ H Q=>to σ H fun o H1=>ti σ H1 fun i H2=>t o i v H2 fun H3=>Q σ H3
theorem zc80 {o i : Expr} {to ti : TE} {t : TSet} (ho : PE X o to) (hi : PE X i ti) (hs : PSet X t)
  (ha : ∀ v,assign (.Subscript o i pos) X.env v = (do
   let ov <- holding [v] (eval o X.env)
   let iv <- holding [v,ov] (eval i X.env)
   standAt pos
   holding [v,ov,iv] (setItem ov iv v)
   release [v,ov,iv] []):=by intro _; rfl) : PG X (.Subscript o i pos) (gSub to ti t):=by
 intro pins s σ H v u Q I r h
 rw [ha]
 refine ay1 (jy3 (thn (ho pins s σ H _ I h) fun ov s1 ⟨x,H1,I1,r1,q1⟩=>?_))
 refine ay1 (jy3 (thn (hi pins s1 σ H1 _ I1 q1) fun iv s2 ⟨y,H2,I2,r2,q2⟩=>?_))
 refine ay1 (wpAny_standAt (ay1 (jy3 (thn (hs pins s2 σ H2 x y v ov iv u _ I2 r1 r2 r q2) fun _ s3 ⟨H3,I3,q3⟩=>?_))))
 exact wpAny_release ⟨σ,H3,I3,q3⟩
/-- target = value -/
def tAsg (te : TE) (g : TG) : TS:=fun D σ H=>te σ H fun x H1=>g x σ H1 D.nx
theorem zc81 {tg e : Expr} {te : TE} {g : TG} (he : PE X e te) (hg : PG X tg g) (hs : swapsWithSole [tg] e pos.line X.env = pure false:=by rfl) (hw : swappedStores [tg] e X.env = pure none:=by rfl)
  (h1 : (ky0 [tg] X.env).map (·.2) = [assign tg X.env]:=by rfl) : PS X (.Assign [tg] e pos) (tAsg te g):=by
 intro pins s σ H D I h
 refine wpAny_Assign_stores (thn (he pins s σ H _ I h) fun v s1 ⟨x,H1,I1,r1,q1⟩=>?_) hs hw
 rw [h1]
 exact thn (hg pins s1 σ H1 x v _ I1 r1 q1) fun _ s2 q=>q
/-- name = value -/
theorem zc82 {i : Nat} {x : Str} {e : Expr} {te : TE} {pos' : Pos} (hN : X.N.Nodup) (hi : X.N[i]? = some x) (hx : Loc X.env.scope x) (he : PE X e te) (hs : swapsWith e (some (.Name x pos')) pos.line X.env = pure false:=by rfl) (hf : X.fn x = true \/ X.env.scope.names.lookup x = some .local:=by first | exact .inl rfl | exact .inr rfl | assumption) :
  PS X (.Assign [.Name x pos'] e pos) (tAsg te (zN2 i)):=by
 intro pins s σ H D I h
 refine wpAny_Assign_Name (thn (he pins s σ H _ I h) fun v s1 ⟨y,H1,I1,r1,q1⟩=>?_) hs
 exact zx9 I1 hN hi hx r1 (fun s2 I2=>⟨_,H1,I2,q1⟩) hf
/-- name op= e -/
def tAug (i : Nat) (te : TE) (ti : TIp) : TS:=fun D σ H=>∃ x,σ[i]? = some (some x) /\ te σ H fun y H1=>ti x y H1 fun z H2=>D.nx (σ.set i (some z)) H2
theorem zc83 {i : Nat} {x : Str} {e : Expr} {te : TE} {op : Operator} {ti : TIp} {pos' : Pos} (hN : X.N.Nodup) (hi : X.N[i]? = some x) (hx : Loc X.env.scope x) (he : PE X e te) (ho : PIp X op ti) (hf : X.fn x = true \/ X.env.scope.names.lookup x = some .local:=by first | exact .inl rfl | exact .inr rfl | assumption) :
  PS X (.AugAssign (.Name x pos') op e pos) (tAug i te ti):=by
 intro pins s σ H D I h
 obtain ⟨v,e1,h⟩:=h
 obtain ⟨m,hn,hl⟩:=I.loc
 have vis : Vis X.env.scope x:=by rcases hx with k | k; exact .inl k; exact .inr (.inl k)
 obtain ⟨u,r,l⟩:=hl i x v hi e1 vis
 refine wpAny_AugAssign_Name ?_
 have go : wpAny (model X.prog X.w) X.A (eval e X.env) (fun w s₂=>wpAny (model X.prog X.w) X.A (inplaceOp op u w) (fun r s₃=>wpAny (model X.prog X.w) X.A (storeName X.env x r) (fun _=>SP X pins D .next) X.xe s₃) X.xe s₂) X.xe s:=by
  refine thn (he pins s σ H _ I h) fun w s1 ⟨y,H1,I1,r1,q1⟩=>?_
  refine thn (ho pins s1 σ H1 v y u w _ I1 r r1 q1) fun z s2 ⟨zv,H2,I2,r2,q2⟩=>?_
  exact zx9 I2 hN hi hx r2 (fun s3 I3=>⟨_,H2,I3,q2⟩) hf
 rcases l with ⟨hk,hm⟩ | ⟨hk,c,hc,hcell⟩
 ·exact wpAny_loadName_local I.ok.kind hk hn hm go
 ·rcases hk with hk | hk
  ·exact wpAny_loadName_cell I.ok.kind hk hc hcell go
  ·rcases hx with k | k
   ·have : X.env.scope.names.lookup x = some .free:=hk
    rw [k] at this; cases this
   ·have : X.env.scope.names.lookup x = some .free:=hk
    rw [k] at this; cases this
end
section
variable {X : Cx} {pos : Pos}
/-- the invariant W with its measure -/
def zc84 (c : TT) (tb : TS) : TS:=fun D σ H=>∃ W : Nat->St->Hp->Prop,(∃ m,W m σ H) /\ ∀ m σ H,W m σ H ->
 c σ H fun b H1=>if b = true then ∃ N : St->Hp->Prop,(∀ σ' H',N σ' H'->∃ m',m' < m /\ W m' σ' H') /\ tb { D with nx:=N,ct:=N,bk:=D.nx } σ H1 else D.nx σ H1
theorem za46 {c : Expr} {body : List Stmt} {tc : TT} {tb : TS} (hp : PassesOwn (model X.prog X.w) X.A X.env X.xe) (hc : PT X c tc) (hb : PSs X body tb) : PS X (.While c body [] pos) (zc84 tc tb):=by
 intro pins s σ H D I h
 obtain ⟨W,⟨m0,w0⟩,turn⟩:=h
 refine wpAny_While (codeAny_whileLoop (fun n s'=>∃ σ' H',Inv X pins σ' H' s' /\ W n σ' H') ?_ m0 ⟨σ,H,I,w0⟩)
 rintro n s1 ⟨σ1,H1,I1,w1⟩
 refine ny8 hp (thn (hc pins s1 σ1 H1 _ I1 (turn n σ1 H1 w1)) fun b s2 ⟨H2,I2,q2⟩=>?_)
 cases b with
 | true =>
  obtain ⟨N,hN,q2⟩:=q2
  rw [if_pos rfl]
  refine ny8 hp (thn (hb pins s2 σ1 H2 _ I2 q2) fun f s3 q3=>?_)
  cases f with
  | next =>
   obtain ⟨σ3,H3,I3,n3⟩:=q3
   obtain ⟨m',hm,w3⟩:=hN σ3 H3 n3
   exact ⟨m',hm,σ3,H3,I3,w3⟩
  | cont =>
   obtain ⟨σ3,H3,I3,n3⟩:=q3
   obtain ⟨m',hm,w3⟩:=hN σ3 H3 n3
   exact ⟨m',hm,σ3,H3,I3,w3⟩
  | brk=>exact q3
  | ret v=>exact q3
 | false =>
  rw [if_neg cy3]
  exact wpAny_execs_nil ⟨σ1,H2,I2,q2⟩
end
/-- at turn i: it yields x (the heap may grow),or it stops -/
structure It where
 go : Nat->Hp->Prop
 yld : Nat->Hp->V->Hp->Prop
 stop : Nat->Hp->Prop
/-- the iterator's own objects may turn: they are not the frame's,not pinned,younger than the entry (or a comprehension's own) -/
def zC5 (X : Cx) (pins : List (Addr × Obj)) (H : Hp) (b : Addr) : Prop :=
 H b = none /\ b ≠ X.env.locals /\ b ∉ X.fs /\ (b∈X.ex \/ X.s₀.heap.objs.size <= b) /\ (∀ x c,X.env.cells.lookup x = some c->c ≠ b) /\ ∀ p∈X.pn++pins,p.1 ≠ b
theorem Inv.fpOk {X : Cx} {pins : List (Addr × Obj)} {σ : St} {H H' : Hp} {s : Shared} {b : Addr} (I : Inv X pins σ H s) (hb : s.heap.objs.size <= b) (hn : H' b = none) : zC5 X pins H' b:=by
 refine ⟨hn,my1 (by1 I.lt hb),I.nofs hb,.inr (cy6 I.sz hb),fun x c e z=>?_,fun p hp z=>?_⟩
 ·obtain ⟨v,q⟩:=I.cell x c e
  exact absurd (by1 q.lt (by rw [z]; exact hb)) (ly8 _)
 ·exact absurd (by1 (cy1 (I.pin p hp).1) (by rw [z]; exact hb)) (ly8 _)
structure Turn (P : dy7) (w : World) (K : ay2) (tg : Expr) (J : It) (fp : List Addr) (it : Addr) (tn : Nat->Heap->Prop) : Prop where
 mem : it∈fp
 obj : ∀ i h,tn i h->∀ b∈fp,∃ o,h.get? b = some o /\ ∀ v,o.data ≠ .cell v
 keep : ∀ i h h',tn i h->(∀ b∈fp,∀ o,h.get? b = some o->h'.get? b = some o)->tn i h'
 item : ∀ (X : Cx),X.prog = P->X.w = w->X.K = K->X.calm = true->∀ (i : Nat) (pins : List (Addr × Obj)) (s : Shared) (σ : St) (H : Hp) (E : Value->Shared->Prop),Inv X pins σ H s->(∀ b∈fp,zC5 X pins H b)->tn i s.heap->J.go i H ->
  wpAny (model P w) X.A (pyNext (.ref it)) (fun r s1=>∃ u,r = some u /\
   wpAny (model P w) X.A (letOwnedTupleGo tg (.ref it) u) (fun _ s2=>∃ x H',Inv X pins σ H' s2 /\ RelV x u /\ J.yld i H x H' /\ tn (i + 1) s2.heap /\ ∀ b∈fp,H' b = none) E s1) E s
 done : ∀ (X : Cx),X.prog = P->X.w = w->X.K = K->X.calm = true->∀ (i : Nat) (pins : List (Addr × Obj)) (s : Shared) (σ : St) (H : Hp) (E : Value->Shared->Prop),Inv X pins σ H s->(∀ b∈fp,zC5 X pins H b)->tn i s.heap->J.stop i H ->
  wpAny (model P w) X.A (pyNext (.ref it)) (fun r s1=>r = none /\ Inv X pins σ H s1) E s
 self : ∀ (A : Around) (i : Nat) (s : Shared) (Q : Value->Shared->Prop) (E : Value->Shared->Prop),tn i s.heap->Q (.ref it) s->wpAny (model P w) A (pyIter (.ref it)) Q E s
abbrev TI:=St->Hp->(It->Hp->Prop)->Prop
/-- an iterator has come -/
def PIE (X : Cx) (pins : List (Addr × Obj)) (σ : St) (tg : Expr) (R : It->Hp->Prop) (itv : Value) (s2 : Shared) : Prop :=
 ∃ (it : Addr) (fp : List Addr) (tn : Nat->Heap->Prop) (J : It) (H' : Hp),itv = .ref it /\ Inv X pins σ H' s2 /\ Turn X.prog X.w X.K tg J fp it tn /\ tn 0 s2.heap /\ (∀ b∈fp,zC5 X pins H' b) /\ R J H'
def PI (X : Cx) (tg iter : Expr) (wi : TI) : Prop :=
 ∀ (pins : List (Addr × Obj)) (s : Shared) (σ : St) (H : Hp) (R : It->Hp->Prop),Inv X pins σ H s->wi σ H R ->
  wpAny (model X.prog X.w) X.A (eval iter X.env) (fun v s1=>wpAny (model X.prog X.w) X.A (pyIter v) (PIE X pins σ tg R) X.xe s1) X.xe s
/-- the step ahead of the store is nothing for an iterator that keeps no tuple -/
theorem zN3 {M : Model} {A : Around} {E : Value->Shared->Prop} {s : Shared} {tg : Expr} {it : Addr} {u : Value} {o : Obj} {n : String} {vs : Array Value} {Q : Unit->Shared->Prop} (ho : s.heap.get? it = some o) (hc : o.cls = .type n) (hd : o.data = .fields vs)
    (hn : ["enumerate", "zip", "dict_itemiterator", "dict_reverseitemiterator", "odict_iterator", "itertools.zip_longest", "itertools.pairwise"].contains n = false) (hQ : Q () s) : wpAny M A (letOwnedTupleGo tg (.ref it) u) Q E s:=by
  unfold letOwnedTupleGo
  cases tg <;> first
    | exact ay9 hQ
    | (cases u <;> first
        | exact ay9 hQ
        | (refine ay1 (wpAny_load ho ?_)
           rw [hc,hd]
           show wpAny M A (if (["enumerate", "zip", "dict_itemiterator", "dict_reverseitemiterator", "odict_iterator", "itertools.zip_longest", "itertools.pairwise"].contains n && vs[0]? == some (rawInt _)) = true then _ else _) Q E s
           rw [if_neg (by intro h; rw [hn,Bool.false_and] at h; cases h)]
           exact ay9 hQ))
/-- the list at a,as it stands at each turn (a loop may append to it) -/
def Itl (K : ay2) (a : Addr) : It :=
 ⟨fun i H=>∃ xs x,SqL K H a xs /\ xs[i]? = some x,fun i H x H'=>H' = H /\ ∀ xs,SqL K H a xs->xs[i]? = some x,fun i H=>∃ xs,SqL K H a xs /\ xs.length <= i⟩
def Itt (K : ay2) (a : Addr) : It :=
 ⟨fun i H=>∃ xs x,SqT K H a xs /\ xs[i]? = some x,fun i H x H'=>H' = H /\ ∀ xs,SqT K H a xs->xs[i]? = some x,fun i H=>∃ xs,SqT K H a xs /\ xs.length <= i⟩
/-- lo,lo + 1,.. (n of them) -/
def Itr (lo : Int) (n : Nat) : It:=⟨fun i _=>i < n,fun i H x H'=>H' = H /\ x = .int (lo + i),fun i _=>n <= i⟩
theorem zS4 {P : dy7} {w : World} {K : ay2} {tg : Expr} (a it : Addr) : Turn P w K tg (Itl K a) [it] it (fun i h=>h.IsListIter it a i) where
 mem:=by simp
 obj:=fun i h st b hb=>by
  have e : b = it:=by simpa using hb
  subst e
  obtain ⟨o,e,c,d⟩:=st
  exact ⟨o,e,fun v z=>by rw [d] at z; cases z⟩
 keep:=fun i h h' st k=>st.at fun o e=>k it (by simp) o e
 item:=by
  intro X hP hw hK hc i pins s σ H E I hf st hg
  subst hP hw hK
  obtain ⟨xs,x,hq,hx⟩:=hg
  obtain ⟨its,rv,p,hz⟩:=I.list hq
  obtain ⟨u,hu,ru⟩:=rv.get hx
  obtain ⟨f0,f1,f2,f3,f4,f5⟩:=hf it (by simp)
  refine wpAny_pyNext_list_item st p.isList (x:=u) (by simpa using hu) fun h' st' sb=>?_
  have I1 : Inv X pins σ H { s with heap:=h' }:=I.turned (t':=s.toks) (fun b o hb e=>(sb.2 b hb).trans e) f0 f1 f3 f4 f5
  obtain ⟨o,e,c,d⟩:=id st'
  exact ⟨u,rfl,zN3 (s:={ s with heap:=h' }) e c d (by decide) ⟨x,H,I1,ru,⟨rfl,fun ys hy=>by rw [I.zy1 hy hq]; exact hx⟩,st',fun b hb=>(hf b hb).1⟩⟩
 done:=by
  intro X hP hw hK hc i pins s σ H E I hf st hg
  subst hP hw hK
  obtain ⟨xs,hq,hx⟩:=hg
  obtain ⟨its,rv,p,hz⟩:=I.list hq
  obtain ⟨f0,f1,f2,f3,f4,f5⟩:=hf it (by simp)
  have hl:=rv.length
  exact wpAny_pyNext_list_end (I.ok.hd hc) st p.isList (by simp; omega) fun h' eb=>⟨rfl,I.turned (t':=s.toks) (fun b o hb e=>eb b o hb e) f0 f1 f3 f4 f5⟩
 self:=fun _ _ _ _ _ st h=>wpAny_pyIter_listiter st h
theorem zN4 {P : dy7} {w : World} {K : ay2} {tg : Expr} (a it : Addr) : Turn P w K tg (Itt K a) [it] it (fun i h=>h.IsTupleIter it a i) where
 mem:=by simp
 obj:=fun i h st b hb=>by
  have e : b = it:=by simpa using hb
  subst e
  obtain ⟨o,e,c,d⟩:=st
  exact ⟨o,e,fun v z=>by rw [d] at z; cases z⟩
 keep:=fun i h h' st k=>st.at fun o e=>k it (by simp) o e
 item:=by
  intro X hP hw hK hc i pins s σ H E I hf st hg
  subst hP hw hK
  obtain ⟨xs,x,hq,hx⟩:=hg
  obtain ⟨its,rv,p,hz⟩:=I.tuple hq
  obtain ⟨u,hu,ru⟩:=rv.get hx
  obtain ⟨f0,f1,f2,f3,f4,f5⟩:=hf it (by simp)
  refine wpAny_pyNext_tuple_item st (show s.heap.IsTuple a its.toArray from p) (x:=u) (by simpa using hu) fun h' st' sb=>?_
  have I1 : Inv X pins σ H { s with heap:=h' }:=I.turned (t':=s.toks) (fun b o hb e=>(sb.2 b hb).trans e) f0 f1 f3 f4 f5
  obtain ⟨o,e,c,d⟩:=id st'
  exact ⟨u,rfl,zN3 (s:={ s with heap:=h' }) e c d (by decide) ⟨x,H,I1,ru,⟨rfl,fun ys hy=>by rw [I.zC4 hy hq]; exact hx⟩,st',fun b hb=>(hf b hb).1⟩⟩
 done:=by
  intro X hP hw hK hc i pins s σ H E I hf st hg
  subst hP hw hK
  obtain ⟨xs,hq,hx⟩:=hg
  obtain ⟨its,rv,p,hz⟩:=I.tuple hq
  obtain ⟨f0,f1,f2,f3,f4,f5⟩:=hf it (by simp)
  have hl:=rv.length
  exact wpAny_pyNext_tuple_end (I.ok.hd hc) st (show s.heap.IsTuple a its.toArray from p) (by simp; omega) fun h' eb=>⟨rfl,I.turned (t':=s.toks) (fun b o hb e=>eb b o hb e) f0 f1 f3 f4 f5⟩
 self:=fun _ _ _ _ _ st h=>wpAny_pyIter_tupleiter st h
theorem zN5 {P : dy7} {w : World} {K : ay2} {tg : Expr} (it : Addr) (lo : Int) (n : Nat) : Turn P w K tg (Itr lo n) [it] it (fun i h=>IsRangeIter h it (lo + (i : Nat) * 1) ((n : Int) - (i : Nat)) 1) where
 mem:=by simp
 obj:=fun i h st b hb=>by
  have e : b = it:=by simpa using hb
  subst e
  exact ⟨_,st,fun v z=>by
   have z' : Data.fields _ = Data.cell v:=z
   cases z'⟩
 keep:=fun i h h' st k=>k it (by simp) _ st
 item:=by
  intro X hP hw hK hc i pins s σ H E I hf st hg
  subst hP hw hK
  obtain ⟨f0,f1,f2,f3,f4,f5⟩:=hf it (by simp)
  have W:=Walks.range (prog:=X.prog) (w:=X.w) (I.ok.hd hc) it lo 1 n
  refine W.item i s _ _ hg st fun v h' tk hv st' kk=>?_
  obtain ⟨t,rfl⟩:=hv
  have I1 : Inv X pins σ H { s with heap:=h',toks:=tk }:=I.turned (fun b o hb e=>kk b o (by simpa using hb) e) f0 f1 f3 f4 f5
  refine ⟨_,rfl,zN3 (s:={ s with heap:=h',toks:=tk }) (n := "range_iterator") st' rfl rfl (by decide) ⟨.int (lo + i),H,I1,⟨t,?_⟩,⟨rfl,rfl⟩,st',fun b hb=>(hf b hb).1⟩⟩
  rw [Int.mul_one]
 done:=by
  intro X hP hw hK hc i pins s σ H E I hf st hg
  subst hP hw hK
  obtain ⟨f0,f1,f2,f3,f4,f5⟩:=hf it (by simp)
  exact wpAny_pyNext_range_end (I.ok.hd hc) st (by have : n <= i:=hg; omega) fun h' eb=>⟨rfl,I.turned (t':=s.toks) (fun b o hb e=>eb b o hb e) f0 f1 f3 f4 f5⟩
 self:=fun _ _ _ _ _ st h=>wpAny_pyIter_rangeiter st h
section
variable {X : Cx} {tg : Expr}
def ze20 (K : ay2) (tl : TE) : TI:=fun σ H R=>tl σ H fun x H1=>∃ a,x = .ref a /\ (∃ xs,SqL K H1 a xs) /\ R (Itl K a) H1
def iTup (K : ay2) (tl : TE) : TI:=fun σ H R=>tl σ H fun x H1=>∃ a,x = .ref a /\ (∃ xs,SqT K H1 a xs) /\ R (Itt K a) H1
theorem zS5 {l : Expr} {tl : TE} (hl : PE X l tl) : PI X tg l (ze20 X.K tl):=by
 intro pins s σ H R I h
 refine thn (hl pins s σ H _ I h) fun v s1 ⟨x,H1,I1,r1,q1⟩=>?_
 obtain ⟨a,e,⟨xs,hq⟩,q⟩:=q1
 subst e
 cases r1
 obtain ⟨its,rv,p,hz⟩:=I1.list hq
 refine wpAny_pyIter_list p.isList ?_
 refine ⟨s1.heap.objs.size,[s1.heap.objs.size],_,_,H1,rfl,I1.kept (t':=s1.toks) fun b o e=>ay6 _ e,zS4 a _,⟨_,by2 _ rfl,rfl,rfl⟩,fun b hb=>?_,q⟩
 have e : b = s1.heap.objs.size:=by simpa using hb
 subst e
 exact I1.fpOk (ay5 _) (I1.hok.fresh (ay5 _))
theorem zc85 {l : Expr} {tl : TE} (hl : PE X l tl) : PI X tg l (iTup X.K tl):=by
 intro pins s σ H R I h
 refine thn (hl pins s σ H _ I h) fun v s1 ⟨x,H1,I1,r1,q1⟩=>?_
 obtain ⟨a,e,⟨xs,hq⟩,q⟩:=q1
 subst e
 cases r1
 obtain ⟨its,rv,p,hz⟩:=I1.tuple hq
 refine py4 (show s1.heap.IsTuple a its.toArray from p) ?_
 refine ⟨s1.heap.objs.size,[s1.heap.objs.size],_,_,H1,rfl,I1.kept (t':=s1.toks) fun b o e=>ay6 _ e,zN4 a _,⟨_,by2 _ rfl,rfl,rfl⟩,fun b hb=>?_,q⟩
 have e : b = s1.heap.objs.size:=by simpa using hb
 subst e
 exact I1.fpOk (ay5 _) (I1.hok.fresh (ay5 _))
/-- a range object just made,walked -/
theorem za48 {pins : List (Addr × Obj)} {σ : St} {H : Hp} {s : Shared} {R : It->Hp->Prop} {E : Value->Shared->Prop} {lo hi : Int} {t u v : Tok} {tk : Nat} (I : Inv X pins σ H s) (h1 : -(2 ^ 62) <= lo) (h2 : lo < 2 ^ 62) (h3 : -(2 ^ 62) <= hi) (h4 : hi < 2 ^ 62)
  (q : R (Itr lo (hi - lo).toNat) H) : wpAny (model X.prog X.w) X.A (pyIter (.ref s.heap.objs.size)) (PIE X pins σ tg R) E { s with heap:=s.heap.push { cls:=.type "range",data:=.fields #[.int lo t,.int hi u,.int 1 v] },toks:=tk }:=by
 refine wpAny_pyIter_range (IsRange.new ..) (small_one h1 h2 h3 h4) ?_
 have I1 : Inv X pins σ H { s with heap:=s.heap.push { cls:=.type "range",data:=.fields #[.int lo t,.int hi u,.int 1 v] },toks:=tk }:=I.kept fun b o e=>ay6 _ e
 refine ⟨(s.heap.push { cls:=.type "range",data:=.fields #[.int lo t,.int hi u,.int 1 v] }).objs.size,[(s.heap.push { cls:=.type "range",data:=.fields #[.int lo t,.int hi u,.int 1 v] }).objs.size],_,_,H,rfl,
  I1.kept (t':=tk) fun b o e=>ay6 _ e,zN5 _ lo (hi - lo).toNat,?_,fun b hb=>?_,q⟩
 ·have e1 : lo + ((0 : Nat) : Int) * 1 = lo:=by simp
  have e2 : (((hi - lo).toNat : Nat) : Int) - ((0 : Nat) : Int) = sy0 lo hi 1:=by rw [rangeSize_one]; split <;> omega
  show IsRangeIter _ _ (lo + ((0 : Nat) : Int) * 1) ((((hi - lo).toNat : Nat) : Int) - ((0 : Nat) : Int)) 1
  rw [e1,e2]
  exact by2 _ rfl
 ·have e : b = (s.heap.push { cls:=.type "range",data:=.fields #[.int lo t,.int hi u,.int 1 v] }).objs.size:=by simpa using hb
  subst e
  exact I1.fpOk (ay5 _) (I1.hok.fresh (ay5 _))
def ze21 (ta : TA) : TI:=fun σ H R=>ta σ H fun vs H1=>∃ j : Int,vs = [.int j] /\ -(2 ^ 62) <= j /\ j < 2 ^ 62 /\ R (Itr 0 j.toNat) H1
theorem zS6 {a : Expr} {ta : TA} {p pos : Pos} (hg : Gl X "range") (hm : X.mg "range" = none) (ha : PA X [a] ta) (hs : ey1 [a] X.env = [(false,eval a X.env)]:=by rfl) : PI X tg (.Call (.Name "range" p) [a] [] pos) (ze21 ta):=by
 intro pins s σ H R I h
 refine Call_ (zw4 I hg hm boot_range (my3 (thn (ha pos pins s σ H _ I h) fun us s1 ⟨vs,H1,I1,r1,q1⟩=>?_) hs rfl))
 obtain ⟨j,e,q1,q2,q⟩:=q1
 subst e
 cases r1 with
 | cons r rr =>
  cases rr
  obtain ⟨t,rfl⟩:=r
  exact call_range_1 (za48 I1 (by omega) (by omega) q1 q2 (by simpa using q))
/-- W: the invariant by the turn and a measure; N: what the body is to reach -/
def tFor (wi : TI) (g : TG) (tb : TS) : TS:=fun D σ H=>wi σ H fun J H1=>∃ W : Nat->Nat->St->Hp->Prop,(∃ m,W 0 m σ H1) /\ ∀ i m σ H,W i m σ H ->
 (J.stop i H /\ D.nx σ H) \/ (J.go i H /\ ∃ N : St->Hp->Prop,(∀ σ' H',N σ' H'->∃ m',m' < m /\ W (i + 1) m' σ' H') /\ ∀ x H',J.yld i H x H'->g x σ H' fun σ2 H2=>tb { D with nx:=N,ct:=N,bk:=D.nx } σ2 H2)
/-- the records at fp as they stand -/
def zm1 (fp : List Addr) (h : Heap) : List (Addr × Obj):=fp.filterMap fun b=>(h.get? b).map fun o=>(b,o)
theorem zf8 {fp : List Addr} {h : Heap} {b : Addr} {o : Obj} (hb : b∈fp) (e : h.get? b = some o) : (b,o)∈zm1 fp h:=py5.mpr ⟨b,hb,by rw [e]; rfl⟩
theorem zt0 {fp : List Addr} {h : Heap} {p : Addr × Obj} (hp : p∈zm1 fp h) : p.1∈fp /\ h.get? p.1 = some p.2:=by
 obtain ⟨b,hb,e⟩:=py5.mp hp
 cases q : h.get? b with
 | none=>rw [q] at e; cases e
 | some o =>
  rw [q] at e
  have e' : (b,o) = p:=jy1 e
  subst e'
  exact ⟨hb,q⟩
theorem Inv.pinned {pins : List (Addr × Obj)} {σ : St} {H : Hp} {s : Shared} {fp : List Addr} (I : Inv X pins σ H s) (hf : ∀ b∈fp,zC5 X pins H b) (ho : ∀ b∈fp,∃ o,s.heap.get? b = some o /\ ∀ v,o.data ≠ .cell v) : Inv X (pins++zm1 fp s.heap) σ H s :=
 I.zj7 fun p hp=>(by9.mp hp).elim (fun z=>I.pin p (dy5 _ z)) fun z=>by
  obtain ⟨hb,e⟩:=zt0 z
  obtain ⟨f0,f1,f2,_⟩:=hf p.1 hb
  obtain ⟨o,e',d⟩:=ho p.1 hb
  rw [e] at e'; cases e'
  exact ⟨e,f0,f1,f2,d⟩
theorem Inv.zy2 {pins pl : List (Addr × Obj)} {σ : St} {H : Hp} {s : Shared} (I : Inv X (pins++pl) σ H s) : Inv X pins σ H s:=I.zj7 fun p hp=>I.pin p (dy5 _ (fy6 _ hp))
theorem zJ1 {iter : Expr} {body : List Stmt} {wi : TI} {g : TG} {tb : TS} {pos : Pos} (hp : PassesOwn (model X.prog X.w) X.A X.env X.xe) (hc : X.calm = true) (hi : PI X tg iter wi) (hg : PG X tg g) (hb : PSs X body tb)
  (hs : ∀ x,hy8 iter X.env x = pure x:=by intro _; rfl) : PS X (.For tg iter body [] pos) (tFor wi g tb):=by
 intro pins s σ H D I h
 refine wpAny_For (thn (hi pins s σ H _ I h) fun v s1 h1=>thn h1 fun itv s2 h2=>?_) hs
 obtain ⟨it,fp,tn,J,H2,e,I2,T,st2,f2,W,⟨m0,w0⟩,turn⟩:=h2
 subst e
 -- what stays true of the iterator's objects through the loop
 have stat : ∀ {H' : Hp},(∀ b∈fp,H' b = none)->∀ b∈fp,zC5 X pins H' b:=fun hn b hb=>⟨hn b hb,(f2 b hb).2⟩
 refine codeAny_forLoop_any (fun n s'=>∃ i σ' H',Inv X pins σ' H' s' /\ tn i s'.heap /\ (∀ b∈fp,H' b = none) /\ W i n σ' H') ?_ m0 ⟨0,σ,H2,I2,st2,fun b hb=>(f2 b hb).1,w0⟩
 rintro n s3 ⟨i,σ3,H3,I3,st3,fr3,w3⟩
 rcases turn i n σ3 H3 w3 with ⟨stop,qn⟩ | ⟨go,N,hN,step⟩
 ·refine ny8 hp (thn (T.done X rfl rfl rfl hc i pins s3 σ3 H3 X.xe I3 (stat fr3) st3 stop) fun r s4 ⟨hr,I4⟩=>?_)
  subst hr
  exact wpAny_execs_nil ⟨σ3,H3,I4,qn⟩
 ·refine ny8 hp (thn (T.item X rfl rfl rfl hc i pins s3 σ3 H3 X.xe I3 (stat fr3) st3 go) fun r s4 ⟨u,hr,h4⟩=>?_)
  subst hr
  refine ny8 hp (thn h4 fun _ s5 ⟨x,H5,I5,r5,y5,st5,fr5⟩=>?_)
  have I5':=I5.pinned (stat fr5) (T.obj _ _ st5)
  refine ny8 hp (thn (hg _ s5 σ3 H5 x u _ I5' r5 (step x H5 y5)) fun _ s6 ⟨σ6,H6,I6,q6⟩=>?_)
  refine ny8 hp (thn (hb _ s6 σ6 H6 _ I6 q6) fun f s7 q7=>?_)
  have again : ∀ {σ7 : St} {H7 : Hp},Inv X (pins++zm1 fp s5.heap) σ7 H7 s7->N σ7 H7->∃ m,m < n /\ ∃ i σ' H',Inv X pins σ' H' s7 /\ tn i s7.heap /\ (∀ b∈fp,H' b = none) /\ W i m σ' H':=fun {σ7 H7} I7 n7=>by
   obtain ⟨m',hm,w7⟩:=hN σ7 H7 n7
   refine ⟨m',hm,i + 1,σ7,H7,I7.zy2,T.keep _ _ _ st5 fun b hb o e=>(I7.pin (b,o) (dy5 _ (dy5 _ (zf8 hb e)))).1,fun b hb=>?_,w7⟩
   obtain ⟨o,e,d⟩:=T.obj _ _ st5 b hb
   exact (I7.pin (b,o) (dy5 _ (dy5 _ (zf8 hb e)))).2.1
  cases f with
  | next=>obtain ⟨σ7,H7,I7,n7⟩:=q7; exact again I7 n7
  | cont=>obtain ⟨σ7,H7,I7,n7⟩:=q7; exact again I7 n7
  | brk=>obtain ⟨σ7,H7,I7,q7⟩:=q7; exact ⟨σ7,H7,I7.zy2,q7⟩
  | ret v=>obtain ⟨x7,σ7,H7,I7,r7,q7⟩:=q7; exact ⟨x7,σ7,H7,I7.zy2,r7,q7⟩
end
abbrev R2:=V->V->Hp->VK->Prop
/-- a two-place operation on values: f is binaryOp op,inplaceOp op or compareOp op -/
def OpR (X : Cx) (f : Value->Value->Sem Value) (r : R2) : Prop :=
 ∀ (pins : List (Addr × Obj)) (s : Shared) (σ : St) (H : Hp) (x y : V) (v u : Value) (Q : VK),Inv X pins σ H s->RelV x v->RelV y u->r x y H Q ->
  wpAny (model X.prog X.w) X.A (f v u) (EP X pins σ Q) X.xe s
/-- a one-place operation -/
def UnR (X : Cx) (f : Value->Sem Value) (r : V->Hp->VK->Prop) : Prop :=
 ∀ (pins : List (Addr × Obj)) (s : Shared) (σ : St) (H : Hp) (x : V) (v : Value) (Q : VK),Inv X pins σ H s->RelV x v->r x H Q ->
  wpAny (model X.prog X.w) X.A (f v) (EP X pins σ Q) X.xe s
/-- a call of a value that is known (a builtin,a type) with values -/
def zl1 (X : Cx) (f : Value) (r : List V->Hp->VK->Prop) : Prop :=
 ∀ (pins : List (Addr × Obj)) (s : Shared) (σ : St) (H : Hp) (xs : List V) (us : List Value) (Q : VK),Inv X pins σ H s->Vals xs us->r xs H Q ->
  wpAny (model X.prog X.w) X.A (call f us) (EP X pins σ Q) X.xe s
/-- a value's truth -/
def TruR (X : Cx) (r : V->Hp->(Bool->Hp->Prop)->Prop) : Prop :=
 ∀ (pins : List (Addr × Obj)) (s : Shared) (σ : St) (H : Hp) (x : V) (v : Value) (Q : Bool->Hp->Prop),Inv X pins σ H s->RelV x v->r x H Q ->
  wpAny (model X.prog X.w) X.A (truthy v) (TP X pins σ Q) X.xe s
def tOp (r : R2) (ta tb : TE) : TE:=fun σ H Q=>ta σ H fun x H1=>tb σ H1 fun y H2=>r x y H2 Q
def tUn (r : V->Hp->VK->Prop) (ta : TE) : TE:=fun σ H Q=>ta σ H fun x H1=>r x H1 Q
/-- ints in,under C,and a value out -/
def rI (C : Int->Int->Prop) (g : Int->Int->V) : R2:=fun x y H Q=>∃ i j,x = .int i /\ y = .int j /\ C i j /\ Q (g i j) H
def rI0 (g : Int->Int->V) : R2:=fun x y H Q=>∃ i j,x = .int i /\ y = .int j /\ Q (g i j) H
def rU (g : Int->V) : V->Hp->VK->Prop:=fun x H Q=>∃ i,x = .int i /\ Q (g i) H
section
variable {X : Cx} {a b c : Expr} {ta tb tc : TE} {pos : Pos}
theorem binT (ha : PE X a ta) (hb : PE X b tb) {pins : List (Addr × Obj)} {s : Shared} {σ : St} {H : Hp} {R : V->V->Hp->Prop} (I : Inv X pins σ H s)
  (h : ta σ H fun x H1=>tb σ H1 fun y H2=>R x y H2) {Q : Value->Shared->Prop} {f : Value->Value->Sem Value}
  (hf : ∀ v u s2 x y H2,Inv X pins σ H2 s2->RelV x v->RelV y u->R x y H2->wpAny (model X.prog X.w) X.A (f v u) Q X.xe s2) :
  wpAny (model X.prog X.w) X.A (eval a X.env) (fun v s₁=>wpAny (model X.prog X.w) X.A (eval b X.env) (fun u s₂=>wpAny (model X.prog X.w) X.A (f v u) Q X.xe s₂) X.xe s₁) X.xe s:=by
 refine thn (ha pins s σ H _ I h) fun v s1 ⟨x,H1,I1,r1,q1⟩=>?_
 refine thn (hb pins s1 σ H1 _ I1 q1) fun u s2 ⟨y,H2,I2,r2,q2⟩=>?_
 exact hf v u s2 x y H2 I2 r1 r2 q2
theorem ze23 {op : Operator} {r : R2} (ho : OpR X (jy5 op) r) (ha : PE X a ta) (hb : PE X b tb) : PE X (.BinOp a op b pos) (tOp r ta tb):=by
 intro pins s σ H Q I h
 exact wpAny_BinOp (binT ha hb I h fun v u s2 x y H2 I2 rx ry q=>ho pins s2 σ H2 x y v u Q I2 rx ry q)
theorem ze24 {op : UnaryOp} {r : V->Hp->VK->Prop} (ho : UnR X (unaryOp op) r) (ha : PE X a ta) : PE X (.UnaryOp op a pos) (tUn r ta):=by
 intro pins s σ H Q I h
 exact UnaryOp_ (thn (ha pins s σ H _ I h) fun v s1 ⟨x,H1,I1,r1,q1⟩=>ho pins s1 σ H1 x v Q I1 r1 q1)
theorem opI {f : Value->Value->Sem Value} {C : Int->Int->Prop} {g : Int->Int->Int}
  (rule : ∀ (i j : Int) (t u : Tok) (s : Shared) (Q : Value->Shared->Prop) (E : Value->Shared->Prop),C i j->Q (.int (g i j) s.toks) { s with toks:=s.toks + 1 }->wpAny (model X.prog X.w) X.A (f (.int i t) (.int j u)) Q E s) :
  OpR X f (rI C fun i j=>.int (g i j)):=by
 intro pins s σ H x y v u Q I rx ry h
 obtain ⟨i,j,rfl,rfl,hc,q⟩:=h
 obtain ⟨t,rfl⟩:=rx
 obtain ⟨t',rfl⟩:=ry
 exact rule i j t t' s _ _ hc ⟨.int (g i j),H,I.tok _,⟨_,rfl⟩,q⟩
theorem opI0 {f : Value->Value->Sem Value} {g : Int->Int->Int}
  (rule : ∀ (i j : Int) (t u : Tok) (s : Shared) (Q : Value->Shared->Prop) (E : Value->Shared->Prop),Q (.int (g i j) s.toks) { s with toks:=s.toks + 1 }->wpAny (model X.prog X.w) X.A (f (.int i t) (.int j u)) Q E s) :
  OpR X f (rI0 fun i j=>.int (g i j)):=by
 intro pins s σ H x y v u Q I rx ry h
 obtain ⟨i,j,rfl,rfl,q⟩:=h
 obtain ⟨t,rfl⟩:=rx
 obtain ⟨t',rfl⟩:=ry
 exact rule i j t t' s _ _ ⟨.int (g i j),H,I.tok _,⟨_,rfl⟩,q⟩
theorem opB0 {f : Value->Value->Sem Value} {g : Int->Int->Bool}
  (rule : ∀ (i j : Int) (t u : Tok) (s : Shared) (Q : Value->Shared->Prop) (E : Value->Shared->Prop),Q (.bool (g i j)) s->wpAny (model X.prog X.w) X.A (f (.int i t) (.int j u)) Q E s) :
  OpR X f (rI0 fun i j=>.bl (g i j)):=by
 intro pins s σ H x y v u Q I rx ry h
 obtain ⟨i,j,rfl,rfl,q⟩:=h
 obtain ⟨t,rfl⟩:=rx
 obtain ⟨t',rfl⟩:=ry
 exact rule i j t t' s _ _ ⟨.bl (g i j),H,I,rfl,q⟩
def CDiv (i j : Int) : Prop:=0 < j /\ j < 1073741824
def CPow (i j : Int) : Prop:=0 <= j /\ j <= 1000000 /\ i.natAbs < 2 ^ 64
def CMul (i j : Int) : Prop:=(-(2 ^ 64) < i /\ i < 2 ^ 64) \/ (-(2 ^ 64) < j /\ j < 2 ^ 64)
theorem CMul.ok {i j : Int} (h : CMul i j) : IntMulOk i j:=by
 rcases h with ⟨h1,h2⟩ | ⟨h1,h2⟩
 ·exact .of_left (intBits_le_64 h1 h2)
 ·exact .of_right (intBits_le_64 h1 h2)
theorem zc86 : OpR X (jy5 .Add) (rI0 fun i j=>.int (i + j)):=opI0 fun _ _ _ _ _ _ _ q=>add_int q
theorem zc87 : OpR X (jy5 .Sub) (rI0 fun i j=>.int (i - j)):=opI0 fun _ _ _ _ _ _ _ q=>sub_int q
theorem zc88 : OpR X (jy5 .Mult) (rI CMul fun i j=>.int (i * j)):=opI fun _ _ _ _ _ _ _ hc q=>mul_int q hc.ok
/-- % by a positive divisor of any size -/
theorem zc89 : OpR X (jy5 .Mod) (rI (fun _ j=>0 < j) fun i j=>.int (i % j)):=opI fun i j _ _ _ _ _ hc q=>by
 have h1 : (0 : Int) < j:=hc
 exact mod_int' (by omega) (by rw [Int.fmod_eq_emod_of_nonneg i (by omega)]; exact q)
theorem zc90 : OpR X (jy5 .Pow) (rI CPow fun i j=>.int (i ^ j.toNat)):=opI fun _ _ _ _ _ _ _ hc q=>pow_int_small hc.1 hc.2.1 hc.2.2 q
theorem unI {f : Value->Sem Value} {g : Int->Int}
  (rule : ∀ (i : Int) (t : Tok) (s : Shared) (Q : Value->Shared->Prop) (E : Value->Shared->Prop),Q (.int (g i) s.toks) { s with toks:=s.toks + 1 }->wpAny (model X.prog X.w) X.A (f (.int i t)) Q E s) :
  UnR X f (rU fun i=>.int (g i)):=by
 intro pins s σ H x v Q I rx h
 obtain ⟨i,rfl,q⟩:=h
 obtain ⟨t,rfl⟩:=rx
 exact rule i t s _ _ ⟨.int (g i),H,I.tok _,⟨_,rfl⟩,q⟩
theorem zc91 : UnR X (unaryOp .USub) (rU fun i=>.int (-i)):=unI fun _ _ _ _ _ q=>neg_int q
end
/-- the scalars that == tells apart as data does -/
def scal : V->V->Bool
 | .non,.non=>true | .non,.int _=>true | .int _,.non=>true | .non,.bl _=>true | .bl _,.non=>true | .non,.str _=>true | .str _,.non=>true
 | .int _,.int _=>true | .bl _,.bl _=>true | .str _,.str _=>true | .byt _,.byt _=>true
 | .int _,.str _=>true | .str _,.int _=>true | .bl _,.str _=>true | .str _,.bl _=>true
 | _,_=>false
def rEq : R2:=fun x y H Q=>scal x y = true /\ Q (.bl (decide (x = y))) H
def rNe : R2:=fun x y H Q=>scal x y = true /\ Q (.bl (!decide (x = y))) H
theorem zS7 {i j : Int} : decide (V.int i = V.int j) = (i == j):=by
 rw [gy4]
 simp
theorem zb27 {i j : Bool} : decide (V.bl i = V.bl j) = (i == j):=by
 rw [gy4]
 simp
theorem zS8 {i j : Str} : decide (V.str i = V.str j) = (i == j):=by
 rw [gy4]
 simp
theorem zS9 {i j : Array UInt8} : decide (V.byt i = V.byt j) = (i.toList == j.toList):=by
 rw [gy4]
 cases i
 cases j
 simp
section
variable {X : Cx} {a b c : Expr} {ta tb tc : TE} {pos : Pos}
theorem zd3 {pins : List (Addr × Obj)} {σ : St} {H : Hp} {s : Shared} {Q : VK} {k k' : Bool} (I : Inv X pins σ H s) (q : Q (.bl k) H) (e : k = k') : EP X pins σ Q (.bool k') s:=by
 subst e
 exact ⟨.bl k,H,I,rfl,q⟩
theorem zc92 : OpR X (fy7 .Eq) rEq:=by
 intro pins s σ H x y v u Q I rx ry h
 obtain ⟨hs,q⟩:=h
 cases x with
 | non =>
  cases rx
  cases y with
  | non=>cases ry; exact PySem.EqNone.eq_none_none (zd3 I q (by simp))
  | bl j=>cases ry; exact PySem.EqNone.eq_none_bool (zd3 I q (by simp))
  | int j=>obtain ⟨t',rfl⟩:=ry; exact PySem.EqNone.eq_none_int (zd3 I q (by simp))
  | str j=>obtain ⟨t',rfl⟩:=ry; exact PySem.EqNone.eq_none_str (zd3 I q (by simp))
  | _=>exact absurd (show false = true from hs) cy3
 | bl i =>
  cases rx
  cases y with
  | non=>cases ry; exact PySem.EqNone.eq_bool_none (zd3 I q (by simp))
  | bl j=>cases ry; exact eq_bool (zd3 I q zb27)
  | str j=>obtain ⟨t',rfl⟩:=ry; exact PySem.EqMixed.eq_bool_str (zd3 I q (by simp))
  | _=>exact absurd (show false = true from hs) cy3
 | int i =>
  obtain ⟨t,rfl⟩:=rx
  cases y with
  | non=>cases ry; exact PySem.EqNone.eq_int_none (zd3 I q (by simp))
  | int j=>obtain ⟨t',rfl⟩:=ry; exact eq_int (zd3 I q zS7)
  | str j=>obtain ⟨t',rfl⟩:=ry; exact PySem.EqMixed.eq_int_str (zd3 I q (by simp))
  | _=>exact absurd (show false = true from hs) cy3
 | str i =>
  obtain ⟨t,rfl⟩:=rx
  cases y with
  | non=>cases ry; exact PySem.EqNone.eq_str_none (zd3 I q (by simp))
  | bl j=>cases ry; exact PySem.EqMixed.eq_str_bool (zd3 I q (by simp))
  | int j=>obtain ⟨t',rfl⟩:=ry; exact PySem.EqMixed.eq_str_int (zd3 I q (by simp))
  | str j=>obtain ⟨t',rfl⟩:=ry; exact eq_str (zd3 I q zS8)
  | _=>exact absurd (show false = true from hs) cy3
 | byt i =>
  obtain ⟨t,rfl⟩:=rx
  cases y with
  | byt j=>obtain ⟨t',rfl⟩:=ry; exact PySem.W.eq_bytes (zd3 I q zS9)
  | _=>exact absurd (show false = true from hs) cy3
 | _=>cases y <;> exact absurd (show false = true from hs) cy3
theorem zc93 : OpR X (fy7 .NotEq) rNe:=by
 intro pins s σ H x y v u Q I rx ry h
 obtain ⟨hs,q⟩:=h
 cases x with
 | non =>
  cases rx
  cases y with
  | non=>cases ry; exact PySem.EqNone.ne_none_none (zd3 I q (by simp))
  | bl j=>cases ry; exact PySem.EqNone.ne_none_bool (zd3 I q (by simp))
  | int j=>obtain ⟨t',rfl⟩:=ry; exact PySem.EqNone.ne_none_int (zd3 I q (by simp))
  | str j=>obtain ⟨t',rfl⟩:=ry; exact PySem.EqNone.ne_none_str (zd3 I q (by simp))
  | _=>exact absurd (show false = true from hs) cy3
 | bl i =>
  cases rx
  cases y with
  | non=>cases ry; exact PySem.EqNone.ne_bool_none (zd3 I q (by simp))
  | bl j=>cases ry; exact ne_bool (zd3 I q (congrArg not zb27))
  | str j=>obtain ⟨t',rfl⟩:=ry; exact PySem.EqMixed.ne_bool_str (zd3 I q (by simp))
  | _=>exact absurd (show false = true from hs) cy3
 | int i =>
  obtain ⟨t,rfl⟩:=rx
  cases y with
  | non=>cases ry; exact PySem.EqNone.ne_int_none (zd3 I q (by simp))
  | int j=>obtain ⟨t',rfl⟩:=ry; exact ne_int (zd3 I q (congrArg not zS7))
  | str j=>obtain ⟨t',rfl⟩:=ry; exact PySem.EqMixed.ne_int_str (zd3 I q (by simp))
  | _=>exact absurd (show false = true from hs) cy3
 | str i =>
  obtain ⟨t,rfl⟩:=rx
  cases y with
  | non=>cases ry; exact PySem.EqNone.ne_str_none (zd3 I q (by simp))
  | bl j=>cases ry; exact PySem.EqMixed.ne_str_bool (zd3 I q (by simp))
  | int j=>obtain ⟨t',rfl⟩:=ry; exact PySem.EqMixed.ne_str_int (zd3 I q (by simp))
  | str j=>obtain ⟨t',rfl⟩:=ry; exact ne_str (zd3 I q (congrArg not zS8))
  | _=>exact absurd (show false = true from hs) cy3
 | byt i =>
  obtain ⟨t,rfl⟩:=rx
  cases y with
  | byt j=>obtain ⟨t',rfl⟩:=ry; exact PySem.W.ne_bytes (zd3 I q (congrArg not zS9))
  | _=>exact absurd (show false = true from hs) cy3
 | _=>cases y <;> exact absurd (show false = true from hs) cy3
theorem ze25 : OpR X (fy7 .Lt) (rI0 fun i j=>.bl (decide (i < j))):=opB0 fun _ _ _ _ _ _ _ q=>lt_int q
theorem ze26 : OpR X (fy7 .LtE) (rI0 fun i j=>.bl (decide (i <= j))):=opB0 fun _ _ _ _ _ _ _ q=>le_int q
/-- the one string within the other -/
theorem zT0 : OpR X (fy7 .In) (fun x y H Q=>∃ i j,x = .str i /\ y = .str j /\ Q (.bl (!(sy1 j i 0 j.length 1).isEmpty)) H):=by
 intro pins s σ H x y v u Q I rx ry h
 obtain ⟨i,j,rfl,rfl,q⟩:=h
 obtain ⟨t,rfl⟩:=rx
 obtain ⟨t',rfl⟩:=ry
 exact in_str (zd3 I q rfl)
/-- is None,is not None: the right side a value none -/
theorem zc94 : OpR X (fy7 .Is) (fun x y H Q=>y = .non /\ Q (.bl (decide (x = .non))) H):=by
 intro pins s σ H x y v u Q I rx ry h
 obtain ⟨rfl,q⟩:=h
 cases ry
 refine is_none_gen (zd3 I q ?_)
 cases x <;> first
  | (cases rx; rfl)
  | (obtain ⟨t,rfl⟩:=rx; rfl)
/-- a comparison as a value; hm: nomark b,or (for in,not in) by with_unfolding_all rfl -/
theorem zb68 {op : CmpOp} {r : R2} (ho : OpR X (fy7 op) r) (ha : PE X a ta) (hb : PE X b tb) (hm : behindInMarks op b = false) : PE X (.Compare a [op] [b] pos) (tOp r ta tb):=by
 intro pins s σ H Q I h
 exact wpAny_Compare1 (binT ha hb I h fun v u s2 x y H2 I2 rx ry q=>ho pins s2 σ H2 x y v u Q I2 rx ry q) hm
/-- a reading of a value as a test -/
def zc95 (t : TE) : TT:=fun σ H Q=>t σ H fun x H'=>∃ k,x = .bl k /\ Q k H'
theorem zb69 {op : CmpOp} {r : R2} (ho : OpR X (fy7 op) r) (ha : PE X a ta) (hb : PE X b tb) (hm : behindInMarks op b = false) : PT X (.Compare a [op] [b] pos) (zc95 (tOp r ta tb)):=by
 intro pins s σ H Q I h
 refine wpAny_isTrue_Compare1 (thn (ha pins s σ H _ I h) fun v s1 ⟨x,H1,I1,r1,q1⟩=>thn (hb pins s1 σ H1 _ I1 q1) fun u s2 ⟨y,H2,I2,r2,q2⟩ =>
  thn (ho pins s2 σ H2 x y v u _ I2 r1 r2 q2) fun c s3 ⟨z,H3,I3,r3,k,e,q3⟩=>?_) hm
 subst e
 cases r3
 exact iy6 ⟨H3,I3,q3⟩
/-- a op1 b op2 c -/
def zb28 (r r' : R2) (ta tb tc : TE) : TE:=fun σ H Q=>ta σ H fun x H1=>tb σ H1 fun y H2=>r x y H2 fun z H3=>∃ k,z = .bl k /\
 (if k = true then tc σ H3 fun w' H4=>r' y w' H4 Q else Q (.bl false) H3)
theorem za49 {op op' : CmpOp} {r r' : R2} (ho : OpR X (fy7 op) r) (ho' : OpR X (fy7 op') r') (ha : PE X a ta) (hb : PE X b tb) (hc : PE X c tc)
  (hm : lastMarks [op,op'] [b,c] = false:=by with_unfolding_all rfl) : PE X (.Compare a [op,op'] [b,c] pos) (zb28 r r' ta tb tc):=by
 intro pins s σ H Q I h
 refine Compare_chain (thn (ha pins s σ H _ I h) fun v s1 ⟨x,H1,I1,r1,q1⟩=>chain_link (thn (hb pins s1 σ H1 _ I1 q1) fun u s2 ⟨y,H2,I2,r2,q2⟩ =>
  thn (ho pins s2 σ H2 x y v u _ I2 r1 r2 q2) fun d s3 ⟨z,H3,I3,r3,k,e,q3⟩=>?_)) hm
 subst e
 cases r3
 refine iy6 ?_
 cases k with
 | false=>exact ite_ff ⟨.bl false,H3,I3,rfl,q3⟩
 | true=>exact ite_tt (chain_last (thn (hc pins s3 σ H3 _ I3 q3) fun w' s4 ⟨z',H4,I4,r4,q4⟩=>ho' pins s4 σ H4 y z' u w' Q I4 r2 r4 q4))
theorem za50 {op op' : CmpOp} {r r' : R2} (ho : OpR X (fy7 op) r) (ho' : OpR X (fy7 op') r') (ha : PE X a ta) (hb : PE X b tb) (hc : PE X c tc)
  (hm : lastMarks [op,op'] [b,c] = false:=by with_unfolding_all rfl) : PT X (.Compare a [op,op'] [b,c] pos) (zc95 (zb28 r r' ta tb tc)):=by
 intro pins s σ H Q I h
 refine isTrue_chain (thn (ha pins s σ H _ I h) fun v s1 ⟨x,H1,I1,r1,q1⟩=>test_link (thn (hb pins s1 σ H1 _ I1 q1) fun u s2 ⟨y,H2,I2,r2,q2⟩ =>
  thn (ho pins s2 σ H2 x y v u _ I2 r1 r2 q2) fun d s3 ⟨z,H3,I3,r3,k,e,q3⟩=>?_)) hm
 subst e
 cases r3
 refine iy6 ?_
 cases k with
 | false =>
  obtain ⟨k',e',q'⟩:=q3
  cases e'
  exact ite_ff ⟨H3,I3,q'⟩
 | true =>
  refine ite_tt (test_last (thn (hc pins s3 σ H3 _ I3 q3) fun w' s4 ⟨z',H4,I4,r4,q4⟩=>thn (ho' pins s4 σ H4 y z' u w' _ I4 r2 r4 q4) fun d' s5 ⟨z2,H5,I5,r5,k2,e2,q5⟩=>?_))
  subst e2
  cases r5
  exact iy6 ⟨H5,I5,q5⟩
/-- a value's truth by the abstract heap -/
def TruV (K : ay2) (x : V) (H : Hp) (k : Bool) : Prop :=
 match x with
 | .non=>k = false
 | .bl b=>k = b
 | .int i=>k = (i != 0)
 | .str y=>y.length <= by0 /\ k = ((y.length : Int) != 0)
 | .byt y=>y.size <= by0 /\ k = ((y.size : Int) != 0)
 | .ref p=>(∃ xs,SqL K H p xs /\ k = !xs.isEmpty) \/ (∃ xs,SqT K H p xs /\ k = !xs.isEmpty) \/ ∃ kvs,H p = some (.dK kvs) /\ k = !kvs.isEmpty
 | _=>False
theorem zN6 {κ : Type} {kvs : List (κ × V)} {vs : List (κ × Value)} (r : KV kvs vs) : (!vs.isEmpty) = !kvs.isEmpty:=by
 cases r <;> rfl
theorem zw5 {xs : List V} {its : List Value} (r : Vals xs its) : (!its.toArray.isEmpty) = !xs.isEmpty:=by
 cases r <;> simp
theorem zp1 : (by0 : Nat) < 2 ^ 63:=by rw [oy4]; decide
theorem zc96 : TruR X (fun x H Q=>∃ k,TruV X.K x H k /\ Q k H):=by
 intro pins s σ H x v Q I rx h
 obtain ⟨k,e,q⟩:=h
 have hl:=zp1
 have hs : by0 = 16777216:=oy4
 cases x with
 | non =>
  cases rx
  have e' : k = false:=e
  subst e'
  exact truthy_none ⟨H,I,q⟩
 | bl b =>
  cases rx
  have e' : k = b:=e
  subst e'
  exact iy6 ⟨H,I,q⟩
 | int i =>
  obtain ⟨t,rfl⟩:=rx
  have e' : k = (i != 0):=e
  subst e'
  exact PySem.P.truthy_int ⟨H,I,q⟩
 | str y =>
  obtain ⟨t,rfl⟩:=rx
  obtain ⟨hy,e'⟩ : y.length <= by0 /\ k = ((y.length : Int) != 0):=e
  subst e'
  exact PySem.P.truthy_str (by omega) ⟨H,I.tok _,q⟩
 | byt y =>
  obtain ⟨t,rfl⟩:=rx
  obtain ⟨hy,e'⟩ : y.size <= by0 /\ k = ((y.size : Int) != 0):=e
  subst e'
  exact PySem.W.truthy_bytes (by omega) ⟨H,I.tok _,q⟩
 | ref p =>
  cases rx
  have e' : (∃ xs,SqL X.K H p xs /\ k = !xs.isEmpty) \/ (∃ xs,SqT X.K H p xs /\ k = !xs.isEmpty) \/ ∃ kvs,H p = some (.dK kvs) /\ k = !kvs.isEmpty:=e
  rcases e' with ⟨xs,hx,e'⟩ | ⟨xs,hx,e'⟩ | ⟨kvs,hx,e'⟩
  ·subst e'
   obtain ⟨its,r,pl,hz⟩:=I.list hx
   have hlen:=r.length
   exact wpAny_truthy_list pl.isList (by simp only [by6]; omega) ⟨H,I.tok _,by rw [zw5 r]; exact q⟩
  ·subst e'
   obtain ⟨its,r,pl,hz⟩:=I.tuple hx
   have hlen:=r.length
   exact truthy_tuple pl (by simp only [by6]; omega) ⟨H,I.tok _,by rw [zw5 r]; exact q⟩
  ·subst e'
   obtain ⟨hz,hS,vs,r,m⟩ : kvs.length <= by0 /\ (p == ly1) = false /\ ∃ vs,KV kvs vs /\ s.heap.DictOf (ze3 X.prog X.w) p vs:=I.hok p _ hx
   have hlen : kvs.length = vs.length:=Paired.length r
   exact wpAny_truthy_dict hS m (by omega) ⟨H,I.tok _,by rw [zN6 r]; exact q⟩
 | _=>exact (show False from e).elim
/-- any expression whose test is its value's truth (a name,a call,a subscript,a field ..: he by fun _=>rfl) -/
theorem za51 (ha : PE X a ta) (he : ∀ whole,isTrue a X.env whole = (do let v <- whole; standAt a.pos; holding [v] (truthy v))) :
  PT X a (fun σ H Q=>ta σ H fun x H'=>∃ k,TruV X.K x H' k /\ Q k H'):=by
 intro pins s σ H Q I h
 exact isTrue_plain (thn (ha pins s σ H _ I h) fun v s1 ⟨x,H1,I1,r1,q1⟩=>zc96 pins s1 σ H1 x v Q I1 r1 q1) (he _)
theorem zN7 : OpR X (jy5 .Add) (fun x y H Q=>∃ i j,x = .str i /\ y = .str j /\ i.length + j.length <= by0 /\ Q (.str (i++j)) H):=by
 intro pins s σ H x y v u Q I rx ry h
 obtain ⟨i,j,rfl,rfl,hz,q⟩:=h
 obtain ⟨t,rfl⟩:=rx
 obtain ⟨t',rfl⟩:=ry
 exact add_str (fun t' tk=>⟨.str (i++j),H,I.tok _,⟨_,rfl⟩,q⟩) hz
theorem vals1 {x : V} {us : List Value} (r : Vals [x] us) : ∃ u,us = [u] /\ RelV x u:=by
 cases r with
 | cons r1 r2=>cases r2; exact ⟨_,rfl,r1⟩
theorem vals2 {x y : V} {us : List Value} (r : Vals [x,y] us) : ∃ u w',us = [u,w'] /\ RelV x u /\ RelV y w':=by
 cases r with
 | cons r1 r2 =>
  cases r2 with
  | cons r3 r4=>cases r4; exact ⟨_,_,rfl,r1,r3⟩
theorem zT1 (hc : X.calm = true) : zl1 X (.builtin "max") (fun xs H Q=>∃ i j,xs = [.int i,.int j] /\ Q (.int (if j > i then j else i)) H):=by
 intro pins s σ H xs us Q I r h
 obtain ⟨i,j,rfl,q⟩:=h
 obtain ⟨u,w',rfl,⟨t,rfl⟩,⟨t',rfl⟩⟩:=vals2 r
 refine max_two_ints (I.ok.hd hc) fun h' tk k=>⟨_,H,I.kept k,?_,q⟩
 by_cases hj : j > i
 ·rw [if_pos hj,if_pos hj]; exact ⟨_,rfl⟩
 ·rw [if_neg hj,if_neg hj]; exact ⟨_,rfl⟩
theorem zT2 (hc : X.calm = true) : zl1 X (.builtin "min") (fun xs H Q=>∃ i j,xs = [.int i,.int j] /\ Q (.int (if j < i then j else i)) H):=by
 intro pins s σ H xs us Q I r h
 obtain ⟨i,j,rfl,q⟩:=h
 obtain ⟨u,w',rfl,⟨t,rfl⟩,⟨t',rfl⟩⟩:=vals2 r
 refine min_two_ints (I.ok.hd hc) fun h' tk k=>⟨_,H,I.kept k,?_,q⟩
 by_cases hj : j < i
 ·rw [if_pos hj,if_pos hj]; exact ⟨_,rfl⟩
 ·rw [if_neg hj,if_neg hj]; exact ⟨_,rfl⟩
theorem zT3 : zl1 X (.type "int") (fun xs H Q=>(∃ i,xs = [.int i] /\ Q (.int i) H) \/ ∃ k,xs = [.bl k] /\ Q (.int (if k then 1 else 0)) H):=by
 intro pins s σ H xs us Q I r h
 rcases h with ⟨i,rfl,q⟩ | ⟨k,rfl,q⟩
 ·obtain ⟨u,rfl,t,rfl⟩:=vals1 r
  exact call_int_int ⟨.int i,H,I,⟨_,rfl⟩,q⟩
 ·obtain ⟨u,rfl,r1⟩:=vals1 r
  cases r1
  exact call_int_bool ⟨.int (if k then 1 else 0),H,I.tok _,⟨_,rfl⟩,q⟩
/-- divmod: a new tuple -/
theorem zG1 : zl1 X (.builtin "divmod") (fun xs H Q=>∃ i j,xs = [.int i,.int j] /\ CDiv i j /\ ∀ p,H p = none->Q (.ref p) (upd H p (.tup [.int (i / j),.int (i % j)]))):=by
 intro pins s σ H xs us Q I r h
 obtain ⟨i,j,rfl,⟨h1,h2⟩,q⟩:=h
 obtain ⟨u,w',rfl,⟨t,rfl⟩,⟨t',rfl⟩⟩:=vals2 r
 refine divmod_int (by omega) ?_ (.inl (PyProof.noPylong_small (by omega)))
 rw [Int.fdiv_eq_ediv_of_nonneg i (by omega),Int.fmod_eq_emod_of_nonneg i (by omega)]
 have hn : H s.heap.objs.size = none:=I.hok.fresh (ay5 _)
 refine ⟨.ref s.heap.objs.size,_,?_,rfl,q _ hn⟩
 refine I.laid (fun b o e=>ay6 _ e) (ay5 _) ⟨by simp only [ry2,List.length_nil]; rw [oy4]; decide,[.int (i / j) s.toks,.int (i % j) (s.toks + 1)],.cons ⟨_,rfl⟩ (.cons ⟨_,rfl⟩ .nil),?_⟩
 exact ⟨_,by2 s.heap rfl,rfl,0,rfl⟩
end
structure ObjM (h : Heap) (x dx C : Addr) (mA : Str->Option Value) : Prop where
 obj : h.get? x = some (PySem.W.instObj C dx)
 ns : h.Ns1 dx mA
 ne : dx ≠ x
theorem zT4 {h : Heap} {dx : Addr} {mA : Str->Option Value} (n : h.Ns1 dx mA) : ∃ od,h.get? dx = some od /\ ∀ name,PySem.W.lookIn name od = some (mA name):=by
 obtain ⟨o,es,ep,ho,hd,hk,_,hm⟩:=n
 refine ⟨o,ho,fun name=>?_⟩
 have e:=hm name
 unfold nsFind findBy at e
 rw [<- Array.find?_toList] at e
 unfold PySem.W.lookIn
 rw [hd]
 dsimp only
 split
 ·rename_i y q
  rw [q] at e
  exact congrArg some e
 ·rename_i q
  rw [q] at e
  have a : es.toList.any (·.refKey) = false:=by
   rw [List.any_eq_false]
   intro y hy
   obtain ⟨z,t,hkey⟩:=hk y (Array.mem_toList_iff.mp hy)
   simp [DictEntry.refKey,hkey]
  have a' : ¬ es.toList.any (·.refKey) = true:=by rw [a]; exact cy3
  rw [if_neg a']
  exact congrArg some e
theorem ObjM.look {h : Heap} {x dx C : Addr} {mA : Str->Option Value} (I : ObjM h x dx C mA) : ∃ od,PySem.W.InstAt h x (PySem.W.instObj C dx) C (some od) /\ ∀ name,PySem.W.lookIn name od = some (mA name) :=
 let ⟨od,ho,hl⟩:=zT4 I.ns
 ⟨od,⟨I.obj,rfl,rfl,ho⟩,hl⟩
theorem zx8.some_of {v : V} {o : Option Value} (r : zx8 (some v) o) : ∃ u,o = some u /\ RelV v u:=by
 cases o with
 | none=>exact (show False from r).elim
 | some u=>exact ⟨u,rfl,r⟩
theorem zx8.none_of {o : Option Value} (r : zx8 none o) : o = none:=by
 cases o with
 | none=>rfl
 | some u=>exact (show False from r).elim
section
variable {P : dy7} {w : World} {H H' : Hp} {h h' : Heap} {a C dx : Addr} {fs fs' : List (Str × V)}
theorem zb70 (hok : HOk P w H h) (e : H a = some (.ins C dx fs)) : ∃ mA,ObjM h a dx C mA /\ (∀ f,zx8 (fs.lookup f) (mA f)) /\ PySem.Within mA (fs.map (·.1)) /\ fs.length <= 1000 /\ H dx = some (.own a):=by
 obtain ⟨d,z,ne,ob,mA,n,r,q⟩:=(show zd2 P w H h a (.ins C dx fs) from hok a _ e)
 exact ⟨mA,⟨ob,n,ne⟩,r,q,z,d⟩
end
structure Cls (K : ay2) (C : Addr) : Prop where
 pg : PySem.W.plainGet K C Str.empty = true
 hd : PySem.W.hasDictIn K C = true
 po : PySem.W.plainOver K C = true
 sa : PySem.W.findIn K (.ref C) "__setattr__" = some (some (.builtin "object.__setattr__"))
theorem Cls.get {K : ay2} {C : Addr} (c : Cls K C) (f : Str) : PySem.W.plainGet K C f = true:=c.pg
section
variable {X : Cx} {pins : List (Addr × Obj)} {σ : St} {H : Hp} {s : Shared} {A : Around} {E : Value->Shared->Prop} {Q : Value->Shared->Prop} {c : Value} {b : Bool}
/-- the type of a value,as the fragment's deciders take it; for an instance its class -/
inductive zR1 (K : ay2) (H : Hp) : V->Value->Prop where
 | non : zR1 K H .non (.type "NoneType")
 | bl (x : Bool) : zR1 K H (.bl x) (.type "bool")
 | int (i : Int) : zR1 K H (.int i) (.type "int")
 | str (x : Str) : zR1 K H (.str x) (.type "str")
 | flt (x : UInt64) : zR1 K H (.flt x) (.type "float")
 | lst {a : Addr} {xs : List V} (e : H a = some (.lst xs)) : zR1 K H (.ref a) (.type "list")
 | frz {a : Addr} {o : Obj} {xs : List V} (e : H a = some (.frz o (.lst xs))) : zR1 K H (.ref a) (.type "list")
 | tup {a : Addr} {xs : List V} (e : H a = some (.tup xs)) : zR1 K H (.ref a) (.type "tuple")
 | dK {a : Addr} {kvs : List (Key × V)} (e : H a = some (.dK kvs)) : zR1 K H (.ref a) (.type "dict")
 | dT {a : Addr} {kvs : List (List Key × V)} (e : H a = some (.dT kvs)) : zR1 K H (.ref a) (.type "dict")
 | ins {a C dx : Addr} {fs : List (Str × V)} (e : H a = some (.ins C dx fs)) (cl : Cls K C) (ha : PySem.W.findIn K (.ref C) "__class__" = some (some (.builtin "object.__class__")))
   (hn : PySem.W.specialIn K (.builtin "object.__class__") "__get__" = some (some (.builtin "getset_descriptor.__get__"))) (htk : PySem.W.takesIn K (.builtin "object.__class__") = some true)
   (hm : PySem.W.mroIn K C (.type "object") = some true) : zR1 K H (.ref a) (.ref C)
/-- isinstance(x,c) for one class c,a built-in or an own one: kitOne's answer -/
theorem zi4 {x : V} {u t : Value} (I : Inv X pins σ H s) (rx : RelV x u) (ty : zR1 X.K H x t) (e : PySem.W.kitOne X.K t c = some b) (h : ∀ tk,Q (.bool b) { s with toks:=tk }) :
  wpAny (model X.prog X.w) A (call (.builtin "isinstance") [u,c]) Q E s:=by
 cases ty with
 | non=>cases (show u = fy3 from rx); exact iy0 PySem.W.kitx_none I.kIn qy6 e (fun z=>nomatch z) h
 | bl y=>cases (show u = Value.bool y from rx); exact iy0 PySem.W.kitx_bool I.kIn qy6 e (fun z=>nomatch z) h
 | int i=>obtain ⟨t,q⟩:=(show ∃ t,u = Value.int i t from rx); cases q; exact iy0 PySem.W.kitx_int I.kIn qy6 e (fun z=>nomatch z) h
 | str y=>obtain ⟨t,q⟩:=(show ∃ t,u = Value.str y t from rx); cases q; exact iy0 PySem.W.kitx_str I.kIn qy6 e (fun z=>nomatch z) h
 | flt y=>obtain ⟨t,q⟩:=(show ∃ t,u = Value.float y t from rx); cases q; exact iy0 PySem.W.kitx_float I.kIn qy6 e (fun z=>nomatch z) h
 | @lst a xs ea =>
  cases (show u = fy8 a from rx)
  obtain ⟨_,_,n,_,h1⟩:=(show zd2 X.prog X.w H s.heap a (.lst xs) from I.hok a _ ea)
  exact iy0 PySem.W.kitx_list I.kIn ⟨_,h1,rfl⟩ e (fun z=>nomatch z) h
 | @frz a ob xs ea =>
  cases (show u = fy8 a from rx)
  obtain ⟨_,_,_,n,_,h1⟩:=(show zd2 X.prog X.w H s.heap a (.frz ob (.lst xs)) from I.hok a _ ea)
  exact iy0 PySem.W.kitx_list I.kIn ⟨_,h1,rfl⟩ e (fun z=>nomatch z) h
 | @tup a xs ea =>
  cases (show u = fy8 a from rx)
  obtain ⟨_,_,_,p⟩:=(show zd2 X.prog X.w H s.heap a (.tup xs) from I.hok a _ ea)
  obtain ⟨o,h1,h2,_⟩:=p
  exact iy0 PySem.W.kitx_tuple I.kIn ⟨o,h1,h2⟩ e (fun z=>nomatch z) h
 | @dK a kvs ea =>
  cases (show u = fy8 a from rx)
  obtain ⟨_,_,vs,_,p⟩:=(show zd2 X.prog X.w H s.heap a (.dK kvs) from I.hok a _ ea)
  obtain ⟨o,es,ep,h1,h2,_⟩:=p
  exact iy0 PySem.W.kitx_dict I.kIn ⟨o,h1,h2.1⟩ e (fun z=>nomatch z) h
 | @dT a kvs ea =>
  cases (show u = fy8 a from rx)
  obtain ⟨_,_,xs,_,o,es,ep,h1,h2,_⟩:=(show zd2 X.prog X.w H s.heap a (.dT kvs) from I.hok a _ ea)
  exact iy0 PySem.W.kitx_dict I.kIn ⟨o,h1,h2.1⟩ e (fun z=>nomatch z) h
 | @ins a C dx fs ea cl ha hn htk hm =>
  cases (show u = fy8 a from rx)
  obtain ⟨mA,O,_⟩:=zb70 I.hok ea
  obtain ⟨od,J,_⟩:=O.look
  exact iy0 (PySem.W.kitx_own (cl.get _) cl.hd ha hn htk hm) I.kIn J e (fun z=>nomatch z) h
end
structure zt1 (k : Nat) (A : Around) : Prop where
 hd : A.handled = none
 dp : A.depth + 3 * k + 5 < recursionLimit
 un : A.units + 16 * k + 200 < cLine
theorem zt1.mono {j k : Nat} {A : Around} (r : zt1 k A) (h : j <= k) : zt1 j A:=⟨r.hd,by have:=r.dp; omega,by have:=r.un; omega⟩
theorem zt1.deeper {k : Nat} {A : Around} (r : zt1 (k + 1) A) (env : Env) : zt1 k (A.deeper env) :=
 ⟨r.hd,by have:=r.dp; show A.depth + 1 + 3 * k + 5 < _; omega,by have:=r.un; show A.units + 3 + 16 * k + 200 < _; omega⟩
theorem zt1.depth {k : Nat} {A : Around} (r : zt1 k A) : A.depth < recursionLimit:=by have:=r.dp; omega
theorem zt1.units {k : Nat} {A : Around} (r : zt1 k A) : A.units + 64 < cLine:=by have:=r.un; omega
def tNil : TA:=fun _ H Q=>Q [] H
def ze28 (ta : TE) (tr : TA) : TA:=fun σ H Q=>ta σ H fun x H1=>tr σ H1 fun xs H2=>Q (x :: xs) H2
section
variable {X : Cx} {e : Expr} {es : List Expr} {te : TE} {t : TA} {pos : Pos}
theorem zt2 : PA X [] tNil:=fun _ _ _ _ H Q I h=>Calls.spliced_nil ⟨[],H,I,.nil,h⟩
theorem zm5 (ha : PE X e te) (hr : PA X es t) (hs : ey1 (e :: es) X.env = (false,eval e X.env) :: ey1 es X.env:=by rfl) : PA X (e :: es) (ze28 te t):=by
 intro pos pins s σ H Q I h
 rw [hs]
 show wpAny _ _ (spliced ((false,eval e X.env) :: backTo pos (ey1 es X.env))) _ _ s
 refine Calls.spliced_cons (thn (ha pins s σ H _ I h) fun u s1 ⟨x,H1,I1,r1,q1⟩=>?_)
 exact thn (hr pos pins s1 σ H1 _ I1 q1) fun us s2 ⟨xs,H2,I2,r2,q2⟩=>⟨x :: xs,H2,I2,.cons r1 r2,q2⟩
/-- a tuple,a list of written items -/
def tTup (t : TA) : TE:=fun σ H Q=>t σ H fun xs H1=>xs.length <= by0 /\ ∀ p,H1 p = none->Q (.ref p) (upd H1 p (.tup xs))
def tLst (t : TA) : TE:=fun σ H Q=>t σ H fun xs H1=>xs.length <= by0 /\ ∀ p,H1 p = none->Q (.ref p) (upd H1 p (.lst xs))
theorem zT5 {x1} (h : PA X es t) : PE X (.Tuple es x1 pos) (tTup t):=by
 intro pins s σ H Q I hq
 refine wpAny_Tuple_spliced (thn (h pos pins s σ H _ I hq) fun us s1 ⟨xs,H1,I1,r,z,q⟩=>⟨by rw [<- r.length]; exact z,?_⟩)
 have hf : H1 s1.heap.objs.size = none:=I1.hok.fresh (ay5 _)
 refine ⟨.ref s1.heap.objs.size,upd H1 s1.heap.objs.size (.tup xs),I1.laid (t':=s1.toks) (fun b u e=>ay6 _ e) (ay5 _) ?_,rfl,q _ hf⟩
 exact ⟨z,us,r,⟨_,by2 _ rfl,rfl,_,rfl⟩⟩
theorem zb29 (h : PA X es t) : PE X (.List es pos) (tLst t):=by
 intro pins s σ H Q I hq
 refine wpAny_List_spliced (thn (h pos pins s σ H _ I hq) fun us s1 ⟨xs,H1,I1,r,z,q⟩=>⟨by rw [<- r.length]; exact z,?_⟩)
 have hf : H1 s1.heap.objs.size = none:=I1.hok.fresh (ay5 _)
 refine ⟨.ref s1.heap.objs.size,upd H1 s1.heap.objs.size (.lst xs),I1.laid (t':=s1.toks) (fun b u e=>ay6 _ e) (ay5 _) ?_,rfl,q _ hf⟩
 exact ⟨z,us,0,r,by2 _ rfl⟩
end
/-- a def's promise: the bound arguments in the parameters' order,the heap,the wanted end,the wanted exception -/
abbrev Sp:=List V->Hp->VK->XK->Prop
/-- how an exception lies behind a call (file 08 gives it): the callers' frames,abstract heap and state ahead of the call,the zI9,the exception,the state -/
abbrev CXT:=List Env->Hp->Shared->XK->Value->Shared->Prop
/-- the state at a call -/
structure Env0 (P : dy7) (w : World) (K : ay2) (mg : Str->Option Value) (base : Heap) (A : Around) (outer : List Env) (s : Shared) (H : Hp) : Prop where
 frames : A.frames = some outer
 mod : Mod K mg base
 bs : ∀ b o,base.get? b = some o->s.heap.get? b = some o /\ H b = none
 bsz : base.objs.size <= s.heap.objs.size
 zR9 : s.heap.FunFrames base outer
 frf : ∀ b∈frs outer,H b = none
 hok : HOk P w H s.heap
 bare : AllBare s.gens
/-- a call's end -/
def CE (outer : List Env) (P : dy7) (w : World) (H : Hp) (s : Shared) (Q : VK) (u : Value) (s' : Shared) : Prop :=
 ∃ v H',s'.os = s.os /\ AllBare s'.gens /\ Un (frs outer) [] H H' s.heap s'.heap /\ HOk P w H' s'.heap /\ RelV v u /\ Q v H'
def CR (CX : CXT) (outer : List Env) (P : dy7) (w : World) (H : Hp) (s : Shared) (Q : VK) (E : XK) (r : Result) (s' : Shared) : Prop :=
 match r with
 | .ok (.ret u)=>CE outer P w H s Q u s'
 | .ok _=>False
 | .error e=>CX outer H s E e s'
structure zj8 (P : dy7) (w : World) (K : ay2) (mg : Str->Option Value) (base : Heap) (CX : CXT) (k : Nat) (f : Addr) (fd : ey8) (ps : List Str) (sp : Sp) : Prop where
 len : ∀ vs H Q E,sp vs H Q E->vs.length = ps.length
 run : ∀ (A : Around) (outer : List Env) (s : Shared) (H : Hp) (args : Args) (us : List Value) (vs : List V) (Q : VK) (E : XK),zt1 k A->Env0 P w K mg base A outer s H->BindsTo s fd args (ps.zip us)->Vals vs us->sp vs H Q E ->
  codeAny (model P w) A (.call (.ref f) args) (CR CX outer P w H s Q E) s
section
variable {X : Cx} {pins : List (Addr × Obj)} {σ : St} {H : Hp} {s s' : Shared}
/-- from a body: what a callee wants -/
theorem Inv.env0 (I : Inv X pins σ H s) : Env0 X.prog X.w X.K X.mg X.base X.A X.stack s H :=
 ⟨I.ok.frames,I.ok.mod,I.bs,cy6 I.ok.bsz I.sz,I.stack,I.zF9,I.hok,I.bare⟩
/-- behind a call -/
theorem Inv.after {Q : VK} {u : Value} (I : Inv X pins σ H s) (h : CE X.stack X.prog X.w H s Q u s') : EP X pins σ Q u s':=by
 obtain ⟨v,H',os,bare,un,hok,r,q⟩:=h
 obtain ⟨hh,g,d,t,os'⟩:=s'
 obtain rfl : os' = s.os:=os
 exact ⟨v,H',I.call (h':=hh) (g':=g) (d':=d) (t':=t) (ch:=[]) un hok bare (fun b z=>absurd z (by simp)),r,q⟩
end
/-- f(..): the written arguments,then the defaults dvs; E: what is wanted of an exception -/
def ze29 (sp : Sp) (dvs : List V) (E : XK) (t : TA) : TE:=fun σ H Q=>t σ H fun vs H1=>sp (vs++dvs) H1 Q E
/-- how the parameters are bound: us the positional arguments,kw the keywords' values by name,ds the defaults that fill up -/
def Binds (K : ay2) (fd : ey8) (ps : List Str) (ds : List Value) : Prop :=
 ∀ (s : Shared) (us : List Value),K.In s.heap->(us++ds).length = ps.length->BindsTo s fd ⟨us,[]⟩ (ps.zip (us++ds))
/-- every parameter is given -/
theorem Binds.all {K : ay2} {fd : ey8} {ps : List Str} (h : ∀ us : List Value,us.length = ps.length->bindArgs fd ⟨us,[]⟩ = pure (ps.zip us)) : Binds K fd ps []:=fun s us _ hl=>by
 rw [hy4] at hl ⊢
 exact .of_eq (h us hl)
/-- an exception of a callee reaches what this body wants of exceptions -/
def Passes (CX : CXT) (X : Cx) (E : XK) : Prop:=∀ (pins : List (Addr × Obj)) (σ : St) (H : Hp) (s : Shared) (e : Value) (s' : Shared),Inv X pins σ H s->CX X.stack H s E e s'->X.xe e s'
section
variable {X : Cx} {CX : CXT} {k : Nat} {f C : Addr} {fd : ey8} {ps : List Str} {sp : Sp} {dvs : List V} {ds : List Value} {E : XK} {x m : Str} {p pos apos : Pos} {e o : Expr} {es : List Expr} {ta : TE} {t : TA}
/-- the callee runs -/
theorem zc97 {pins : List (Addr × Obj)} {σ : St} {H : Hp} {s : Shared} {Q : VK} {us : List Value} {vs : List V} (F : zj8 X.prog X.w X.K X.mg X.base CX k f fd ps sp) (hr : zt1 k X.A) (hb : Binds X.K fd ps ds) (hd : Vals dvs ds) (hx : Passes CX X E)
  (I : Inv X pins σ H s) (r : Vals vs us) (h : sp (vs++dvs) H Q E) : wpAny (model X.prog X.w) X.A (call (.ref f) us) (EP X pins σ Q) X.xe s:=by
 have r2 : Vals (vs++dvs) (us++ds):=r.append hd
 have hl : (us++ds).length = ps.length:=by rw [<- r2.length]; exact F.len _ _ _ _ h
 refine wpAny_call (codeAny_mono (F.run X.A X.stack s H ⟨us,[]⟩ (us++ds) (vs++dvs) Q E hr I.env0 (hb s us I.kIn hl) r2 h) fun r s' hq=>?_)
 cases r with
 | error e=>exact hx pins σ H s e s' I hq
 | ok fl =>
  cases fl with
  | ret u=>exact I.after hq
  | next=>exact my6 hq
  | brk=>exact my6 hq
  | cont=>exact my6 hq
theorem zb71 (F : zj8 X.prog X.w X.K X.mg X.base CX k f fd ps sp) (hr : zt1 k X.A) (hg : Gl X x) (hm : X.mg x = some (.ref f)) (hk : cy8 X.K (.ref f) = true) (hb : Binds X.K fd ps ds) (hd : Vals dvs ds) (hx : Passes CX X E)
  (ha : PA X (e :: es) t) (hdb : (x == ("__debug__" : Str)) = false:=by decide) (he : ey1 (e :: es) X.env = (false,eval e X.env) :: ey1 es X.env:=by rfl) (hpl : (backTo pos (ey1 es X.env)).any (·.1) = false:=by rfl) :
  PE X (.Call (.Name x p) (e :: es) [] pos) (ze29 sp dvs E t):=by
 intro pins s σ H Q I h
 refine wpAny_Call_Name_kw (zy0 I hg hm ?_ hdb)
 refine PySem.W.callWith_K (h₀:=X.base) I.ok.mod.kin hk (thn (ha pos pins s σ H _ I h) fun us s1 ⟨vs,H1,I1,r,q⟩=>⟨I1.kIn,?_⟩) he hpl
 exact zc97 F hr hb hd hx I1 r q
end
/-- names: the parameters first -/
structure zc0 (N P : List Str) (sc : Scope) : Prop where
 kind : sc.kind = .function
 co : sc.isCoroutine = false
 gen : sc.isGenerator = false
 nd : N.Nodup
 pre : N.take P.length = P
 par : ∀ x∈P,sc.names.lookup x = some .local \/ sc.names.lookup x = some .cell
 nofree : ∀ y∈sc.names,y.2 ≠ .free
theorem zC6 {kindOf : Str->Option sy2} {x : Str} : ∀ {binds : List (Str × Value)} {m : Str->Option Value},(∀ v,(x,v) ∉ binds)->bindL kindOf binds m x = m x
 | [],_,_=>rfl
 | (n,v) :: r,m,h=>by
  unfold bindL
  rw [zC6 fun w hw=>h w (by8 _ hw)]
  split
  ·have : x ≠ n:=by rintro rfl; exact h v by5
   simp [this]
  ·rfl
theorem zC7 {kindOf : Str->Option sy2} {x : Str} : ∀ {binds : List (Str × Value)} {m : Str->Option Value},(∀ v,(x,v) ∉ binds)->bindC kindOf binds m x = m x
 | [],_,_=>rfl
 | (n,v) :: r,m,h=>by
  unfold bindC
  rw [zC7 fun w hw=>h w (by8 _ hw)]
  split
  ·rfl
  ·have : x ≠ n:=by rintro rfl; exact h v by5
   simp [this]
theorem zC8 {kindOf : Str->Option sy2} {x : Str} {v : Value} : ∀ {P : List Str} {vs : List Value} {i : Nat} {m : Str->Option Value},P.Nodup->P[i]? = some x->vs[i]? = some v->kindOf x = some .local ->
  bindL kindOf (P.zip vs) m x = some v
 | [],_,_,_,_,h,_,_=>by simp at h
 | _ :: _,[],_,_,_,_,h,_=>by simp at h
 | p :: P,w :: vs,0,m,nd,h1,h2,hk=>by
  simp at h1 h2; subst h1; subst h2
  show bindL kindOf ((p,w) :: P.zip vs) m p = _
  unfold bindL
  rw [zC6 fun v hv=>(ny9.mp nd).1 (ky7 hv).1,if_pos hk]
  simp
 | p :: P,w :: vs,i + 1,m,nd,h1,h2,hk=>by
  show bindL kindOf ((p,w) :: P.zip vs) m x = _
  unfold bindL
  exact zC8 (i:=i) (ny9.mp nd).2 (by simpa using h1) (by simpa using h2) hk
theorem zC9 {kindOf : Str->Option sy2} {x : Str} {v : Value} : ∀ {P : List Str} {vs : List Value} {i : Nat} {m : Str->Option Value},P.Nodup->P[i]? = some x->vs[i]? = some v->kindOf x ≠ some .local ->
  bindC kindOf (P.zip vs) m x = some v
 | [],_,_,_,_,h,_,_=>by simp at h
 | _ :: _,[],_,_,_,_,h,_=>by simp at h
 | p :: P,w :: vs,0,m,nd,h1,h2,hk=>by
  simp at h1 h2; subst h1; subst h2
  show bindC kindOf ((p,w) :: P.zip vs) m p = _
  unfold bindC
  rw [zC7 fun v hv=>(ny9.mp nd).1 (ky7 hv).1,if_neg hk]
  simp
 | p :: P,w :: vs,i + 1,m,nd,h1,h2,hk=>by
  show bindC kindOf ((p,w) :: P.zip vs) m x = _
  unfold bindC
  exact zC9 (i:=i) (ny9.mp nd).2 (by simpa using h1) (by simpa using h2) hk
/-- the names' values at the entry -/
def start (N : List Str) (vs : List V) : St:=vs.map some++ky6 (N.length - vs.length) none
/-- the context of a def's body,at its entry; an exception leaves the frame,then lies as CX says -/
def zN8 (CX : CXT) (P : dy7) (w : World) (K : ay2) (mg : Str->Option Value) (base : Heap) (N : List Str) (qual : Str) (scope : Scope) (f : Addr) (cd : Value) (A : Around) (outer : List Env) (s : Shared) (H : Hp) (E : XK) : Cx where
 prog:=P
 w:=w
 K:=K
 mg:=mg
 base:=base
 A:=A.deeper (envOfC qual scope s.heap.objs.size f cd)
 N:=N
 s₀:=s
 H₀:=H
 env:=envOfC qual scope s.heap.objs.size f cd
 outer:=outer
 stack:=envOfC qual scope s.heap.objs.size f cd :: outer
 ex:=[]
 calm:=true
 fn:=fun _=>true
 pn:=[]
 xe:=fun e s'=>wpAny (model P w) (A.deeper (envOfC qual scope s.heap.objs.size f cd)) (leaving (envOfC qual scope s.heap.objs.size f cd) e) (fun _ s''=>CX outer H s E e s'') (fun e' s''=>CX outer H s E e' s'') s'
theorem zJ2 {sc : Scope} {n : Nat} {x : Str} (h : sc.names.lookup x = some .cell) : ∃ c,(cellsFrom n sc.names []).lookup x = some c:=by
 have q:=PySem.W.cellsFrom_some sc.names n [] (.inl h)
 exact Option.isSome_iff_exists.mp q
theorem zT6 {CX : CXT} {P : dy7} {w : World} {K : ay2} {mg : Str->Option Value} {base : Heap} {N ps : List Str} {qual : Str} {scope : Scope} {f : Addr} {cd : Value} {A : Around} {outer : List Env} {s s1 : Shared} {H : Hp} {E : XK} {us : List Value} {vs : List V}
  (S : zc0 N ps scope) (hd : A.handled = none) (e0 : Env0 P w K mg base A outer s H) (hl : vs.length = ps.length) (r : Vals vs us)
  (x : InCallC s s.heap.objs.size (bindL (envOfC qual scope s.heap.objs.size f cd).kindOf (ps.zip us) fun _=>none) (cellsFrom (s.heap.objs.size + 1) scope.names []) (bindC (envOfC qual scope s.heap.objs.size f cd).kindOf (ps.zip us) fun _=>none) s1) :
  Inv (zN8 CX P w K mg base N qual scope f cd A outer s H E) [] (start N vs) H s1:=by
 have hpl : ps.length <= N.length:=by have:=congrArg List.length S.pre; rw [iy2] at this; omega
 obtain ⟨h1,tk,rfl,hk⟩:=x.done
 have noA : ∀ b : Addr,b ∉ (zN8 CX P w K mg base N qual scope f cd A outer s H E).ex:=fun b z=>absurd (show b∈([] : List Addr) from z) (by simp)
 refine ⟨⟨e0.mod,S.kind,rfl,rfl,ay5 _,fun y z c h1 h2=>?_,fun y hy=>?_,fun y c _ h=>?_,fun _=>hd,Around.frames_deeper e0.frames,.inr ⟨rfl,rfl⟩,fun b z=>absurd z (noA b),e0.bs,e0.bsz,fun b _ _=>noA b,fun b z=>absurd z (noA b),e0.zR9,e0.frf⟩,
  rfl,e0.bare,Un.kept hk,⟨_,x.toInCall.ns,fun i y v h1 h2 h3=>?_⟩,fun y c h=>⟨_,x.cell y c h⟩,e0.hok.fresh (ay5 _),fun y c h=>?_,fun p hp=>absurd (show p∈([] : List (Addr × Obj)) from hp) (by simp),e0.hok.kept hk,?_⟩
 ·exact name_of_addr x.apart (iy1 h1) (iy1 h2)
 ·have hy : scope.names.lookup y = some .cell \/ scope.names.lookup y = some .free:=hy
  rcases hy with hy | hy
  ·exact zJ2 hy
  ·exact absurd rfl (S.nofree _ (iy1 hy))
 ·exact my8 (x.above y c (iy1 h))
 ·have hi : i < vs.length:=by
   unfold start at h2
   by_cases hi : i < vs.length
   ·exact hi
   ·rw [dy1 (by simpa using hi)] at h2
    rw [List.getElem?_replicate] at h2
    split at h2 <;> cases h2
  have ha : vs[i]? = some v:=by
   unfold start at h2
   rw [ay8 (by simpa using hi),ay4] at h2
   cases e : vs[i]? with
   | none=>rw [e] at h2; cases h2
   | some a=>rw [e] at h2; cases h2; rfl
  obtain ⟨u,hu,rv⟩:=r.get ha
  have hp : ps[i]? = some y:=by
   rw [<- S.pre,dy9 (by omega)]; exact h1
  have ndP : ps.Nodup:=by rw [<- S.pre]; exact S.nd.sublist (List.take_sublist _ _)
  refine ⟨u,rv,?_⟩
  rcases S.par y (by3 hp) with k | k
  ·exact .inl ⟨k,zC8 ndP hp hu k⟩
  ·obtain ⟨c,e⟩:=zJ2 (n:=s.heap.objs.size + 1) k
   refine .inr ⟨.inl k,c,e,?_⟩
   have q:=x.cell y c e
   rw [zC9 ndP hp hu (by show scope.names.lookup y ≠ _; rw [k]; decide)] at q
   exact q
 ·exact e0.hok.fresh (my8 (x.above y c (iy1 h)))
 ·unfold start
  show _ = N.length
  rw [cy5,ay3,List.length_replicate]
  omega
/-- THE RULE: a def (or a method) of the text,by its body. The body's reading t is chosen for each entry; it is run at the parameters' values -/
theorem zc98 {CX : CXT} {P : dy7} {w : World} {K : ay2} {mg : Str->Option Value} {base : Heap} {k : Nat} {f : Addr} {name qual : Str} {params : Arguments} {body : List Stmt} {scope : Scope} {dV kV doc pm cdv ct oc : Value} {an od : Option Addr}
  {osl : Array (Option Value)} {N ps : List Str} {sp : Sp} (lk : K.lookup f = some ⟨oc,od,.func (dy4 name qual params body scope dV kV doc pm an cdv ct),osl⟩) (hcd : dy0 K cdv qual = true) (S : zc0 N ps scope)
  (len : ∀ vs H Q E,sp vs H Q E->vs.length = ps.length)
  (hbody : ∀ (A : Around) (outer : List Env) (s : Shared) (H : Hp) (vs : List V) (Q : VK) (E : XK),zt1 k (A.deeper (envOfC qual scope s.heap.objs.size f cdv))->sp vs H Q E ->
   ∃ t,PSs (zN8 CX P w K mg base N qual scope f cdv A outer s H E) body t /\ t { nx:=fun _ H'=>Q .non H',rt:=Q } (start N vs) H) :
  zj8 P w K mg base CX (k + 1) f (dy4 name qual params body scope dV kV doc pm an cdv ct) ps sp:=by
 refine ⟨len,fun A outer s H args us vs Q E hr e0 hb r hsp=>?_⟩
 have hl:=len _ _ _ _ hsp
 have KX : K.In s.heap:=e0.mod.kin.keeps fun b o e=>(e0.bs b o e).1
 have lim : s.heap.NoLimit:=e0.mod.nolimit.keeps fun b o e=>(e0.bs b o e).1
 have hkind : ∀ y∈ps.zip us,scope.names.lookup y.1 = some .local \/ (scope.names.lookup y.1 = some .cell /\ ((cellsFrom (s.heap.objs.size + 1) scope.names []).lookup y.1).isSome = true):=fun ⟨n,v⟩ hy=>by
  rcases S.par n (ky7 hy).1 with q | q
  ·exact .inl q
  ·exact .inr ⟨q,PySem.W.cellsFrom_some _ _ _ (.inl q)⟩
 refine codeAny_call_function hr.depth (KX _ _ lk) rfl S.co S.gen rfl (PySem.W.codeRec_of KX hcd) (hb _ _ _ _ ?_)
 refine wpAny_newFunctionEnv_cells S.kind hkind fun env he s1 x=>?_
 subst he
 refine ⟨lim.keeps x.toInCall.keep,codeAny_func ?_⟩
 obtain ⟨t,ht,hq⟩:=hbody A outer s H vs Q E (hr.deeper _) hsp
 have I : Inv (zN8 CX P w K mg base N qual scope f cdv A outer s H E) [] (start N vs) H s1:=zT6 S hr.hd e0 hl r x
 refine ly2 (ht [] s1 (start N vs) H _ I hq) (fun fl s' hs=>?_) fun e s' hs=>hs
 have fin : ∀ {σ' : St} {H' : Hp} {v : V} {u : Value},Inv (zN8 CX P w K mg base N qual scope f cdv A outer s H E) [] σ' H' s'->RelV v u->Q v H'->CE outer P w H s Q u s' :=
  fun {σ' H' v u} J rv q=>⟨v,H',J.os,J.bare,J.base,J.hok,rv,q⟩
 cases fl with
 | ret u =>
  obtain ⟨v,σ',H',J,rv,q⟩:=hs
  exact fin J rv q
 | next =>
  obtain ⟨σ',H',J,q⟩:=hs
  exact fin (v:=V.non) (u:=fy3) J rfl q
 | brk =>
  obtain ⟨_,_,_,q⟩:=hs
  exact my6 q
 | cont =>
  obtain ⟨_,_,_,q⟩:=hs
  exact my6 q
section
variable {X : Cx} {x : Str} {p pos : Pos} {e : Expr} {es : List Expr} {t : TA} {id T : String} {r : List V->Hp->VK->Prop}
def tCB (r : List V->Hp->VK->Prop) (t : TA) : TE:=fun σ H Q=>t σ H fun vs H1=>r vs H1 Q
/-- f(e,..),f a built-in function -/
theorem zy3 (hc : zl1 X (.builtin id) r) (hg : Gl X x) (hm : X.mg x = none) (hv : ey7 x = some (.builtin id)) (ha : PA X (e :: es) t) (hn : x ≠ "__name__" := by decide) (hdb : (x == ("__debug__" : Str)) = false:=by decide)
  (he : ey1 (e :: es) X.env = (false,eval e X.env) :: ey1 es X.env:=by rfl) (hpl : (backTo pos (ey1 es X.env)).any (·.1) = false:=by rfl) : PE X (.Call (.Name x p) (e :: es) [] pos) (tCB r t):=by
 intro pins s σ H Q I h
 refine wpAny_Call_Name_kw (zw4 I hg hm hv ?_ hn hdb)
 exact PyProof.Rows.callWith_builtin1 (thn (ha pos pins s σ H _ I h) fun us s1 ⟨vs,H1,I1,r1,q1⟩=>hc pins s1 σ H1 vs us Q I1 r1 q1) he hpl
/-- T(e,..),T a built-in type -/
theorem zp2 (hc : zl1 X (.type T) r) (hg : Gl X x) (hm : X.mg x = none) (hv : ey7 x = some (.type T)) (ha : PA X (e :: es) t) (hn : x ≠ "__name__" := by decide) (hdb : (x == ("__debug__" : Str)) = false:=by decide)
  (he : ey1 (e :: es) X.env = (false,eval e X.env) :: ey1 es X.env:=by rfl) (hpl : (backTo pos (ey1 es X.env)).any (·.1) = false:=by rfl) : PE X (.Call (.Name x p) (e :: es) [] pos) (tCB r t):=by
 intro pins s σ H Q I h
 refine wpAny_Call_Name_kw (zw4 I hg hm hv ?_ hn hdb)
 exact my3 (thn (ha pos pins s σ H _ I h) fun us s1 ⟨vs,H1,I1,r1,q1⟩=>hc pins s1 σ H1 vs us Q I1 r1 q1) he hpl
end
end L2
namespace HT
open PySem PyProof.Rows
section
variable {prog : dy7} {w : World} {A : Around} {E : Value->Shared->Prop} {s : Shared}
/-- t + u,t not empty -/
theorem zb72 {t b : Addr} {vs ws : List Value} {Q : Value->Shared->Prop} (ht : IsTup s.heap t vs.toArray) (hb : IsTup s.heap b ws.toArray) (hv : vs ≠ [])
  (h1 : ws = []->Q (.ref t) s) (h2 : ws ≠ []->Q (.ref s.heap.objs.size) { s with heap:=s.heap.push { cls:=.type "tuple",data:=.seq (vs++ws).toArray } })
  (hsz : vs.length + ws.length <= by0) : wpAny (model prog w) A (jy5 .Add (.ref t) (.ref b)) Q E s:=by
 obtain ⟨⟨cls,dd,data,sl⟩,ho,hc,n,hd⟩:=id ht
 obtain ⟨⟨cls2,dd2,data2,sl2⟩,ho2,hc2,n2,hd2⟩:=id hb
 simp only at hc hd hc2 hd2
 subst hc hd hc2 hd2
 have e : vs.toArray++ws.toArray = (vs++ws).toArray:=by simp
 by_cases hw : ws = []
 ·exact concat_meets ⟨_,ho,rfl⟩ ⟨_,ho2,rfl⟩ noFill_tuple_add seq_tuple_add PySem.F.slot_tuple_add PySem.F.entry_tuple_add (PySem.F.args_tuple_add_2 _ _)
   (tuple_addW1 t b vs.toArray ws.toArray n n2 dd dd2 sl sl2 (by simpa using hv) (by simp [hw])) ⟨ho,ho2,h1 hw⟩
 ·refine concat_meets ⟨_,ho,rfl⟩ ⟨_,ho2,rfl⟩ noFill_tuple_add seq_tuple_add PySem.F.slot_tuple_add PySem.F.entry_tuple_add (PySem.F.args_tuple_add_2 _ _)
   (tuple_addW2 t b vs.toArray ws.toArray n n2 dd dd2 sl sl2 (by simpa using hv) (by simpa using hw) (by rw [by6,by6]; exact hsz)) ⟨ho,ho2,?_⟩
  rw [e]
  exact h2 hw
/-- a slice's bound as a place among n (d where it is left out) -/
def sIx (n d : Nat) : Option Int->Nat
 | none=>d
 | some v=>if v < 0 then (v + (n : Int)).toNat else min v.toNat n
theorem zT7 (n d k : Nat) : sIx n d (some (k : Int)) = min k n:=by
 show (if (k : Int) < 0 then ((k : Int) + (n : Int)).toNat else min (k : Int).toNat n) = min k n
 rw [if_neg (by omega),hy1]
theorem zc99 (n d : Nat) (hd : d <= n) (o : Option Int) : sIx n d o <= n:=by
 cases o with
 | none=>exact hd
 | some v =>
  show (if v < 0 then (v + (n : Int)).toNat else min v.toNat n) <= n
  by_cases hv : v < 0
  ·rw [if_pos hv]; omega
  ·rw [if_neg hv]; exact ry3 _ _
theorem zT8 (v : Int) (n d : Nat) : (if v < 0 then max (v + (n : Int)) 0 else min v (n : Int)) = ((sIx n d (some v) : Nat) : Int):=by
 show (if v < 0 then max (v + (n : Int)) 0 else min v (n : Int)) = (((if v < 0 then (v + (n : Int)).toNat else min v.toNat n) : Nat) : Int)
 by_cases hv : v < 0
 ·simp only [if_pos hv]; omega
 ·simp only [if_neg hv]; omega
theorem zN9 (lo hi : Option Int) (n : Nat) : qy9 lo hi 1 (n : Int) = (((sIx n 0 lo : Nat) : Int),((sIx n n hi : Nat) : Int)):=by
 have h1 : ¬ ((1 : Int) < 0):=by omega
 unfold Builtin.Slice.sliceAdjust
 simp only [h1,if_false]
 refine Prod.ext ?_ ?_
 ·cases lo with
  | none=>rfl
  | some v=>exact zT8 v n 0
 ·cases hi with
  | none=>rfl
  | some v=>exact zT8 v n n
theorem zO0 (i j : Nat) : ny3 (i : Int) (j : Int) 1 = j - i:=by
 unfold Builtin.Slice.slicePlaces
 have h1 : (1 : Int) > 0:=by omega
 simp only [h1,if_true,Int.ediv_one]
 split <;> omega
theorem zw6 {v : Value} {o : Option Int} {Q : Option Int->Shared->Prop} (p : IsPart v o) (h : Q o s) : wpAny (model prog w) A (Builtin.Slice.slicePartIndex v) Q E s:=by
 cases p with
 | none=>exact slicePart_none h
 | int i t=>exact slicePart_int h
theorem zm2 {sl : Addr} {vl vu : Value} {lo hi : Option Int} {n : Nat} {Q : Int × Int × Nat->Shared->Prop} (hs : s.heap.IsSliceOf sl vl vu .none) (pl : IsPart vl lo) (pu : IsPart vu hi)
  (h : Q (((sIx n 0 lo : Nat) : Int),1,sIx n n hi - sIx n 0 lo) s) : wpAny (model prog w) A (Builtin.Slice.sliceApplied (.ref sl) (pure (n : Int))) Q E s:=by
 obtain ⟨os,hos,hcs,hds⟩:=id hs
 unfold Builtin.Slice.sliceApplied Builtin.Slice.sliceFields
 refine ay1 (ay1 (iy8 hos hds (x:=vl) rfl (ay1 (iy8 hos hds (x:=vu) rfl (ay1 (iy8 hos hds (x:=.none) rfl (ay9 ?_)))))))
 refine ay1 (slicePart_none ?_)
 show wpAny _ _ (if ((1 : Int) == 0) = true then _ else _) _ _ s
 rw [if_neg (by decide)]
 refine ay1 (zw6 pl (ay1 (zw6 pu (ay1 (ay9 ?_)))))
 show wpAny _ _ (match qy9 lo hi 1 (n : Int) with | (lo,hi)=>pure (lo,(1 : Int),ny3 lo hi 1)) _ _ s
 rw [zN9 lo hi n]
 show wpAny _ _ (pure (((sIx n 0 lo : Nat) : Int),(1 : Int),ny3 ((sIx n 0 lo : Nat) : Int) ((sIx n n hi : Nat) : Int) 1)) _ _ s
 rw [zO0]
 exact ay9 h
theorem za52 (xs : Array Value) (i k : Nat) : ((ey5 k).filterMap fun (m : Nat)=>xs[((i : Int) + (m : Int) * 1).toNat]?).toArray = ((xs.toList.drop i).take k).toArray:=by
 have e : (fun (m : Nat)=>xs[((i : Int) + (m : Int) * 1).toNat]?) = fun m=>xs[i + m]?:=by
  funext m
  have : ((i : Int) + (m : Int) * 1).toNat = i + m:=by omega
  rw [this]
 rw [e]
 have:=pick_run xs i k
 rw [List.filterMap_map] at this
 have e2 : ((fun x=>xs[x]?) ∘ fun x=>i + x) = fun m=>xs[i + m]?:=rfl
 rw [e2] at this
 rw [this]
theorem zq8 {t sl : Addr} {items : Array Value} {vl vu : Value} {lo hi : Option Int} {Q : Value->Shared->Prop} (ht : IsTup s.heap t items) (hs : s.heap.IsSliceOf sl vl vu .none) (pl : IsPart vl lo) (pu : IsPart vu hi)
  (hw : ¬ (sIx items.size 0 lo = 0 /\ sIx items.size items.size hi = items.size))
  (h : Q (.ref s.heap.objs.size) { s with heap:=s.heap.push { cls:=.type "tuple",data:=.seq ((items.toList.drop (sIx items.size 0 lo)).take (sIx items.size items.size hi - sIx items.size 0 lo)).toArray } })
  (hsz : items.size <= by0) : wpAny (model prog w) A (getItem (.ref t) (.ref sl)) Q E s:=by
 have htake : sizeOk (.seq ((items.toList.drop (sIx items.size 0 lo)).take (sIx items.size items.size hi - sIx items.size 0 lo)).toArray):=by
  show ((items.toList.drop (sIx items.size 0 lo)).take (sIx items.size items.size hi - sIx items.size 0 lo)).toArray.size <= by0
  rw [by6,iy2,ky1,hy9]
  omega
 have hj : sIx items.size items.size hi <= items.size:=zc99 _ _ (ay5 _) hi
 obtain ⟨os,hos,hcs,hds⟩:=id hs
 have hTs : s.TypeIs (.ref sl) "slice" := ⟨os,hos,hcs⟩
 unfold getItem
 try with_reducible refine jy3 ?_
 first | refine ay1 (ay9 ?_) | skip
 refine ay1 (wpAny_sequenceKey ht.typeIs (by decide) ?_)
 refine ay1 (hy3 (name:=py9 "__getitem__") ht.typeIs hy2
  (hy5 hy2 ht.typeIs entry_tuple_getitem ?_ (args_tuple_getitem _ _)))
 show wpAny _ _ (Builtin.Tuple.tupleItemsOf (.ref t) >>= _) _ _ s
 refine ay1 (tupleItemsOf_ ht ?_)
 refine ay1 (wpAny_typeOf hTs ?_)
 rw [if_pos (by decide)]
 refine ay1 (zm2 hs pl pu ?_)
 have hno : ¬ ((((sIx items.size 0 lo : Nat) : Int) == 0 && (1 : Int) == 1 && (sIx items.size items.size hi - sIx items.size 0 lo) == items.size) = true):=by
  intro q
  rw [iy3,iy3] at q
  have q1 : ((sIx items.size 0 lo : Nat) : Int) = 0:=eq_of_beq q.1.1
  have q2 : sIx items.size items.size hi - sIx items.size 0 lo = items.size:=eq_of_beq q.2
  exact hw ⟨by omega,by omega⟩
 show wpAny _ _ (if (((sIx items.size 0 lo : Nat) : Int) == 0 && (1 : Int) == 1 && (sIx items.size items.size hi - sIx items.size 0 lo) == items.size) = true then _ else _) _ _ s
 rw [if_neg hno,za52]
 first
  | exact ay1 (m:=oy0 _) (gy3 (ay9 ⟨_,rfl,ay9 h⟩) htake)
  | exact ay1 (m:=oy0 _) (gy3 (ay1 (ay9 (ay9 ⟨_,rfl,ay9 h⟩))) htake)
  | exact ay1 (ay1 (m:=oy0 _) (gy3 (ay9 (ay9 ⟨_,rfl,ay9 h⟩)) htake))
  | exact ay1 (ay1 (m:=oy0 _) (gy3 (ay9 ⟨_,rfl,ay9 h⟩) htake))
end
end HT
namespace L2
open PySem PySem.Spec PyProof.Rows
abbrev TO:=St->Hp->(Option Int->Hp->Prop)->Prop
/-- a slice's part (left out,or an int) -/
def PO (X : Cx) (e : Option Expr) (t : TO) : Prop :=
 ∀ (pins : List (Addr × Obj)) (s : Shared) (σ : St) (H : Hp) (Q : Option Int->Hp->Prop),Inv X pins σ H s->t σ H Q ->
  wpAny (model X.prog X.w) X.A (evalPart e X.env) (fun u s'=>∃ o H',Inv X pins σ H' s' /\ IsPart u o /\ Q o H') X.xe s
def zb73 : TO:=fun _ H Q=>Q none H
def ze30 (t : TE) : TO:=fun σ H Q=>t σ H fun x H1=>∃ i,x = .int i /\ Q (some i) H1
section
variable {X : Cx} {e : Expr} {te : TE} {lo hi : Option Expr} {tl th : TO} {pos p2 : Pos}
theorem zb74 : PO X none zb73:=by
 intro pins s σ H Q I h
 rw [evalPart_none]
 exact ay9 ⟨none,H,I,.none,h⟩
theorem zb75 (h : PE X e te) : PO X (some e) (ze30 te):=by
 intro pins s σ H Q I hw
 rw [evalPart_some]
 refine thn (h pins s σ H _ I hw) fun u s1 ⟨x,H1,I1,r1,q1⟩=>?_
 obtain ⟨i,rfl,q⟩:=q1
 obtain ⟨t,rfl⟩:=r1
 exact ⟨some i,H1,I1,.int i t,q⟩
/-- what a slice of a value is,by values: the slice object stands at sl -/
def SlR (X : Cx) (r : V->Option Int->Option Int->Hp->VK->Prop) : Prop :=
 ∀ (pins : List (Addr × Obj)) (s : Shared) (σ : St) (H : Hp) (x : V) (v vl vu : Value) (lo hi : Option Int) (sl : Addr) (Q : VK),Inv X pins σ H s->RelV x v->s.heap.IsSliceOf sl vl vu .none->IsPart vl lo->IsPart vu hi->r x lo hi H Q ->
  ∃ T id,typeLookup (.type T) "__getitem__" = pure (some (.builtin id)) /\ s.TypeIs v T /\ wpAny (model X.prog X.w) X.A (getItem v (.ref sl)) (EP X pins σ Q) X.xe s
def tSl (r : V->Option Int->Option Int->Hp->VK->Prop) (te : TE) (tl th : TO) : TE:=fun σ H Q=>te σ H fun x H1=>tl σ H1 fun l H2=>th σ H2 fun u H3=>r x l u H3 Q
/-- a[lo:hi],any a -/
theorem za53 {r : V->Option Int->Option Int->Hp->VK->Prop} (hr : SlR X r) (he : PE X e te) (hl : PO X lo tl) (hu : PO X hi th) : PE X (.Subscript e (.Slice lo hi none p2) pos) (tSl r te tl th):=by
 intro pins s σ H Q I h
 refine Subscript_ (thn (he pins s σ H _ I h) fun v s1 ⟨x,H1,I1,r1,q1⟩=>?_)
 refine wpAny_Slice (thn (hl pins s1 σ H1 _ I1 q1) fun vl s2 ⟨l,H2,I2,pl,q2⟩=>thn (hu pins s2 σ H2 _ I2 q2) fun vu s3 ⟨u,H3,I3,pu,q3⟩=>?_)
 rw [evalPart_none]
 refine ay9 ?_
 have I4 : Inv X pins σ H3 { s3 with heap:=s3.heap.push { cls:=.type "slice",data:=.fields #[vl,vu,.none] } }:=I3.kept (t':=s3.toks) fun b ob q=>ay6 _ q
 obtain ⟨T,id,hT,ht,hg⟩:=hr pins { s3 with heap:=s3.heap.push { cls:=.type "slice",data:=.fields #[vl,vu,.none] } } σ H3 x v vl vu l u s3.heap.objs.size Q I4 r1 (Heap.IsSliceOf.new ..) pl pu q3
 show wpAny (model X.prog X.w) X.A (subscriptTail e (.Slice lo hi none p2) v (.ref s3.heap.objs.size)) (EP X pins σ Q) X.xe { s3 with heap:=s3.heap.push { cls:=.type "slice",data:=.fields #[vl,vu,.none] } }
 exact tail_any (ops:=[.ref s3.heap.objs.size,v]) ht hT hg (by with_unfolding_all rfl)
/-- the items of xs[lo:hi] -/
def zO1 (xs : List V) (lo hi : Option Int) : List V:=(xs.drop (HT.sIx xs.length 0 lo)).take (HT.sIx xs.length xs.length hi - HT.sIx xs.length 0 lo)
theorem zt3 (xs : List V) (lo hi : Option Int) : (zO1 xs lo hi).length <= xs.length:=by
 unfold zO1
 rw [iy2,ky1]
 omega
/-- t[lo:hi],not the whole of it (the whole would be t itself) -/
def rSlT (K : ay2) : V->Option Int->Option Int->Hp->VK->Prop:=fun x lo hi H Q=>∃ a xs,x = .ref a /\ SqT K H a xs /\
 ¬ (HT.sIx xs.length 0 lo = 0 /\ HT.sIx xs.length xs.length hi = xs.length) /\ ∀ p,H p = none->Q (.ref p) (upd H p (.tup (zO1 xs lo hi)))
theorem zb30 : SlR X (rSlT X.K):=by
 intro pins s σ H x v vl vu lo hi sl Q I rx hs pl pu h
 obtain ⟨a,xs,rfl,hx,hw,q⟩:=h
 cases rx
 obtain ⟨its,r,ht,hz⟩:=I.tuple hx
 have hlen : its.toArray.size = xs.length:=by rw [by6]; exact r.length.symm
 refine ⟨"tuple",_,hy2.lookup,ht.typeIs,?_⟩
 refine HT.zq8 ht hs pl pu (by rw [hlen]; exact hw) ?_ (by rw [hlen]; exact hz)
 rw [hlen]
 refine ⟨.ref s.heap.objs.size,_,I.laid (t':=s.toks) (o:=.tup (zO1 xs lo hi)) (fun b ob q=>ay6 _ q) (ay5 _) ?_,rfl,q _ (I.hok.fresh (ay5 _))⟩
 exact ⟨cy6 (zt3 xs lo hi) hz,_,(r.drop (HT.sIx xs.length 0 lo)).take (HT.sIx xs.length xs.length hi - HT.sIx xs.length 0 lo),IsTup.new _ _⟩
/-- t + u,t not empty: u empty gives t itself -/
def ze31 (K : ay2) : R2:=fun x y H Q=>∃ a b xs ys,x = .ref a /\ y = .ref b /\ SqT K H a xs /\ SqT K H b ys /\ xs ≠ [] /\ xs.length + ys.length <= by0 /\
 (ys = []->Q (.ref a) H) /\ (ys ≠ []->∀ p,H p = none->Q (.ref p) (upd H p (.tup (xs++ys))))
theorem Vals.zy4 {xs : List V} {us : List Value} (r : Vals xs us) : us = [] ↔ xs = []:=by
 cases r with
 | nil=>simp
 | cons _ _=>simp
theorem zb76 : OpR X (jy5 .Add) (ze31 X.K):=by
 intro pins s σ H x y v u Q I rx ry h
 obtain ⟨a,b,xs,ys,rfl,rfl,ha,hb,hx,hz,q1,q2⟩:=h
 cases rx
 cases ry
 obtain ⟨its,r1,p1,_⟩:=I.tuple ha
 obtain ⟨its2,r2,p2,_⟩:=I.tuple hb
 refine HT.zb72 p1 p2 (fun z=>hx (r1.zy4.mp z)) (fun z=>⟨.ref a,H,I,rfl,q1 (r2.zy4.mp z)⟩) (fun z=>?_) (by rw [<- r1.length,<- r2.length]; exact hz)
 refine ⟨.ref s.heap.objs.size,_,I.laid (t':=s.toks) (o:=.tup (xs++ys)) (fun b ob q=>ay6 _ q) (ay5 _) ?_,rfl,q2 (fun w=>z (r2.zy4.mpr w)) _ (I.hok.fresh (ay5 _))⟩
 exact ⟨by rw [cy5]; exact hz,_,r1.append r2,IsTup.new _ _⟩
end
/-- the place that an index of any sign means -/
def ixN (n : Nat) (i : Int) : Option Nat:=if 0 <= i then (if i < n then some i.toNat else none) else if -(n : Int) <= i then some (i + n).toNat else none
def atI {α : Type} (xs : List α) (i : Int) : Option α:=(ixN xs.length i).bind fun j=>xs[j]?
theorem zT9 {n : Nat} {i : Int} {j : Nat} (h : ixN n i = some j) : seqIndex? i n = some j /\ j < n /\ -(n : Int) <= i /\ i < n:=by
 unfold ixN at h
 by_cases h0 : 0 <= i
 ·rw [if_pos h0] at h
  by_cases h1 : i < n
  ·rw [if_pos h1] at h
   have e : i.toNat = j:=jy1 h
   exact ⟨by rw [seqIndex_of h0 h1,e],by omega,by omega,h1⟩
  ·rw [if_neg h1] at h; cases h
 ·rw [if_neg h0] at h
  by_cases h1 : -(n : Int) <= i
  ·rw [if_pos h1] at h
   have e : (i + n).toNat = j:=jy1 h
   exact ⟨by rw [seqIndex_neg (by omega) h1,e],by omega,h1,by omega⟩
  ·rw [if_neg h1] at h; cases h
theorem zG2 {α : Type} {xs : List α} {i : Int} {v : α} (h : atI xs i = some v) : ∃ j,seqIndex? i xs.length = some j /\ xs[j]? = some v /\ j < xs.length /\ -(xs.length : Int) <= i /\ i < xs.length:=by
 unfold atI at h
 cases e : ixN xs.length i with
 | none=>rw [e] at h; cases h
 | some j =>
  rw [e] at h
  obtain ⟨h1,h2,h3,h4⟩:=zT9 e
  exact ⟨j,h1,h,h2,h3,h4⟩
/-- what stands as an index of a plain subscript -/
def zU0 (b : Expr) : Prop:=∀ o i,subscripted b false o i = operate [o,i] (getItem o i)
/-- a subscript by values -/
def IxR (X : Cx) (r : R2) : Prop :=
 ∀ (value slice : Expr) (pins : List (Addr × Obj)) (s : Shared) (σ : St) (H : Hp) (x y : V) (v u : Value) (Q : VK),Inv X pins σ H s->RelV x v->RelV y u->r x y H Q ->
  subscripted slice false v u = operate [v,u] (getItem v u)->wpAny (model X.prog X.w) X.A (subscriptTail value slice v u) (EP X pins σ Q) X.xe s
/-- a call of a builtin's method by values: the receiver,the arguments -/
def MtR (X : Cx) (id : String) (r : V->List V->Hp->VK->Prop) : Prop :=
 ∀ (pins : List (Addr × Obj)) (s : Shared) (σ : St) (H : Hp) (x : V) (xs : List V) (v : Value) (us : List Value) (Q : VK),Inv X pins σ H s->RelV x v->Vals xs us->r x xs H Q ->
  wpAny (model X.prog X.w) X.A (call (.builtin id) (v :: us)) (EP X pins σ Q) X.xe s
section
variable {X : Cx} {a b : Expr} {ta tb : TE} {pos : Pos}
/-- a[b] -/
theorem ze32 {r : R2} (hr : IxR X r) (ha : PE X a ta) (hb : PE X b tb) (hs : zU0 b) : PE X (.Subscript a b pos) (tOp r ta tb):=by
 intro pins s σ H Q I h
 exact Subscript_ (binT ha hb I h fun v u s2 x y H2 I2 rx ry q=>hr a b pins s2 σ H2 x y v u Q I2 rx ry q (hs _ _))
def rIxL (K : ay2) : R2:=fun x y H Q=>∃ p xs i v,x = .ref p /\ y = .int i /\ SqL K H p xs /\ atI xs i = some v /\ Q v H
def rIxT (K : ay2) : R2:=fun x y H Q=>∃ p xs i v,x = .ref p /\ y = .int i /\ SqT K H p xs /\ atI xs i = some v /\ Q v H
def rIxS : R2:=fun x y H Q=>∃ z i c,x = .str z /\ y = .int i /\ z.length <= by0 /\ atI z.cps.toList i = some c /\ Q (.str ⟨#[c]⟩) H
theorem zG3 : IxR X (rIxL X.K):=by
 intro value slice pins s σ H x y v u Q I rx ry h hs
 obtain ⟨p,xs,i,z,rfl,rfl,hq,he,q⟩:=h
 cases rx
 obtain ⟨t,rfl⟩:=ry
 obtain ⟨its,r,pl,hz⟩:=I.list hq
 obtain ⟨j,h1,h2,h3,h4,h5⟩:=zG2 he
 obtain ⟨w,ew,rw'⟩:=r.get h2
 have hl:=r.length
 have hn:=zp1
 have fin : EP X pins σ Q w s:=⟨z,H,I,rw',q⟩
 by_cases h0 : 0 <= i
 ·have hj : i.toNat = j:=by
   rw [seqIndex_of h0 h5] at h1
   exact jy1 h1
  exact item_listR pl.isList h0 (by omega) (by rw [hj]; simpa using ew) fin hs
 ·have hj : (i + (its.toArray.size : Int)).toNat = j:=by
   rw [seqIndex_neg (by omega) h4] at h1
   rw [by6,<- hl]
   exact jy1 h1
  exact subscriptTail_builtinR (x:=w) pl.isList.typeIs slot_list_getitem.lookup
   (wpAny_getItem_list_neg (Q:=fun r s'=>r = w /\ EP X pins σ Q r s') pl.isList (by omega) (by rw [by6] <;> omega) (by omega) (by rw [hj]; simpa using ew) ⟨rfl,fin⟩) hs
theorem zd00 : IxR X (rIxT X.K):=by
 intro value slice pins s σ H x y v u Q I rx ry h hs
 obtain ⟨p,xs,i,z,rfl,rfl,hq,he,q⟩:=h
 cases rx
 obtain ⟨t,rfl⟩:=ry
 obtain ⟨its,r,pl,hz⟩:=I.tuple hq
 obtain ⟨j,h1,h2,h3,h4,h5⟩:=zG2 he
 obtain ⟨w,ew,rw'⟩:=r.get h2
 have hl:=r.length
 have hn:=zp1
 have fin : EP X pins σ Q w s:=⟨z,H,I,rw',q⟩
 exact subscriptTail_builtinR (x:=w) pl.typeIs slot_tuple_getitem.lookup
  (getItem_tuple (j:=j) (Q:=fun r s'=>r = w /\ EP X pins σ Q r s') pl (by omega) (by omega) (by rw [by6,<- hl]; exact h1) (by simpa using ew) ⟨rfl,fin⟩) hs
theorem zd01 : IxR X rIxS:=by
 intro value slice pins s σ H x y v u Q I rx ry h hs
 obtain ⟨z,i,c,rfl,rfl,hz,he,q⟩:=h
 obtain ⟨t,rfl⟩:=rx
 obtain ⟨t',rfl⟩:=ry
 obtain ⟨j,h1,h2,h3,h4,h5⟩:=zG2 he
 have hl : z.cps.toList.length = z.length:=by simp [Str.length]
 rw [hl] at h1 h4 h5
 have hn:=zp1
 exact tail_any (typeIs_str s z t) slot_str_getitem.lookup (getItem_str (c:=c) (by
  have e1 : decide (i < -(2 ^ 63 : Int)) = false:=decide_eq_false (by omega)
  have e2 : decide (i >= 2 ^ 63) = false:=decide_eq_false (by omega)
  rw [e1,e2,Bool.or_false]) (by rw [h1]; simpa using h2) ⟨.str ⟨#[c]⟩,H,I.tok _,⟨_,rfl⟩,q⟩) hs
/-- the list's object behind a store -/
theorem zO2 (its : List Value) (n j : Nat) (u : Value) : ly3 (·.setIfInBounds j u) { cls:=.type "list",data:=.seq its.toArray n } = { cls:=.type "list",data:=.seq (its.set j u).toArray n }:=by
 simp [ly3]
theorem Inv.lst {pins : List (Addr × Obj)} {σ : St} {H : Hp} {s : Shared} {p : Addr} {xs : List V} (I : Inv X pins σ H s) (h : H p = some (.lst xs)) :
  ∃ (its : List Value) (n : Nat),Vals xs its /\ s.heap.get? p = some { cls:=.type "list",data:=.seq its.toArray n } /\ xs.length <= by0:=by
 obtain ⟨z,its,n,r,e⟩:=I.hok p _ h
 exact ⟨its,n,r,e,z⟩
/-- the list at p is written by an update of its object -/
theorem Inv.zd02 {pins : List (Addr × Obj)} {σ : St} {H : Hp} {s : Shared} {p : Addr} {xs ys : List V} {its its' : List Value} {n n' : Nat} {f : Obj->Obj} (I : Inv X pins σ H s) (h : H p = some (.lst xs))
  (ho : s.heap.get? p = some { cls:=.type "list",data:=.seq its.toArray n }) (hf : f { cls:=.type "list",data:=.seq its.toArray n } = { cls:=.type "list",data:=.seq its'.toArray n' }) (r : Vals ys its') (hz : ys.length <= by0) (t : Nat) :
  Inv X pins σ (upd H p (.lst ys)) { s with heap:=s.heap.update p f,toks:=t }:=by
 have e : (s.heap.update p f).get? p = some { cls:=.type "list",data:=.seq its'.toArray n' }:=by
  rw [my9 f ho (by rw [hf] <;> rfl),hf]
 refine I.write (x:=p) (e:=p) (by rw [h]; trivial) (.inl rfl) (fun b u hb q=>(ky4 _ _ (iy5 hb)).trans q) ⟨_,e⟩ ?_
 exact ⟨hz,its',n',r,e⟩
def ze33 : V->V->V->Hp->(Hp->Prop)->Prop:=fun o i v H Q=>∃ p xs k j,o = .ref p /\ i = .int k /\ H p = some (.lst xs) /\ ixN xs.length k = some j /\ Q (upd H p (.lst (xs.set j v)))
theorem set_list : PSet X ze33:=by
 intro pins s σ H o i v ov iv u Q I ro ri rv h
 obtain ⟨p,xs,k,j,rfl,rfl,hp,hj,q⟩:=h
 cases ro
 obtain ⟨t,rfl⟩:=ri
 obtain ⟨its,n,r,ho,hz⟩:=I.lst hp
 obtain ⟨h1,h2,h3,h4⟩:=zT9 hj
 have hl:=r.length
 have hn:=zp1
 have I' : Inv X pins σ (upd H p (.lst (xs.set j v))) { s with heap:=s.heap.update p (ly3 (·.setIfInBounds j u)) } :=
  I.zd02 hp ho (zO2 its n j u) (r.set rv j) (by rw [ky8]; exact hz) s.toks
 by_cases h0 : 0 <= k
 ·have hk : k.toNat = j:=by
   rw [seqIndex_of h0 h4] at h1
   exact jy1 h1
  exact PySem.W.ki_setAt ho h0 (by omega) (by rw [by6,<- hl]; exact h4) (by rw [hk]; exact ⟨_,I',q⟩)
 ·have hk : (k + (its.toArray.size : Int)).toNat = j:=by
   rw [seqIndex_neg (by omega) h3] at h1
   rw [by6,<- hl]
   exact jy1 h1
  exact PySem.W.ki_setBack ho (by omega) (by rw [by6,<- hl]; exact h3) (by omega) (by rw [hk]; exact ⟨_,I',q⟩)
theorem zD0 (lo hi : Option Int) (n : Nat) : (sliceBounds lo hi none n).1 = ((HT.sIx n 0 lo : Nat) : Int) /\ (sliceBounds lo hi none n).2.1 = ((HT.sIx n n hi : Nat) : Int) /\ (sliceBounds lo hi none n).2.2 = 1:=by
 refine ⟨?_,?_,rfl⟩
 ·cases lo with
  | none=>simp [sliceBounds,HT.sIx]
  | some i =>
   simp only [sliceBounds,HT.sIx,Option.getD_none,show (1 : Int) > 0 by decide,if_true]
   by_cases h : i < 0
   ·simp only [h,if_true] <;> omega
   ·simp only [h,if_false] <;> omega
 ·cases hi with
  | none=>simp [sliceBounds,HT.sIx]
  | some i =>
   simp only [sliceBounds,HT.sIx,Option.getD_none,show (1 : Int) > 0 by decide,if_true]
   by_cases h : i < 0
   ·simp only [h,if_true] <;> omega
   ·simp only [h,if_false] <;> omega
theorem zy5 (its : List Value) (lo hi : Option Int) : slicePick its.toArray lo hi none = ((its.drop (HT.sIx its.length 0 lo)).take (HT.sIx its.length its.length hi - HT.sIx its.length 0 lo)).toArray:=by
 obtain ⟨h1,h2,h3⟩:=zD0 lo hi its.toArray.size
 unfold slicePick
 rw [h1,h2,h3]
 simp only [sliceRange_one,pick_run,by6] <;> rfl
/-- xs[lo:hi] of a list: a new list -/
def rSlL (K : ay2) : V->Option Int->Option Int->Hp->VK->Prop:=fun x lo hi H Q=>∃ a xs,x = .ref a /\ SqL K H a xs /\ ∀ p,H p = none->Q (.ref p) (upd H p (.lst (zO1 xs lo hi)))
theorem zU1 : SlR X (rSlL X.K):=by
 intro pins s σ H x v vl vu lo hi sl Q I rx hs pl pu h
 obtain ⟨a,xs,rfl,hx,q⟩:=h
 cases rx
 obtain ⟨its,r,ht,hz⟩:=I.list hx
 have hlen:=r.length
 refine ⟨"list",_,slot_list_getitem.lookup,ht.isList.typeIs,?_⟩
 refine wpAny_getItem_list_slice ht.isList hs pl pu .none (by simp) ?_ (by rw [by6] <;> omega)
 rw [zy5,<- hlen]
 refine ⟨.ref s.heap.objs.size,_,I.laid (t':=s.toks) (o:=.lst (zO1 xs lo hi)) (fun b ob q=>ay6 _ q) (ay5 _) ?_,rfl,q _ (I.hok.fresh (ay5 _))⟩
 exact ⟨cy6 (zt3 xs lo hi) hz,_,0,(r.drop (HT.sIx xs.length 0 lo)).take (HT.sIx xs.length xs.length hi - HT.sIx xs.length 0 lo),by2 _ rfl⟩
def zy6 : V->Bool
 | .non=>true
 | .bl _=>true
 | .int _=>true
 | .str _=>true
 | _=>false
/-- == of flat values -/
def eqV : V->V->Bool
 | .non,.non=>true
 | .bl a,.bl b=>a == b
 | .bl a,.int b=>(if a then 1 else 0) == b
 | .int a,.bl b=>a == (if b then 1 else 0)
 | .int a,.int b=>a == b
 | .str a,.str b=>a == b
 | _,_=>false
theorem zd03 {A : Around} {s : Shared} {y x : V} {u v : Value} (ry : RelV y u) (rx : RelV x v) (fy : zy6 y = true) (fx : zy6 x = true) : SeqAt.EqAt A s u v (eqV y x):=by
 cases y with
 | non =>
  cases ry
  cases x with
  | non=>cases rx; exact SeqAt.EqAt.same _
  | bl b=>cases rx; exact SeqAt.EqAt.none_bool b
  | int b=>obtain ⟨t,rfl⟩:=rx; exact SeqAt.EqAt.none_int b t
  | str b=>obtain ⟨t,rfl⟩:=rx; exact SeqAt.EqAt.none_str b t
  | _=>exact absurd (show false = true from fx) cy3
 | bl a =>
  cases ry
  cases x with
  | non=>cases rx; exact SeqAt.EqAt.bool_none a
  | bl b=>cases rx; exact SeqAt.EqAt.bool_bool a b
  | int b=>obtain ⟨t,rfl⟩:=rx; exact SeqAt.EqAt.bool_int a b t
  | str b=>obtain ⟨t,rfl⟩:=rx; exact SeqAt.EqAt.bool_str a b t
  | _=>exact absurd (show false = true from fx) cy3
 | int a =>
  obtain ⟨t',rfl⟩:=ry
  cases x with
  | non=>cases rx; exact SeqAt.EqAt.int_none a t'
  | bl b=>cases rx; exact SeqAt.EqAt.int_bool a t' b
  | int b=>obtain ⟨t,rfl⟩:=rx; exact SeqAt.EqAt.int_int a t' b t
  | str b=>obtain ⟨t,rfl⟩:=rx; exact SeqAt.EqAt.int_str a t' b t
  | _=>exact absurd (show false = true from fx) cy3
 | str a =>
  obtain ⟨t',rfl⟩:=ry
  cases x with
  | non=>cases rx; exact SeqAt.EqAt.str_none a t'
  | bl b=>cases rx; exact SeqAt.EqAt.str_bool a t' b
  | int b=>obtain ⟨t,rfl⟩:=rx; exact SeqAt.EqAt.str_int a t' b t
  | str b=>obtain ⟨t,rfl⟩:=rx; exact SeqAt.EqAt.str_str a t' b t
  | _=>exact absurd (show false = true from fx) cy3
 | _=>exact absurd (show false = true from fy) cy3
/-- the items' answers,read off the values (a value's own answer does not lean on its token) -/
def eqU (x : V) (u : Value) : Bool:=match u with
 | .none=>eqV .non x
 | .bool b=>eqV (.bl b) x
 | .int i _=>eqV (.int i) x
 | .str z _=>eqV (.str z) x
 | _=>false
theorem zb31 {x y : V} {u : Value} (r : RelV y u) (f : zy6 y = true) : eqU x u = eqV y x:=by
 cases y with
 | non=>cases r; rfl
 | bl b=>cases r; rfl
 | int i=>obtain ⟨t,rfl⟩:=r; rfl
 | str z=>obtain ⟨t,rfl⟩:=r; rfl
 | _=>exact absurd (show false = true from f) cy3
theorem zG4 {x : V} : ∀ {xs : List V} {us : List Value},Vals xs us->xs.all zy6 = true->us.any (eqU x) = xs.any fun y=>eqV y x
 | _,_,.nil,_=>rfl
 | y :: xs,u :: us,.cons r t,f=>by
  rw [List.all_cons,iy3] at f
  rw [qy7,qy7,zb31 r f.1,zG4 t f.2]
theorem zy7 {A : Around} {s : Shared} {x : V} {v : Value} (rx : RelV x v) (fx : zy6 x = true) : ∀ {xs : List V} {us : List Value},Vals xs us->xs.all zy6 = true->∀ u∈us,SeqAt.EqAt A s u v (eqU x u)
 | _,_,.nil,_=>fun u hu=>by cases hu
 | y :: xs,u :: us,.cons r t,f=>fun u' hu=>by
  rw [List.all_cons,iy3] at f
  rcases cy4.mp hu with rfl | hu
  ·rw [zb31 r f.1]; exact zd03 r rx f.1 fx
  ·exact zy7 rx fx t f.2 u' hu
def inV (x : V) (xs : List V) : Bool:=xs.any fun y=>eqV y x
/-- x in a list or tuple of flat items -/
def rIn (K : ay2) (neg : Bool) : R2:=fun x y H Q=>∃ p xs,y = .ref p /\ (SqL K H p xs \/ SqT K H p xs) /\ zy6 x = true /\ xs.all zy6 = true /\ Q (.bl (if neg then !inV x xs else inV x xs)) H
theorem zD1 : OpR X (fy7 .NotIn) (rIn X.K true):=by
 intro pins s σ H x y v u Q I rx ry h
 obtain ⟨p,xs,rfl,hq,fx,fs,q⟩:=h
 cases ry
 rcases hq with hq | hq
 ·obtain ⟨its,r,pl,hz⟩:=I.list hq
  refine SeqAt.notIn_listAt (eqU x) pl.isList (fun w hw=>zy7 rx fx r fs w (by simpa using hw)) ⟨.bl _,H,I,rfl,?_⟩
  rw [show its.toArray.any (eqU x) = its.any (eqU x) by simp,zG4 r fs]
  exact q
 ·obtain ⟨its,r,pl,hz⟩:=I.tuple hq
  refine SeqAt.notIn_tupleAt (eqU x) pl (fun w hw=>zy7 rx fx r fs w (by simpa using hw)) ⟨.bl _,H,I,rfl,?_⟩
  rw [show its.toArray.any (eqU x) = its.any (eqU x) by simp,zG4 r fs]
  exact q
theorem zm6 : zl1 X (.builtin "len") (fun xs H Q=>∃ p ys,xs = [.ref p] /\ (SqL X.K H p ys \/ SqT X.K H p ys) /\ Q (.int ys.length) H):=by
 intro pins s σ H xs us Q I r h
 obtain ⟨p,ys,rfl,hq,q⟩:=h
 obtain ⟨u,rfl,rx⟩:=vals1 r
 cases rx
 have hn:=zp1
 rcases hq with hq | hq
 ·obtain ⟨its,r',pl,hz⟩:=I.list hq
  have hlen:=r'.length
  exact Calls.call_len_list pl.isList (by simp only [by6] <;> omega) ⟨.int ys.length,H,I.tok _,⟨s.toks + 1,by rw [by6,hlen]⟩,q⟩
 ·obtain ⟨its,r',pl,hz⟩:=I.tuple hq
  have hlen:=r'.length
  exact len_tuple pl (by simp only [by6] <;> omega) ⟨.int ys.length,H,I.tok _,⟨s.toks + 1,by rw [by6,hlen]⟩,q⟩
theorem zD2 : zl1 X (.builtin "len") (fun xs H Q=>∃ z,xs = [.str z] /\ z.length <= by0 /\ Q (.int z.length) H):=by
 intro pins s σ H xs us Q I r h
 obtain ⟨z,rfl,hz,q⟩:=h
 obtain ⟨u,rfl,t,rfl⟩:=vals1 r
 have hn:=zp1
 exact len_str (by omega) ⟨.int z.length,H,I.tok _,⟨_,rfl⟩,q⟩
theorem zy8 : zl1 X (.type "tuple") (fun xs H Q=>∃ p ys,xs = [.ref p] /\ ((SqL X.K H p ys /\ ∀ l,H l = none->Q (.ref l) (upd H l (.tup ys))) \/ (SqT X.K H p ys /\ Q (.ref p) H))):=by
 intro pins s σ H xs us Q I r h
 obtain ⟨p,ys,rfl,h⟩:=h
 obtain ⟨u,rfl,rx⟩:=vals1 r
 cases rx
 rcases h with ⟨hq,q⟩ | ⟨hq,q⟩
 ·obtain ⟨its,r',pl,hz⟩:=I.list hq
  have hlen:=r'.length
  refine call_tuple_list pl.isList (fun h' kp=>?_) (by simp only [by6] <;> omega)
  have I1 : Inv X pins σ H { s with heap:=h' }:=I.kept (t':=s.toks) kp
  have I2 : Inv X pins σ (upd H h'.objs.size (.tup ys)) { s with heap:=h'.push { cls:=.type "tuple",data:=.seq its.toArray } } :=
   I1.laid (t':=s.toks) (fun b o e=>ay6 _ e) (ay5 _) (show zd2 X.prog X.w _ _ _ (.tup ys) from ⟨hz,its,r',IsTup.new _ _⟩)
  exact ⟨.ref h'.objs.size,_,I2,rfl,q _ (I1.hok.fresh (ay5 _))⟩
 ·obtain ⟨its,r',pl,hz⟩:=I.tuple hq
  exact call_tuple_same pl ⟨.ref p,H,I,rfl,q⟩
/-- the value is of that builtin type -/
def tyV (K : ay2) (T : String) (x : V) (H : Hp) : Prop:=match x with
 | .str _=>T = "str"
 | .int _=>T = "int"
 | .ref p=>(T = "list" /\ ∃ xs,SqL K H p xs) \/ (T = "tuple" /\ ∃ o,K.lookup p = some o /\ o.cls = .type "tuple" /\ o.dict = none) \/
   (T = "dict" /\ ((∃ kvs,H p = some (.dK kvs)) \/ ∃ kvs,H p = some (.dT kvs))) \/ (T = "set" /\ ∃ S n,H p = some (.set S n))
 | _=>False
theorem zd04 {pins : List (Addr × Obj)} {σ : St} {H : Hp} {s : Shared} {T : String} {x : V} {v : Value} (I : Inv X pins σ H s) (r : RelV x v) (ty : tyV X.K T x H) :
  s.TypeIs v T /\ ∀ a,v = .ref a->∃ ob,s.heap.get? a = some ob /\ ob.dict = none:=by
 cases x with
 | str z =>
  obtain ⟨t,rfl⟩:=r
  cases (show T = "str" from ty)
  exact ⟨typeIs_str s z t,fun _ e=>nomatch e⟩
 | int i =>
  obtain ⟨t,rfl⟩:=r
  cases (show T = "int" from ty)
  exact ⟨typeIs_int s i t,fun _ e=>nomatch e⟩
 | ref p =>
  cases r
  rcases ty with ⟨rfl,xs,hq⟩ | ⟨rfl,o,hk,hc,hd⟩ | ⟨rfl,hk⟩ | ⟨rfl,S,n,hk⟩
  ·obtain ⟨its,_,pl,_⟩:=I.list hq
   refine ⟨pl.isList.typeIs,fun a e=>?_⟩
   cases e
   obtain ⟨o,n,e,c,hd,_⟩:=pl
   exact ⟨o,e,hd⟩
  ·refine ⟨⟨o,I.kIn p o hk,hc⟩,fun a e=>?_⟩
   cases e
   exact ⟨o,I.kIn _ o hk,hd⟩
  ·have z : ∃ o,s.heap.get? p = some o /\ o.ExactDict:=by
    rcases hk with ⟨kvs,hk⟩ | ⟨kvs,hk⟩
    ·obtain ⟨_,_,_,_,o,_,_,e,ex,_⟩:=I.hok p _ hk
     exact ⟨o,e,ex⟩
    ·obtain ⟨_,_,_,_,o,_,_,e,ex,_⟩:=I.hok p _ hk
     exact ⟨o,e,ex⟩
   obtain ⟨o,e,ex⟩:=z
   refine ⟨⟨o,e,ex.1⟩,fun a e2=>?_⟩
   cases e2
   exact ⟨o,e,ex.2.1⟩
  ·obtain ⟨o,_,_,_,e,ex,_⟩:=I.hok p _ hk
   refine ⟨⟨o,e,ex.1⟩,fun a e2=>?_⟩
   cases e2
   exact ⟨o,e,ex.2.1⟩
 | _=>exact my6 ty
def tBM (K : ay2) (T : String) (r : V->List V->Hp->VK->Prop) (to : TE) (t : TA) : TE:=fun σ H Q=>to σ H fun x H1=>tyV K T x H1 /\ t σ H1 fun xs H2=>r x xs H2 Q
variable {o e : Expr} {es : List Expr} {to : TE} {t : TA} {name : Str} {apos cpos : Pos} {T id : String} {r : V->List V->Hp->VK->Prop}
theorem ze34 (pa : PlainAttrs T) (slot : Slot T name id) (hty : typeOf (.builtin id) = pure (.type "method_descriptor")) (hm : MtR X id r) (ho : PE X o to) (ha : PA X (e :: es) t)
  (hbase : attributeBase o name X.env (eval o X.env) = eval o X.env:=by rfl)
  (hfew : ((backTo cpos (ey1 (e :: es) X.env)).all (fun x=>!x.1) && (backToKw cpos (keywordEach [] X.env)).all (fun x=>x.1.isSome)
   && decide ((e :: es).length + ([] : List Keyword).length + (if ([] : List Keyword).isEmpty then 0 else 1) < 30)) = true:=by rfl)
  (hline : (apos.endLine == cpos.line) = true:=by rfl) (hs : ey1 (e :: es) X.env = (false,eval e X.env) :: ey1 es X.env:=by rfl) (hplain : (backTo cpos (ey1 es X.env)).any (·.1) = false:=by rfl) :
  PE X (.Call (.Attribute o name apos) (e :: es) [] cpos) (tBM X.K T r to t):=by
 intro pins s σ H Q I h
 refine wpAny_Call_method_late hbase hfew hline rfl (thn (ho pins s σ H _ I h) fun v s1 ⟨x,H1,I1,r1,ty,q1⟩=>?_)
 obtain ⟨h1,h2⟩:=zd04 I1 r1 ty
 refine ⟨T,id,pa,slot,hty,h1,h2,?_⟩
 have hA:=ha cpos pins s1 σ H1 _ I1 q1
 rw [hs] at hA ⊢
 refine Calls.callWith_builtin (by show (false || (backTo cpos (ey1 es X.env)).any (·.1)) = false; rw [hplain] <;> rfl) (Calls.evalArgs_plain ?_)
 exact thn hA fun us s2 ⟨vs,H2,I2,r2,q2⟩=>hm pins s2 σ H2 x vs v us Q I2 r1 r2 q2
end
def MtM (X : Cx) (id : String) (r : V->List V->Hp->VK->Prop) : Prop :=
 ∀ (pins : List (Addr × Obj)) (s : Shared) (σ : St) (H : Hp) (x : V) (xs : List V) (v : Value) (us : List Value) (Q : VK),Inv X pins σ H s->RelV x v->Vals xs us->r x xs H Q ->
  wpAny (model X.prog X.w) X.A (call (.builtin id) (v :: us)) (EP X pins σ Q) X.xe s
theorem Vals.one : ∀ {x : V} {us : List Value},Vals [x] us->∃ u,us = [u] /\ RelV x u
 | _,_,.cons r .nil=>⟨_,rfl,r⟩
theorem Vals.two : ∀ {x y : V} {us : List Value},Vals [x,y] us->∃ u v,us = [u,v] /\ RelV x u /\ RelV y v
 | _,_,_,.cons r (.cons q .nil)=>⟨_,_,rfl,r,q⟩
theorem Vals.eraseIdx : ∀ {xs : List V} {us : List Value} (i : Nat),Vals xs us->Vals (xs.eraseIdx i) (us.eraseIdx i)
 | _,_,_,.nil=>.nil
 | _,_,0,.cons _ t=>t
 | _,_,i + 1,.cons r t=>.cons r (Vals.eraseIdx i t)
theorem zt4 {α : Type} : ∀ (l : List α) (i : Nat),(l.eraseIdx i).length <= l.length
 | [],_=>ay5 _
 | _ :: _,0=>sy6 _
 | _ :: r,i + 1=>Nat.succ_le_succ (zt4 r i)
section
variable {X : Cx} {pins : List (Addr × Obj)} {σ : St} {H : Hp} {s : Shared} {l b : Addr} {xs ys zs : List V}
theorem Inv.lset {its its' : List Value} {n : Nat} {f : Array Value->Array Value} {t' : Nat} (I : Inv X pins σ H s) (hH : H l = some (.lst xs))
  (e : s.heap.get? l = some { cls:=.type "list",data:=.seq its.toArray n }) (hf : f its.toArray = its'.toArray) (hv : Vals ys its') (hz : ys.length <= by0) :
  Inv X pins σ (upd H l (.lst ys)) { s with heap:=s.heap.update l (ly3 f),toks:=t' }:=by
 have q:=PySem.IsL.update e f
 rw [hf] at q
 refine I.write (x:=l) (e:=l) (by rw [hH]; exact trivial) (.inl rfl) (fun b' u hb hu=>(ky4 s.heap (ly3 f) (iy5 hb)).trans hu) ⟨_,q⟩ ?_
 exact ⟨hz,its',_,hv,q⟩
theorem Inv.lnew {its : List Value} {t' : Nat} (I : Inv X pins σ H s) (hv : Vals ys its) (hz : ys.length <= by0) :
  Inv X pins σ (upd H s.heap.objs.size (.lst ys)) { s with heap:=s.heap.push { cls:=.type "list",data:=.seq its.toArray },toks:=t' } :=
 I.laid (fun _ _ q=>ay6 _ q) (ay5 _) ⟨hz,its,0,hv,by2 _ rfl⟩
theorem Inv.fresh (I : Inv X pins σ H s) : H s.heap.objs.size = none:=I.hok.fresh (ay5 _)
theorem Inv.lstM (I : Inv X pins σ H s) (hH : H l = some (.lst xs)) : xs.length <= by0 /\ ∃ (its : List Value) (n : Nat),Vals xs its /\ xs.length = its.length /\ s.heap.get? l = some { cls:=.type "list",data:=.seq its.toArray n }:=by
 obtain ⟨z,its,n,r,e⟩:=I.hok l _ hH
 exact ⟨z,its,n,r,r.length,e⟩
theorem za54 {n : Nat} (h : n <= by0) : ry8 n = false:=by
 unfold Builtin.List.listTooLong
 exact decide_eq_false (by omega)
end
section
variable {X : Cx}
def zb77 : V->List V->Hp->VK->Prop:=fun x vs H Q=>∃ l xs y,x = .ref l /\ vs = [y] /\ H l = some (.lst xs) /\ xs.length < by0 /\ Q .non (upd H l (.lst (xs++[y])))
theorem zU2 : MtM X "list.append" zb77:=by
 intro pins s σ H x vs v us Q I rx rv h
 obtain ⟨l,xs,y,rfl,rfl,hH,hz,q⟩:=h
 cases rx
 obtain ⟨u,rfl,ru⟩:=rv.one
 obtain ⟨z,its,n,r,hl,e⟩:=I.lstM hH
 refine call_meets F.slot_list_append ⟨_,e,rfl⟩ F.entry_list_append (F.args_list_append_2 _ _) (PySem.list_append l its.toArray n u (by rw [by6]; omega)) ⟨e,?_⟩
 refine ⟨.non,_,I.lset (its':=its++[u]) hH e (by simp) (r.append (.cons ru .nil)) ?_,rfl,q⟩
 rw [cy5,List.length_singleton]
 omega
def zd06 : V->List V->Hp->VK->Prop:=fun x vs H Q=>∃ l xs i k y,x = .ref l /\ vs = [.int i] /\ H l = some (.lst xs) /\ -(2 ^ 63) <= i /\ i < 2 ^ 63 /\ seqIndex? i xs.length = some k /\ xs[k]? = some y /\ Q y (upd H l (.lst (xs.eraseIdx k)))
theorem za55 : MtM X "list.pop" zd06:=by
 intro pins s σ H x vs v us Q I rx rv h
 obtain ⟨l,xs,i,k,y,rfl,rfl,hH,h1,h2,hk,hy,q⟩:=h
 cases rx
 obtain ⟨u,rfl,ru⟩:=rv.one
 obtain ⟨t,rfl⟩:=ru
 obtain ⟨z,its,n,r,hl,e⟩:=I.lstM hH
 obtain ⟨w,hw,rw'⟩:=r.get hy
 refine call_meets F.slot_list_pop ⟨_,e,rfl⟩ F.entry_list_pop (F.args_list_pop_2 _ _)
  (MeetsSeq.list_pop_at l its.toArray n i t k w (fitsIndex_both h1 h2) (by rw [by6,<- hl]; exact hk) (by rw [<- ny0]; exact hw) (by rw [by6]; omega)) ⟨e,?_⟩
 refine ⟨y,_,I.lset (its':=its.eraseIdx k) hH e ?_ (r.eraseIdx k) ?_,rw',q⟩
 ·show its.toArray.eraseIdxIfInBounds k = (its.eraseIdx k).toArray
  rw [List.eraseIdxIfInBounds_toArray]
 ·have:=zt4 xs k
  omega
end
end L2
namespace Att
open PySem PySem.W PySem.Calls PyProof.Rows
theorem zt5 {P : Params} {h : Heap} : ∀ (ns : List Int) (vs : List Value),WellAll P h vs (ns.map WData.int)->IntsAre vs ns:=by
 intro ns
 induction ns with
 | nil =>
  intro vs w
  rw [List.map_nil] at w
  cases w
  exact .nil
 | cons n ns ih =>
  intro vs w
  rw [fy4] at w
  cases w with
  | cons a b =>
   cases a
   exact .cons _ _ (ih _ b)
theorem zU3 {l : OpenLaw} {n : Nat} (hn : l.most = some n) {P : Params} {h : Heap} {args : List WData} {vals : List Value}
  (hpre : l.row.toRowW.claim.pre args = true) (hwl : WellAll P h vals args) :
  ∃ a vs ns,vals = [fy8 a] /\ args = [WData.list (ns.map WData.int)] /\ h.get? a = some { cls:=.type "list",data:=.seq vs.toArray } /\ IntsAre vs ns /\ ns.length <= n:=by
 have hsh : WShape.hasAll [] args [.list .int] = true:=(pre_splitW hpre).1
 have hc : l.pre.holds [] { args:=args } = true:=(pre_splitW hpre).2
 obtain ⟨d,r,rfl,h1,h2⟩:=hasAllW_cons hsh
 obtain rfl:=hasAllW_nil h2
 obtain ⟨xs,rfl,h3⟩:=hasW_list h1
 obtain ⟨ns,rfl⟩:=items_int h3
 have hlen : ns.length <= n:=by
  unfold OpenLaw.pre at hc
  have h4 : (WTm.not (.lt (.lit (.int (n : Int))) (.len (.arg 0)))).holds [] { args:=[.list (ns.map .int)] } = true:=by
   have h4:=(holds_andW hc).1
   rw [hn] at h4
   exact h4
  have h5:=condW_of h4 (w_not (w_lt w_lit (w_len_list (w_arg rfl))))
  rw [ay3] at h5
  refine Nat.le_of_not_lt fun q=>?_
  have q' : (n : Int) < ((ns.length : Nat) : Int):=by omega
  first
   | (rw [decide_eq_true q'] at h5; exact absurd h5 (by decide))
   | (simp at h5; omega)
 cases hwl with
 | cons w1 w2 =>
  cases w2
  cases w1 with
  | list ho hall=>exact ⟨_,_,ns,rfl,rfl,ho,zt5 ns _ hall,hlen⟩
theorem zU4 (l : OpenLaw) (args : List WData) : l.row.toRowW.claim.post args (.bool true) args = true :=
 postW_of (r:=l.row.toRowW) (X:=(true == true))
  (show WShape.has [] (.bool true) .bool = true by first | rfl | decide | simp [WShape.has,WShape.arms,WShape.armsAll])
  (show (WTm.eq .res (.lit (.bool true))).value [] { args:=args,res:=some (.bool true),after:=args } = some (.bool (true == true)) from w_eq_bool (w_res rfl) w_lit) rfl
end Att
namespace L2
open PySem PySem.Spec PyProof.Rows
theorem zD3 : ∀ {vs : List Value} {ns : List Int},IntsAre vs ns->Vals (ns.map V.int) vs
 | _,_,.nil=>.nil
 | _,_,.cons n t h=>.cons ⟨t,rfl⟩ (zD3 h)
/-- nothing is tracked but the script,known to the object (or it is an object of the module) -/
def Only (H : Hp) : Prop:=∀ b,H b = none \/ ∃ o xs,H b = some (.frz o (.lst xs))
/-- THE HEAD: the law's promise,at the heap behind the top. F,the promise of the law's def,may use that base is part of the heap (so K.In base,base.Ns mainGlobals mg stand in Mod) -/
theorem za56 {P : dy7} {w : World} {K : ay2} {mg mb : Str->Option Value} {CX : CXT} {k : Nat} {fa a : Addr} {fd : ey8} {x : Str} {sp : Sp} {s₁ : Shared} {vs : List Value} {ns : List Int}
  (KX : K.In s₁.heap) (hns : s₁.heap.Ns by7 mg) (hb : s₁.heap.Ns builtinsNs mb) (hbb : ∀ x : Str,x ≠ "__name__" -> mb x = ey7 x) (hlim : s₁.heap.NoLimit) (hg : s₁.gens = #[])
  (ha : s₁.heap.get? a = some { cls:=.type "list",data:=.seq vs.toArray }) (hi : IntsAre vs ns) (hl : ns.length <= by0) (hr : zt1 k callerA)
  (F : ∀ base : Heap,K.In base->base.Ns by7 mg->zj8 P w K mg base CX k fa fd [x] sp) (hbind : ∀ (s : Shared) (u : Value),BindsTo s fd ⟨[u],[]⟩ [(x,u)])
  (hsp : ∀ H : Hp,Only H->SqL K H a (ns.map V.int)->sp [.ref a] H (fun v _=>v = .bl true) fun _ _ _=>False)
  (hCX : ∀ H e s',CX [] H s₁ (fun _ _ _=>False) e s'->False) :
  codeAny (model P w) callerA (.call (.ref fa) ⟨[.ref a],[]⟩) (fun r s'=>r = .ok (.ret (.bool true)) /\ OldK s₁.heap s'.heap /\ s'.os = s₁.os /\ AllBare s'.gens) s₁:=by
 have rv:=zD3 hi
 have lenV:=hi.length
 -- from an abstract heap in which nothing but the script may be tracked
 have core : ∀ H : Hp,Only H->SqL K H a (ns.map V.int)->HOk P w H s₁.heap->(∀ b,H b ≠ none->b = a)->(H a ≠ none->K.lookup a = none) ->
   codeAny (model P w) callerA (.call (.ref fa) ⟨[.ref a],[]⟩) (fun r s'=>r = .ok (.ret (.bool true)) /\ OldK s₁.heap s'.heap /\ s'.os = s₁.os /\ AllBare s'.gens) s₁:=by
  intro H hO hS hok hA hK
  have base_of : ∀ {b : Addr} {o : Obj},s₁.heap.get? b = some o->H b = none->(hidT s₁.heap H).get? b = some o:=fun e n=>za42 e n
  have noA : ∀ {b : Addr} {o : Obj} {es : Array DictEntry} {ep : Nat},s₁.heap.get? b = some o->o.data = .dict es ep->H b = none:=fun {b o es ep} e d=>by
   cases q : H b with
   | none=>rfl
   | some u =>
    have e' : b = a:=hA b (by rw [q]; simp)
    subst e'
    rw [ha] at e; cases e
    have d' : Data.seq vs.toArray _ = Data.dict es ep:=d
    cases d'
  have nsK : ∀ {b : Addr} {m : Str->Option Value},s₁.heap.Ns b m->(hidT s₁.heap H).Ns b m:=fun {b m} ⟨o,es,ep,e,d,r⟩=>⟨o,es,ep,base_of e (noA e d),d,r⟩
  have hKb : K.In (hidT s₁.heap H):=fun b o e=>base_of (KX b o e) (by
   cases q : H b with
   | none=>rfl
   | some u =>
    have e' : b = a:=hA b (by rw [q]; simp)
    subst e'
    rw [hK (by rw [q]; simp)] at e; cases e)
  have hM : Mod K mg (hidT s₁.heap H):=⟨hKb,nsK hns,⟨mb,nsK hb,hbb⟩,let ⟨mc,h1,h2⟩:=hlim; ⟨mc,nsK h1,h2⟩⟩
  have e0 : Env0 P w K mg (hidT s₁.heap H) callerA [] s₁ H:=⟨rfl,hM,fun b o e=>zb60 e,Nat.le_of_eq (zR8 _ _),trivial,fun b hb=>absurd (show b∈([] : List Addr) from hb) (by simp),hok,.of_eq hg⟩
  refine codeAny_mono ((F _ hKb (nsK hns)).run callerA [] s₁ H ⟨[.ref a],[]⟩ [.ref a] [.ref a] _ _ hr e0 (hbind s₁ (.ref a)) (.cons rfl .nil) (hsp H hO hS)) fun r s' h=>?_
  cases r with
  | error e=>exact (hCX H e s' h).elim
  | ok fl =>
   cases fl with
   | next=>exact my6 h
   | brk=>exact my6 h
   | cont=>exact my6 h
   | ret u =>
    obtain ⟨v,H',os,bare,un,hok',r',q⟩:=h
    have q' : v = .bl true:=q
    subst q'
    obtain rfl : u = Value.bool true:=r'
    refine ⟨rfl,OldK.of_keep fun b o e=>?_,os,bare⟩
    cases q : H b with
    | none=>exact un.keep b o e q (by intro z; exact absurd (show b∈([] : List Addr) from z) (by simp)) (by simp)
    | some u =>
     rcases hO b with z | ⟨ob,xs,z⟩
     ·rw [q] at z; cases z
     ·have z2:=un.frzs b ob _ z
      obtain ⟨e1,_⟩:=hok b _ z
      obtain ⟨e2,_⟩:=hok' b _ z2
      rw [e] at e1; cases e1
      exact e2
 cases hk : K.lookup a with
 | some o =>
  -- the script is one of the module's own objects
  have e:=KX a o hk
  rw [ha] at e
  cases e
  refine core (fun _=>none) (fun _=>.inl rfl) (.inr ⟨_,vs.toArray,_,hk,rfl,rfl,rfl,by rw [by6,lenV]; exact hl,by simpa using rv⟩) (fun b u z=>by have z' : (none : Option HO) = some u:=z; cases z') (fun b z=>absurd rfl z) fun z=>absurd rfl z
 | none =>
  refine core (fun b=>if b = a then some (.frz { cls:=.type "list",data:=.seq vs.toArray } (.lst (ns.map V.int))) else none) (fun b=>?_) (.inl (.inr ⟨{ cls:=.type "list",data:=.seq vs.toArray },if_pos rfl⟩)) (fun b u z=>?_) (fun b z=>?_) fun _=>hk
  ·by_cases hb : b = a
   ·exact .inr ⟨_,_,if_pos hb⟩
   ·exact .inl (if_neg hb)
  ·by_cases hb : b = a
   ·have z':=(if_pos hb).symm.trans z
    cases z'
    subst hb
    exact ⟨ha,by rw [ay3]; exact hl,vs,_,rv,ha⟩
   ·have z':=(if_neg hb).symm.trans z
    cases z'
  ·by_cases hb : b = a
   ·exact hb
   ·exact absurd (if_neg hb) z
def zc1 (s : Stmt) : Arguments:=match s with
 | .FunctionDef _ a _ _ _ _ _ _ _ _=>a
 | _=>{ posonlyargs:=[],args:=[],vararg:=none,kwonlyargs:=[],kw_defaults:=[],kwarg:=none,defaults:=[] }
def za5 (s : Stmt) : List Stmt:=match s with
 | .FunctionDef _ _ b _ _ _ _ _ _ _=>b
 | _=>[]
def za0 (s : Stmt) : Scope:=match s with
 | .FunctionDef _ _ _ _ _ _ sc _ _ _=>sc
 | _=>{ kind:=.function,names:=[],isGenerator:=false,isCoroutine:=false }
abbrev CX0 : CXT:=fun _ _ _ _ _ _=>False
abbrev E0 : XK:=fun _ _ _=>False
theorem ze36 {X : Cx} : Passes CX0 X E0:=fun _ _ _ _ _ _ _ h=>h.elim
structure Fun (K : ay2) (x qual : Str) (st : Stmt) (f : Addr) (fd : ey8) : Prop where
 ex : ∃ (oc : Value) (od : Option Addr) (kV doc pm : Value) (an : Option Addr) (cdv ct : Value) (osl : Array (Option Value)),
  fd = dy4 x qual (zc1 st) (za5 st) (za0 st) .none kV doc pm an cdv ct /\ K.lookup f = some ⟨oc,od,.func fd,osl⟩ /\ dy0 K cdv qual = true
 kp : cy8 K (.ref f) = true
section
variable {P : dy7} {w : World} {K : ay2} {mg : Str->Option Value} {base : Heap}
/-- THE RULE for a def: its body as a term of rules,and the reading of that term -/
theorem Fun.ok {x qual : Str} {st : Stmt} {f : Addr} {fd : ey8} {N ps : List Str} {k : Nat} {sp : Sp} (F : Fun K x qual st f fd) (S : zc0 N ps (za0 st)) (len : ∀ vs H Q E,sp vs H Q E->vs.length = ps.length)
  (hbody : ∀ (cdv : Value) (A : Around) (outer : List Env) (s : Shared) (H : Hp) (vs : List V) (Q : VK) (E : XK),zt1 k (A.deeper (envOfC qual (za0 st) s.heap.objs.size f cdv))->sp vs H Q E ->
   ∃ t,PSs (zN8 CX0 P w K mg base N qual (za0 st) f cdv A outer s H E).nox (za5 st) t /\ t { nx:=fun _ H'=>Q .non H',rt:=Q } (start N vs) H) : zj8 P w K mg base CX0 (k + 1) f fd ps sp:=by
 obtain ⟨oc,od,kV,doc,pm,an,cdv,ct,osl,rfl,lk,hcd⟩:=F.ex
 refine zc98 lk hcd S len fun A outer s H vs Q E hr hsp=>?_
 obtain ⟨t,h,q⟩:=hbody cdv A outer s H vs Q E hr hsp
 exact ⟨t,h.nox,q⟩
/-- how its arguments bind (no defaults): h is «fun _ _ _ _ _ _ us hl=>match us,hl with | [_,_],_=>rfl»,one _ a parameter -/
theorem Fun.binds {x qual : Str} {st : Stmt} {f : Addr} {fd : ey8} {ps : List Str} (F : Fun K x qual st f fd)
  (h : ∀ (kV doc pm : Value) (an : Option Addr) (cdv ct : Value) (us : List Value),us.length = ps.length->bindArgs (dy4 x qual (zc1 st) (za5 st) (za0 st) .none kV doc pm an cdv ct) ⟨us,[]⟩ = pure (ps.zip us)) : Binds K fd ps []:=by
 obtain ⟨oc,od,kV,doc,pm,an,cdv,ct,osl,rfl,lk,hcd⟩:=F.ex
 exact .all (h kV doc pm an cdv ct)
theorem zd5 {x qual : Str} {st : Stmt} {f : Addr} {oc : Value} {od an : Option Addr} {osl : Array (Option Value)} {kV doc pm cdv ct : Value} (l : K.lookup f = some ⟨oc,od,.func (dy4 x qual (zc1 st) (za5 st) (za0 st) .none kV doc pm an cdv ct),osl⟩)
  (c : dy0 K cdv qual = true) (k : cy8 K (.ref f) = true) : Fun K x qual st f (dy4 x qual (zc1 st) (za5 st) (za0 st) .none kV doc pm an cdv ct):=⟨⟨oc,od,kV,doc,pm,an,cdv,ct,osl,rfl,l,c⟩,k⟩
end
theorem zf7 {A B : Prop} (h : B) : if false = true then A else B:=by
 rw [if_neg cy3]
 exact h
theorem zl2 {A B : Prop} (h : A) : if true = true then A else B:=by
 rw [if_pos rfl]
 exact h
/-- all that was tracked is as it was -/
def zo0 (H H' : Hp) : Prop:=∀ b o,H b = some o->H' b = some o
theorem zo0.refl (H : Hp) : zo0 H H:=fun _ _ h=>h
theorem zo0.trans {H H1 H2 : Hp} (a : zo0 H H1) (b : zo0 H1 H2) : zo0 H H2:=fun c o h=>b c o (a c o h)
theorem zo0.free {H H' : Hp} (e : zo0 H H') {l : Addr} (h : H' l = Option.none) : H l = Option.none:=by
 cases q : H l with
 | none=>rfl
 | some o =>
  rw [e l o q] at h
  cases h
theorem zo0.seq {K : ay2} {H H' : Hp} {a : Addr} {xs : List V} (e : zo0 H H') (h : SqL K H a xs) : SqL K H' a xs:=by
 rcases h with (h | ⟨o,h⟩) | h
 ·exact .inl (.inl (e _ _ h))
 ·exact .inl (.inr ⟨o,e _ _ h⟩)
 ·exact .inr h
section
variable {prog : dy7} {w : World} {A : Around} {R : Result->Shared->Prop} {s : Shared}
/-- a comprehension's loop,whatever its target -/
theorem zr7 {elt target iter : Expr} {ifs : List Expr} {scope : Scope} {pos : Pos} {it acc : Value} {env : Env} (J : Nat->Shared->Prop)
  (turn : ∀ n s,J n s->wpAny (model prog w) A (pyNext it) (fun r s1=>match r with
   | none=>R (.ok .next) s1
   | some v=>wpAny (model prog w) A (letOwnedTupleGo target it v) (fun _ s1'=>wpAny (model prog w) A (assign target env v) (fun _ s2 =>
     wpAny (model prog w) A (forIn ifs true fun c r=>if r = true then do let ok <- isTrue c env (eval c env); pure (qy0 ok) else pure (qy0 r)) (fun ok s3 =>
      if ok = true then wpAny (model prog w) A (eval elt env) (fun x s4 =>
       wpAny (model prog w) A (call (.builtin "list.append") [acc,x]) (fun _ s5=>∃ m,m < n /\ J m s5) (fun _ _=>False) s4) (fun _ _=>False) s3
      else ∃ m,m < n /\ J m s3) (fun _ _=>False) s2) (fun _ _=>False) s1') (fun _ _=>False) s1) (fun _ _=>False) s)
  (n : Nat) (h : J n s) : codeAny (model prog w) A (.compLoop (.ListComp elt [⟨target,iter,ifs,0⟩] scope pos) 0 it acc env) R s:=by
 refine codeAny_loop rfl J (fun n s hI=>?_) n h
 show wpAny _ A ((compTurn (.ListComp elt [⟨target,iter,ifs,0⟩] scope pos) 0 it acc env).onRaise (fun x=>do noteFrame x env; theTreesLotGoes x)) _ _ s
 refine wpAny_noted ?_
 rw [compTurn_list]
 refine ay1 (wpAny_standAt (ay1 (ly2 (turn n s hI) (fun r s1 h1=>?_) fun _ _ h'=>h'.elim)))
 cases r with
 | none=>exact ay9 h1
 | some v =>
  refine ay1 (ly2 h1 (fun _ s1' h1'=>?_) fun _ _ h'=>h'.elim)
  refine ay1 (ly2 h1' (fun _ s2 h2=>ay1 (ly2 h2 (fun ok s3 h3=>?_) fun _ _ h'=>h'.elim)) fun _ _ h'=>h'.elim)
  cases ok with
  | false=>exact ay9 ⟨rfl,h3⟩
  | true =>
   exact ay1 (ay1 (ly2 h3 (fun x s4 h4=>ay1 (ly2 h4 (fun _ s5 h5=>ay9 (ay9 ⟨rfl,h5⟩)) fun _ _ h'=>h'.elim)) fun _ _ h'=>h'.elim))
end
def zy9 (cells : List (Str × Addr)) : List (Str × sy2)->List (Str × Addr)->List (Str × Addr)
 | [],acc=>acc
 | (n,k) :: r,acc=>if k == .free then zy9 cells r ((n,(cells.lookup n).getD 0) :: acc) else zy9 cells r acc
theorem zw7 {scope : Scope} {env : Env} (h : ∀ y∈scope.names,y.2 = .free->∃ c,env.cells.lookup y.1 = some c) : closureFor scope env = pure (zy9 env.cells scope.names []):=by
 have all : ∀ (l : List (Str × sy2)) (acc : List (Str × Addr)),(∀ y∈l,y.2 = .free->∃ c,env.cells.lookup y.1 = some c) ->
   (forIn l acc (fun (x : Str × sy2) (r : List (Str × Addr))=>match x with | (name,kind)=>(if (kind == .free) = true then (do let c <- cellOf env name; pure (qy0 ((name,c) :: r))) else pure (qy0 r) : Sem _))) = (pure (zy9 env.cells l acc) : Sem _):=by
  intro l
  induction l with
  | nil=>intro acc _; rfl
  | cons y l ih =>
   intro acc hl
   obtain ⟨n,k⟩:=y
   rw [List.forIn_cons]
   unfold zy9
   by_cases hk : (k == ly9) = true
   ·obtain ⟨c,hc⟩:=hl (n,k) by5 (by simpa using hk)
    have hc' : cellOf env n = pure c:=by unfold cellOf; rw [show env.cells.lookup n = some c from hc]
    have hc2 : env.cells.lookup n = some c:=hc
    simp only [hk,if_true,hc',hc2,pure_bind,Option.getD_some]
    exact ih _ fun y hy=>hl y (by8 _ hy)
   ·simp only [hk,if_false,pure_bind]
    exact ih _ fun y hy=>hl y (by8 _ hy)
 unfold closureFor
 have:=all scope.names [] h
 first
  | (rw [this]; rfl)
  | (simp only [bind_pure]; exact this)
theorem zz0 {cells : List (Str × Addr)} : ∀ {l : List (Str × sy2)} {acc : List (Str × Addr)},(∀ y∈l,y.2 = .free->∃ c,cells.lookup y.1 = some c)->(∀ x c,acc.lookup x = some c->cells.lookup x = some c)->∀ x c,(zy9 cells l acc).lookup x = some c->cells.lookup x = some c
 | [],_,_,ha,x,c,e=>ha x c e
 | (n,k) :: r,acc,hl,ha,x,c,e=>by
  unfold zy9 at e
  split at e
  ·refine zz0 (fun y hy=>hl y (by8 _ hy)) (fun z d q=>?_) x c e
   rw [ly4] at q
   split at q
   ·rename_i hk _ hz
    obtain ⟨d',hd⟩:=hl (n,k) by5 (by simpa using hk)
    have hd : cells.lookup n = some d':=hd
    rw [hd] at q
    have hz' : z = n:=by simpa using hz
    rw [hz',hd]
    exact q
   ·exact ha z d q
  ·exact zz0 (fun y hy=>hl y (by8 _ hy)) ha x c e
theorem zs7 {cells : List (Str × Addr)} : ∀ {l : List (Str × sy2)} {acc : List (Str × Addr)} {x : Str},((∃ c,acc.lookup x = some c) \/ (x,ly9)∈l)->∃ c,(zy9 cells l acc).lookup x = some c
 | [],_,_,h=>by
  rcases h with h | h
  ·exact h
  ·simp at h
 | (n,k) :: r,acc,x,h=>by
  unfold zy9
  split
  ·rename_i hk
   refine zs7 ?_
   rcases h with ⟨c,h⟩ | h
   ·refine .inl ?_
    rw [ly4]
    split
    ·exact ⟨_,rfl⟩
    ·exact ⟨c,h⟩
   ·rcases cy4.mp h with e | h
    ·refine .inl ?_
     cases e
     rw [ly4]
     simp
    ·exact .inr h
  ·rename_i hk
   refine zs7 ?_
   rcases h with h | h
   ·exact .inl h
   ·rcases cy4.mp h with e | h
    ·cases e
     exact absurd (by rfl) hk
    ·exact .inr h
/-- what relabel makes of a name's kind -/
theorem zn6 {scope : Scope} {env : Env} {x : Str} : ∀ {l : List (Str × sy2)} {k : sy2},(l.map fun (n,k)=>if (k == ly9 && env.scope.kind == .function && env.kindOf n == some .cell) then (n,NameKind.cell) else (n,k)).lookup x = some k ->
  l.lookup x = some k \/ (k = .cell /\ l.lookup x = some .free)
 | [],_,h=>by simp at h
 | (n,j) :: r,k,h=>by
  simp only [fy4] at h
  by_cases hx : x = n
  ·subst hx
   by_cases hc : (j == ly9 && env.scope.kind == .function && env.kindOf x == some .cell) = true
   ·rw [if_pos hc] at h
    simp at h
    have hj : j = .free:=by
     simp only [iy3] at hc
     simpa using hc.1.1
    exact .inr ⟨h.symm,by simp [hj]⟩
   ·rw [if_neg hc] at h
    simp at h
    exact .inl (by simp [h])
  ·have hb : (x == n) = false:=by simpa using hx
   by_cases hc : (j == ly9 && env.scope.kind == .function && env.kindOf n == some .cell) = true
   ·rw [if_pos hc] at h
    simp only [ly4,hb] at h ⊢
    exact zn6 (scope:=scope) h
   ·rw [if_neg hc] at h
    simp only [ly4,hb] at h ⊢
    exact zn6 (scope:=scope) h
theorem zr8 {env : Env} {x : Str} : ∀ {l : List (Str × sy2)},l.lookup x = some .free ->
  (l.map fun (n,k)=>if (k == ly9 && env.scope.kind == .function && env.kindOf n == some .cell) then (n,NameKind.cell) else (n,k)).lookup x = some .cell \/
  (l.map fun (n,k)=>if (k == ly9 && env.scope.kind == .function && env.kindOf n == some .cell) then (n,NameKind.cell) else (n,k)).lookup x = some .free
 | [],h=>by simp at h
 | (n,j) :: r,h=>by
  simp only [fy4]
  by_cases hx : x = n
  ·subst hx
   simp at h
   subst h
   by_cases hc : (ly9 == ly9 && env.scope.kind == .function && env.kindOf x == some .cell) = true
   ·rw [if_pos hc]; simp
   ·rw [if_neg hc]; simp
  ·have hb : (x == n) = false:=by simpa using hx
   simp only [ly4,hb] at h
   have ih:=zr8 (env:=env) h
   by_cases hc : (j == ly9 && env.scope.kind == .function && env.kindOf n == some .cell) = true
   ·rw [if_pos hc]; simp only [ly4,hb]; exact ih
   ·rw [if_neg hc]; simp only [ly4,hb]; exact ih
/-- a comprehension's scope: O its own names,F the captured ones,cap their slots in the def -/
structure zc3 (N : List Str) (sc : Scope) (O F : List Str) (cap : List Nat) (scope : Scope) : Prop where
 kind : scope.kind = .function
 nocell : ∀ y∈scope.names,y.2 ≠ .cell
 names : ∀ y∈scope.names,y.2 = .local->scope.names.lookup y.1 = some .local
 frees : ∀ y∈scope.names,y.2 = .free->sc.names.lookup y.1 = some .cell \/ sc.names.lookup y.1 = some .free
 caps : F.map some = cap.map (fun j=>N[j]?)
 capf : ∀ x∈F,scope.names.lookup x = some .free
def zf6 (X : Cx) (N : List Str) (scope : Scope) (cl : List (Str × Addr)) (C : Addr) (ex : List Addr) (s : Shared) (H : Hp) : Cx :=
 { X with N:=N,s₀:=s,H₀:=H,env:=compEnvC scope cl C X.env,outer:=X.stack,ex:=ex,fn:=fun _=>false,pn:=[],xe:=fun _ _=>False }
/-- the slots of a comprehension's block at the start of a turn -/
def ze1 (O : List Str) (cap : List Nat) (σ : St) : St:=O.map (fun _=>none)++cap.map (fun j=>(σ[j]?).getD none)
/-- the tests of a comprehension -/
def PTs (X : Cx) (ifs : List Expr) (t : TT) : Prop :=
 ∀ (pins : List (Addr × Obj)) (s : Shared) (σ : St) (H : Hp) (Q : Bool->Hp->Prop),Inv X pins σ H s->t σ H Q ->
  wpAny (model X.prog X.w) X.A (forIn ifs true fun c r=>if r = true then do let ok <- isTrue c X.env (eval c X.env); pure (qy0 ok) else pure (qy0 r)) (TP X pins σ Q) X.xe s
def ze37 : TT:=fun _ H Q=>Q true H
theorem zb78 {X : Cx} : PTs X [] ze37:=fun _ _ _ H _ I h=>wpAny_tests_nil ⟨H,I,h⟩
theorem zb79 {X : Cx} {c : Expr} {t : TT} (h : PT X c t) : PTs X [c] t:=fun pins s σ H Q I q=>wpAny_tests_one (h pins s σ H Q I q)
/-- W: the invariant by the turn,a measure,what was made; -/
def zU5 (wi : TI) (O : List Str) (cap : List Nat) (g : TG) (tt : TT) (te : TE) : TE:=fun σ H Q=>wi σ H fun J H1=>∃ W : Nat->Nat->List V->Hp->Prop,(∃ m,W 0 m [] H1) /\ ∀ i m ys H,W i m ys H->ys.length <= by0 /\
  ((J.stop i H /\ ∀ l,H l = none->Q (.ref l) (upd H l (.lst ys))) \/
   (J.go i H /\ ∃ N : List V->Hp->Prop,(∀ ys' H',N ys' H'->∃ m',m' < m /\ W (i + 1) m' ys' H') /\ ∀ x H',J.yld i H x H'->g x (ze1 O cap σ) H' fun σ2 H2=>tt σ2 H2 fun b H3=>if b = true then te σ2 H3 fun y H4=>N (ys++[y]) H4 else N ys H3))
section
variable {X : Cx} {tg iter elt : Expr} {ifs : List Expr} {scope : Scope} {pos : Pos} {wi : TI} {g : TG} {tt : TT} {te : TE} {O F : List Str} {cap : List Nat}
/-- the block's entry -/
theorem Inv.comp {pins : List (Addr × Obj)} {σ : St} {H : Hp} {s : Shared} {fp : List Addr} {h1 : Heap} {tk : Nat} (S : zc3 X.N X.env.scope O F cap scope) (I : Inv X pins σ H s)
  (hf : ∀ b∈fp,zC5 X pins H b) (ho : ∀ b∈fp,∃ o,s.heap.get? b = some o /\ ∀ v,o.data ≠ .cell v) (hs : s.heap.objs.size <= C) (D : Addr) (hD : s.heap.objs.size <= D) (hDC : D < C) {h0 : Heap} (h0s : h0.objs.size = C)
  (k0 : ∀ b o,s.heap.get? b = some o->h0.get? b = some o) (k1 : ∀ b o,h0.get? b = some o->h1.get? b = some o) (hn : h1.Ns C fun _=>none) :
  Inv (zf6 X (O++F) scope (zy9 X.env.cells scope.names []) C (D :: fp) { s with heap:=h0 } H) [] (ze1 O cap σ) H { s with heap:=h1,toks:=tk }:=by
 have hfr : ∀ y∈scope.names,y.2 = .free->∃ c,X.env.cells.lookup y.1 = some c:=fun y hy e=>I.ok.has y.1 (S.frees y hy e)
 have sub : ∀ x c,(zy9 X.env.cells scope.names []).lookup x = some c->X.env.cells.lookup x = some c:=zz0 hfr (fun x c e=>by simp at e)
 have clt : ∀ x c,X.env.cells.lookup x = some c->c < s.heap.objs.size:=fun x c e=>by
  obtain ⟨v,q⟩:=I.cell x c e
  exact q.lt
 have flt : ∀ b∈fp,b < s.heap.objs.size:=fun b hb=>by
  obtain ⟨o,e,_⟩:=ho b hb
  exact cy1 e
 have bsz : X.base.objs.size <= s.heap.objs.size:=cy6 I.ok.bsz I.sz
 have blt : ∀ b o,X.base.get? b = some o->b < X.s₀.heap.objs.size:=fun b o e=>cy1 (I.ok.bs b o e).1
 have k : ∀ b o,s.heap.get? b = some o->h1.get? b = some o:=fun b o e=>k1 b o (k0 b o e)
 refine ⟨⟨I.ok.mod,S.kind,I.ok.glob,I.ok.blt,?_,fun x y c e1 e2=>I.ok.inj x y c (sub x c e1) (sub y c e2),fun x hx=>?_,fun x c e _=>?_,I.ok.hd,I.ok.frames,.inl rfl,fun b hb=>?_,fun b o e=>?_,?_,fun b o e hb=>?_,fun b hb=>?_,?_,I.zF9⟩,
  rfl,I.bare,Un.kept k1,⟨_,hn,fun i x v e1 e2 e3=>?_⟩,fun x c e=>?_,I.hok.fresh hs,fun x c e=>I.freeC x c (sub x c e),fun p hp=>?_,I.hok.kept k,?_⟩
 ·show h0.objs.size <= C
  exact Nat.le_of_eq h0s
 ·have hx : (relabel scope X.env).names.lookup x = some .cell \/ (relabel scope X.env).names.lookup x = some .free:=hx
  have hx' : scope.names.lookup x = some .free:=by
   rcases hx with hx | hx
   ·rcases zn6 (scope:=scope) hx with e | ⟨_,e⟩
    ·exact absurd rfl (S.nocell _ (iy1 e))
    ·exact e
   ·rcases zn6 (scope:=scope) hx with e | ⟨e,_⟩
    ·exact e
    ·cases e
  exact zs7 (.inr (iy1 hx'))
 ·exact absurd (show false = true from e) cy3
 ·rcases cy4.mp hb with e | hb
  ·subst e
   exact ⟨cy7 hDC,fun x c e=>cy7 (by1 (clt x c (sub x c e)) hD)⟩
  ·exact ⟨cy7 (by1 (flt b hb) hs),fun x c e=>(hf b hb).2.2.2.2.1 x c (sub x c e)⟩
 ·exact ⟨k0 b o (I.bs b o e).1,(I.bs b o e).2⟩
 ·show X.base.objs.size <= h0.objs.size
  rw [h0s]
  exact cy6 bsz hs
 ·rcases cy4.mp hb with q | hb
  ·subst q
   exact absurd (by1 (cy1 (I.bk b o e)) hD) (ly8 _)
  ·rcases (hf b hb).2.2.2.1 with q | q
   ·exact I.ok.noex b o e q
   ·exact absurd (by1 (blt b o e) q) (ly8 _)
 ·intro hb2
  have hb3 : b∈X.env.locals :: X.fs:=I.zS0 b hb2
  rcases cy4.mp hb with q | hb
  ·subst q
   rcases cy4.mp hb3 with q | q
   ·exact absurd I.lt (by rw [<- q]; exact Nat.not_lt.mpr hD)
   ·exact I.nofs hD q
  ·rcases cy4.mp hb3 with q | q
   ·exact (hf b hb).2.1 q
   ·exact (hf b hb).2.2.1 q
 ·exact I.stack.of_keeps fun b o e _=>⟨o,k0 b o e,rfl⟩
 ·-- the captured names
  have e1 : (O++F)[i]? = some x:=e1
  have e2 : (ze1 O cap σ)[i]? = some (some v):=e2
  unfold ze1 at e2
  have hi : ¬ i < O.length:=fun hi=>by
   rw [ay8 (by simpa using hi)] at e2
   rw [ay4] at e2
   cases q : O[i]? with
   | none=>rw [q] at e2; cases e2
   | some z=>rw [q] at e2; cases e2
  have hi' : O.length <= i:=Nat.not_lt.mp hi
  rw [dy1 hi'] at e1
  rw [dy1 (by simpa using hi'),ay3,ay4] at e2
  have hc:=congrArg (fun l=>l[i - O.length]?) S.caps
  simp only [ay4,e1,sy3] at hc
  cases q : cap[i - O.length]? with
  | none=>rw [q] at e2; cases e2
  | some j =>
   rw [q] at e2 hc
   simp only [sy3,Option.some.injEq] at e2 hc
   have hj : X.N[j]? = some x:=hc.symm
   have hv : σ[j]? = some (some v):=by
    cases z : σ[j]? with
    | none=>rw [z] at e2; cases e2
    | some y=>rw [z] at e2; simp at e2; rw [e2]
   have hxf : scope.names.lookup x = some .free:=S.capf x (by3 e1)
   have hxs:=S.frees _ (iy1 hxf) rfl
   obtain ⟨m,hm,hl⟩:=I.loc
   obtain ⟨u,ru,l⟩:=hl j x v hj hv (hxs.elim (fun z=>.inr (.inl z)) fun z=>.inr (.inr z))
   refine ⟨u,ru,.inr ⟨zr8 hxf,?_⟩⟩
   rcases l with ⟨l,_⟩ | ⟨_,c,ec,z⟩
   ·have l : X.env.scope.names.lookup x = some .local:=l
    rcases hxs with q | q
    ·rw [q] at l; cases l
    ·rw [q] at l; cases l
   ·obtain ⟨c',hc'⟩:=zs7 (cells:=X.env.cells) (l:=scope.names) (acc:=[]) (.inr (iy1 hxf))
    have e':=sub x c' hc'
    rw [ec] at e'
    cases e'
    obtain ⟨o,ho,hd⟩:=z
    exact ⟨c,hc',o,k c o ho,hd⟩
 ·obtain ⟨v,o,ho,hd⟩:=I.cell x c (sub x c e)
  exact ⟨v,o,k c o ho,hd⟩
 ·exact absurd (show p∈([] : List (Addr × Obj)) from hp) (by simp)
 ·show (ze1 O cap σ).length = (O++F).length
  have:=congrArg List.length S.caps
  simp only [ay3] at this
  unfold ze1
  simp [this]
/-- behind the block -/
theorem Inv.zb32 {pins : List (Addr × Obj)} {σ σ' : St} {H H' : Hp} {s s4 : Shared} {N : List Str} {cl : List (Str × Addr)} {fp : List Addr} {C D : Addr} {h0 h' : Heap} {ys : List V} {us : List Value} {n : Nat} (I : Inv X pins σ H s)
  (hf : ∀ b∈fp,zC5 X pins H b) (hs : s.heap.objs.size <= C) (hD : s.heap.objs.size <= D) (hDC : D < C)
  (k0 : ∀ b o,s.heap.get? b = some o->h0.get? b = some o)
  (I4 : Inv (zf6 X N scope cl C (D :: fp) { s with heap:=h0 } H) [] σ' H' s4) (fD : H' D = none) (oD : s4.heap.get? D = some { cls:=.type "list",data:=.seq us.toArray n }) (rv : Vals ys us) (hz : ys.length <= by0)
  (sb : hy0 C s4.heap h') : Inv X pins σ (upd H' D (.lst ys)) { s4 with heap:=h' }:=by
 have kC : ∀ b o,b ≠ C->s4.heap.get? b = some o->h'.get? b = some o:=fun b o hb e=>(sb.2 b hb).trans e
 have lt : ∀ b o,s.heap.get? b = some o->b < s.heap.objs.size:=fun b o e=>cy1 e
 have neD : ∀ b o,s.heap.get? b = some o->b ≠ D:=fun b o e=>cy7 (by1 (lt b o e) hD)
 have neC : ∀ b o,s.heap.get? b = some o->b ≠ C:=fun b o e=>cy7 (by1 (lt b o e) hs)
 have nin : ∀ b o,s.heap.get? b = some o->b ∉ fp->b ∉ D :: fp:=fun b o e h hb=>(cy4.mp hb).elim (neD b o e) h
 have HD : H D = none:=I.hok.fresh hD
 have neDH : ∀ b u,H b = some u->b ≠ D:=fun b u e=>zb1 e HD
 have fC : H' C = none:=I4.free
 have un : Un (frs X.stack) (D :: fp) H H' h0 s4.heap:=I4.base
 refine I.za43 (ch:=fp) (s':={ s4 with heap:=h' }) (H':=upd H' D (.lst ys)) I4.os ⟨fun b o e n hb hx=>?_,fun b o e n hb hx=>?_,fun b o e n hx=>?_,fun b o e hx=>?_,fun b xs e=>?_,fun b o u e=>?_,fun b ps e=>?_⟩ (fun b u e=>?_) I4.bare (fun b hb=>?_)
 ·exact kC b o (neC b o e) (un.keep b o (k0 b o e) n hb (nin b o e hx))
 ·obtain ⟨sl,q⟩:=un.slot b o (k0 b o e) n hb (nin b o e hx)
  exact ⟨sl,kC b _ (neC b o e) q⟩
 ·rw [zb3 (neD b o e)]
  exact un.free b o (k0 b o e) n (nin b o e hx)
 ·obtain ⟨o',q⟩:=un.there b o (k0 b o e) (nin b o e hx)
  exact ⟨o',kC b _ (neC b o e) q⟩
 ·rw [zb3 (neDH b _ e)]
  exact un.tups b xs e
 ·rw [zb3 (neDH b _ e)]
  exact un.frzs b o u e
 ·rw [zb3 (neDH b _ e)]
  exact un.tbls b ps e
 ·by_cases hb : b = D
  ·subst hb
   rw [zc4] at e
   cases e
   exact ⟨hz,us,n,rv,kC b _ (cy7 hDC) oD⟩
  ·rw [zb3 hb] at e
   refine (I4.hok b u e).zN1 (fun c v hc q=>kC c v ?_ q) (fun c q=>by rw [zb3 (zb1 q fD)]; exact q) fun c xs q=>by rw [zb3 (zb1 q fD)]; exact q
   rcases hc with q | q
   ·rw [q]; exact zb1 e fC
   ·exact zb1 q fC
 ·obtain ⟨_,h1,_,h2,h3,h4⟩:=hf b hb
  exact ⟨h2,h1,h3,h4⟩
/-- a target that stores in the slots below n alone -/
def Own (n : Nat) (g : TG) : Prop:=∀ x σ H Q,g x σ H Q->g x σ H fun σ2 H2=>(σ2.length = σ.length /\ ∀ j,n <= j->σ2[j]? = σ[j]?) /\ Q σ2 H2
theorem za57 {n i : Nat} (h : i < n) : Own n (zN2 i):=fun x σ H Q q=>⟨⟨by simp,fun j hj=>by rw [ey6 (by omega)]⟩,q⟩
/-- [elt for tg in iter if ..] -/
theorem zb80 (hc : X.calm = true) (S : zc3 X.N X.env.scope O F cap scope) (hi : PI X tg iter wi)
  (hg : ∀ cl C ex s H,PG (zf6 X (O++F) scope cl C ex s H) tg g) (ht : ∀ cl C ex s H,PTs (zf6 X (O++F) scope cl C ex s H) ifs tt) (he : ∀ cl C ex s H,PE (zf6 X (O++F) scope cl C ex s H) elt te)
  (ho : Own O.length g) (hs : ∀ x,hy8 iter X.env x = pure x:=by intro _; rfl) : PE X (.ListComp elt [⟨tg,iter,ifs,0⟩] scope pos) (zU5 wi O cap g tt te):=by
 intro pins s σ H Q I h
 have hfr : ∀ y∈scope.names,y.2 = .free->∃ c,X.env.cells.lookup y.1 = some c:=fun y hy e=>I.ok.has y.1 (S.frees y hy e)
 rw [eval_ListComp]
 refine wpAny_comprehension_free (use:=none) rfl hs (zw7 hfr) S.kind S.names (thn (hi pins s σ H _ I h) fun v s1 h1=>thn h1 fun itv s2 h2=>?_)
 obtain ⟨it,fp,tn,J,H2,e,I2,T,st2,f2,W,⟨m0,w0⟩,turn⟩:=h2
 subst e
 refine gy3 (wpAny_newFunctionEnv S.nocell (by intro y hy; simp at hy) (fun h1 hns1 hsb1=>?_) S.kind)
 dsimp only at hns1 hsb1 ⊢
 generalize hH0 : s2.heap.push { cls:=.type "list",dict:=none,data:=.seq ([] : List Value).toArray } = h0 at hns1 hsb1 ⊢
 have h0s : h0.objs.size = s2.heap.objs.size + 1:=by rw [<- hH0,ry0]
 have k0 : ∀ b o,s2.heap.get? b = some o->h0.get? b = some o:=fun b o e=>hH0 ▸ ay6 _ e
 have k1 : ∀ b o,h0.get? b = some o->h1.get? b = some o:=fun b o e=>hsb1.extBut b o (cy7 (cy1 e)) (ay6 _ e)
 have oD0 : h0.get? s2.heap.objs.size = some { cls:=.type "list",data:=.seq ([] : List Value).toArray }:=hH0 ▸ by2 _ rfl
 have hDC : s2.heap.objs.size < h0.objs.size:=by rw [h0s]; exact my7 _
 have hsC : s2.heap.objs.size <= h0.objs.size:=my8 hDC
 have flt : ∀ b∈fp,b < s2.heap.objs.size:=fun b hb=>by
  obtain ⟨o,e,_⟩:=T.obj _ _ st2 b hb
  exact cy1 e
 have Dfp : s2.heap.objs.size ∉ fp:=fun z=>ly8 _ (flt _ z)
 have I3 : Inv (zf6 X (O++F) scope (zy9 X.env.cells scope.names []) h0.objs.size (s2.heap.objs.size :: fp) { s2 with heap:=h0 } H2) [] (ze1 O cap σ) H2 { s2 with heap:=h1,toks:=s2.toks + ([] : List (Str × Value)).length } :=
  I2.comp S f2 (T.obj _ _ st2) hsC s2.heap.objs.size (ay5 _) hDC rfl k0 k1 hns1
 generalize hX' : zf6 X (O++F) scope (zy9 X.env.cells scope.names []) h0.objs.size (s2.heap.objs.size :: fp) { s2 with heap:=h0 } H2 = X' at I3
 have hg' : PG X' tg g:=hX' ▸ hg _ _ _ _ _
 have ht' : PTs X' ifs tt:=hX' ▸ ht _ _ _ _ _
 have he' : PE X' elt te:=hX' ▸ he _ _ _ _ _
 have fpok : ∀ {H' : Hp},(∀ b∈s2.heap.objs.size :: fp,H' b = none)->∀ b∈s2.heap.objs.size :: fp,zC5 X' [] H' b:=fun {H'} hn b hb=>by
  have hex : b∈X'.ex:=by rw [<- hX']; exact hb
  refine ⟨hn b hb,(I3.ok.exf b hex).1,I3.ok.exfs b hex,.inl hex,(I3.ok.exf b hex).2,fun p hp=>?_⟩
  rw [<- hX'] at hp
  exact absurd (show p∈([] : List (Addr × Obj)) from hp) (by simp)
 have eP : X'.prog = X.prog:=by rw [<- hX']; rfl
 have eW : X'.w = X.w:=by rw [<- hX']; rfl
 have eK : X'.K = X.K:=by rw [<- hX']; rfl
 have eA : X'.A = X.A:=by rw [<- hX']; rfl
 have eC : X'.calm = true:=by rw [<- hX']; exact hc
 have eE : X'.env = compEnvC scope (zy9 X.env.cells scope.names []) h0.objs.size X.env:=by rw [<- hX']; rfl
 have eX : X'.xe = fun _ _=>False:=by rw [<- hX']; rfl
 have loop : ∀ s3 : Shared,s3 = { s2 with heap:=h1,toks:=s2.toks + ([] : List (Str × Value)).length } ->
   codeAny (model X.prog X.w) X.A (.compLoop (.ListComp elt [⟨tg,iter,ifs,0⟩] scope pos) 0 (.ref it) (.ref s2.heap.objs.size) (compEnvC scope (zy9 X.env.cells scope.names []) h0.objs.size X.env))
    (compPost (model X.prog X.w) X.A X.xe none (EP X pins σ Q) (.ref s2.heap.objs.size) h0.objs.size) s3:=by
  rintro s3 rfl
  refine zr7 (fun n s'=>∃ i ys us k H',Inv X' [] (ze1 O cap σ) H' s' /\ tn i s'.heap /\ (∀ b∈s2.heap.objs.size :: fp,H' b = none) /\ s'.heap.get? s2.heap.objs.size = some { cls:=.type "list",data:=.seq us.toArray k } /\ Vals ys us /\ W i n ys H') ?_ m0
   ⟨0,[],[],_,H2,I3,T.keep _ _ _ st2 (fun b _ o e=>k1 b o (k0 b o e)),fun b hb=>?_,k1 _ _ oD0,.nil,w0⟩
  ·rintro n s3 ⟨i,ys,us,k,H3,I3',st3,fr3,o3,rv3,w3⟩
   obtain ⟨hz,step⟩:=turn i n ys H3 w3
   have fpI : ∀ b∈fp,zC5 X' [] H3 b:=fun b hb=>fpok fr3 b (by8 _ hb)
   rcases step with ⟨stop,q⟩ | ⟨go,NN,hNN,step⟩
   ·have:=T.done X' eP eW eK eC i [] s3 (ze1 O cap σ) H3 (fun _ _=>False) I3' fpI st3 stop
    rw [eA] at this
    have hk : ∀ {s4 : Shared},Inv X' [] (ze1 O cap σ) H3 s4->s4.heap.get? s2.heap.objs.size = some { cls:=.type "list",data:=.seq us.toArray k }->compPost (model X.prog X.w) X.A X.xe none (EP X pins σ Q) (.ref s2.heap.objs.size) h0.objs.size (.ok .next) s4:=fun {s4} I4 o4=>by
     obtain ⟨m,hm,_⟩:=id I4.loc
     rw [eE] at hm
     refine ⟨m,hm,fun h' sb=>⟨.ref s2.heap.objs.size,upd H3 s2.heap.objs.size (.lst ys),?_,rfl,q _ (fr3 _ by5)⟩⟩
     rw [<- hX'] at I4
     exact I2.zb32 f2 hsC (ay5 _) hDC k0 I4 (fr3 _ by5) o4 rv3 hz sb
    -- the accumulator is pinned while the iterator ends
    have J3 : Inv X' [(s2.heap.objs.size,{ cls:=.type "list",data:=.seq us.toArray k })] (ze1 O cap σ) H3 s3:=I3'.zj7 fun p hp=>by
     have : p = (s2.heap.objs.size,{ cls:=.type "list",data:=.seq us.toArray k }):=by simpa using hp
     subst this
     obtain ⟨f0,f1,f2',_⟩:=fpok fr3 s2.heap.objs.size by5
     exact ⟨o3,f0,f1,f2',fun v z=>by cases z⟩
    have fpJ : ∀ b∈fp,zC5 X' [(s2.heap.objs.size,{ cls:=.type "list",data:=.seq us.toArray k })] H3 b:=fun b hb=>by
     obtain ⟨f0,f1,f3,f4,f5,f6⟩:=fpI b hb
     refine ⟨f0,f1,f3,f4,f5,fun p hp=>?_⟩
     rcases by9.mp hp with z | z
     ·exact f6 p (fy6 _ z)
     ·have : p = (s2.heap.objs.size,{ cls:=.type "list",data:=.seq us.toArray k }):=by simpa using z
      subst this
      intro e
      exact Dfp (by rw [show s2.heap.objs.size = b from e]; exact hb)
    have fin:=T.done X' eP eW eK eC i _ s3 (ze1 O cap σ) H3 (fun _ _=>False) J3 fpJ st3 stop
    rw [eA] at fin
    refine thn fin fun r s4 ⟨hr,J4⟩=>?_
    subst hr
    exact hk (J4.zj7 fun p hp=>absurd hp (by simp)) (J4.pin (s2.heap.objs.size,{ cls:=.type "list",data:=.seq us.toArray k }) (dy5 _ (cy9.mpr rfl))).1
   ·have J3 : Inv X' (zm1 [s2.heap.objs.size] s3.heap) (ze1 O cap σ) H3 s3:=by
     have:=I3'.pinned (fp:=[s2.heap.objs.size]) (fun b hb=>fpok fr3 b (by simp at hb; simp [hb])) (fun b hb=>by
      have e : b = s2.heap.objs.size:=by simpa using hb
      subst e
      exact ⟨_,o3,fun v z=>by cases z⟩)
     simpa using this
    have fpJ : ∀ b∈fp,zC5 X' (zm1 [s2.heap.objs.size] s3.heap) H3 b:=fun b hb=>by
     obtain ⟨f0,f1,f3,f4,f5,f6⟩:=fpI b hb
     refine ⟨f0,f1,f3,f4,f5,fun p hp=>?_⟩
     rcases by9.mp hp with z | z
     ·exact f6 p (fy6 _ z)
     ·have:=(zt0 z).1
      have e' : p.1 = s2.heap.objs.size:=by simpa using this
      intro e
      exact Dfp (by rw [<- e',e]; exact hb)
    have it3:=T.item X' eP eW eK eC i _ s3 (ze1 O cap σ) H3 (fun _ _=>False) J3 fpJ st3 go
    rw [eA] at it3
    refine thn it3 fun r s4 ⟨u,hr,h4⟩=>?_
    subst hr
    refine thn h4 fun _ s5 ⟨x,H5,I5,r5,y5,st5,fr5⟩=>?_
    have o5 : s5.heap.get? s2.heap.objs.size = some { cls:=.type "list",data:=.seq us.toArray k }:=(I5.pin (_,_) (dy5 _ (zf8 (by simp) o3))).1
    have d5 : H5 s2.heap.objs.size = none:=(I5.pin (_,_) (dy5 _ (zf8 (by simp) o3))).2.1
    have fr5' : ∀ b∈s2.heap.objs.size :: fp,H5 b = none:=fun b hb=>(cy4.mp hb).elim (fun z=>by rw [z]; exact d5) (fr5 b)
    have I5' : Inv X' (zm1 (s2.heap.objs.size :: fp) s5.heap) (ze1 O cap σ) H5 s5:=by
     have:=(I5.zj7 (pins':=[]) fun p hp=>absurd hp (by simp)).pinned (fp:=s2.heap.objs.size :: fp) (fpok fr5') (fun b hb=>by
      rcases cy4.mp hb with e | hb
      ·subst e
       exact ⟨_,o5,fun v z=>by cases z⟩
      ·exact T.obj _ _ st5 b hb)
     simpa using this
    have a5:=hg' _ s5 (ze1 O cap σ) H5 x u _ I5' r5 (ho _ _ _ _ (step x H5 y5))
    rw [eP,eW,eA,eE,eX] at a5
    refine thn a5 fun _ s6 ⟨σ6,H6,I6,⟨l6,w6⟩,q6⟩=>?_
    have t6:=ht' _ s6 σ6 H6 _ I6 q6
    rw [eP,eW,eA,eE,eX] at t6
    refine thn t6 fun ok s7 ⟨H7,I7,q7⟩=>?_
    -- behind the turn
    have back : ∀ {σ8 : St} {H8 : Hp} {s8 : Shared},σ8.length = (ze1 O cap σ).length->Inv X' (zm1 (s2.heap.objs.size :: fp) s5.heap) σ8 H8 s8->(∀ (j : Nat) v,(ze1 O cap σ)[j]? = some (some v)->σ8[j]? = some (some v)) ->
      Inv X' [] (ze1 O cap σ) H8 s8 /\ tn (i + 1) s8.heap /\ (∀ b∈s2.heap.objs.size :: fp,H8 b = none) /\ s8.heap.get? s2.heap.objs.size = some { cls:=.type "list",data:=.seq us.toArray k }:=fun {σ8 H8 s8} hl I8 hw=>by
     have pin8 : ∀ b∈s2.heap.objs.size :: fp,∀ o,s5.heap.get? b = some o->s8.heap.get? b = some o /\ H8 b = none:=fun b hb o e=>by
      have:=I8.pin (b,o) (dy5 _ (zf8 hb e))
      exact ⟨this.1,this.2.1⟩
     refine ⟨(I8.zj7 fun p hp=>absurd hp (by simp)).weak hl.symm hw,T.keep _ _ _ st5 fun b hb o e=>(pin8 b (by8 _ hb) o e).1,fun b hb=>?_,(pin8 _ by5 _ o5).1⟩
     rcases cy4.mp hb with e | hb'
     ·exact (pin8 b hb _ (by rw [e]; exact o5)).2
     ·obtain ⟨o,e,_⟩:=T.obj _ _ st5 b hb'
      exact (pin8 b hb o e).2
    have w6' : ∀ (j : Nat) v,(ze1 O cap σ)[j]? = some (some v)->σ6[j]? = some (some v):=fun j v e=>by
     by_cases hj : O.length <= j
     ·rw [w6 j hj]; exact e
     ·exfalso
      unfold ze1 at e
      rw [ay8 (by simpa using Nat.not_le.mp hj),ay4] at e
      cases q : O[j]? with
      | none=>rw [q] at e; cases e
      | some z=>rw [q] at e; cases e
    cases ok with
    | false =>
     rw [if_neg cy3] at q7 ⊢
     obtain ⟨m',hm,w7⟩:=hNN _ _ q7
     obtain ⟨b1,b2,b3,b4⟩:=back l6 I7 w6'
     exact ⟨m',hm,i + 1,ys,us,k,H7,b1,b2,b3,b4,rv3,w7⟩
    | true =>
     rw [if_pos rfl] at q7 ⊢
     have e7:=he' _ s7 σ6 H7 _ I7 q7
     rw [eP,eW,eA,eE,eX] at e7
     refine thn e7 fun y s8 ⟨z,H8,I8,r8,q8⟩=>?_
     obtain ⟨m',hm,w8⟩:=hNN _ _ q8
     obtain ⟨b1,b2,b3,b4⟩:=back l6 I8 w6'
     have hzs : us.toArray.size <= by0:=by rw [by6,<- rv3.length]; exact hz
     refine append_at (hsz:=hzs) b4 fun h9 hs9 hD9=>?_
     obtain ⟨f0,f1,f2',f3,f4,f5⟩:=fpok b3 s2.heap.objs.size by5
     have I9 : Inv X' [] (ze1 O cap σ) H8 { s8 with heap:=h9 }:=b1.turned (t':=s8.toks) (fun b o hb e=>(hs9.2 b hb).trans e) f0 f1 f3 f4 f5
     refine ⟨m',hm,i + 1,ys++[z],us++[y],k + 1,H8,I9,T.keep _ _ _ b2 fun b hb o e=>(hs9.2 b fun q=>Dfp (by rw [<- q]; exact hb)).trans e,b3,?_,rv3.snoc r8,w8⟩
     rw [hD9,List.push_toArray]
  ·rcases cy4.mp hb with e | hb
   ·rw [e]; exact I2.hok.fresh (ay5 _)
   ·exact (f2 b hb).1
 exact codeAny_compStart_list (loop _ rfl) (T.self _ 0 _ _ _ (T.keep _ _ _ st2 (fun b _ o e=>k1 b o (k0 b o e))) (loop _ rfl))
end
def Its (x : Str) : It:=⟨fun i _=>i < x.cps.size,fun i H v H'=>H' = H /\ ∃ c,x.cps[i]? = some c /\ v = .str ⟨#[c]⟩,fun i _=>x.cps.size <= i⟩
theorem za58 {P : dy7} {w : World} {K : ay2} {tg : Expr} (it : Addr) (x : Str) (t : Tok) (cl : String) (hc : cl = "str_ascii_iterator" \/ cl = "str_iterator") : Turn P w K tg (Its x) [it] it (fun i h=>h.IsStrIter it cl x t i) where
 mem:=by simp
 obj:=fun i h st b hb=>by
  have e : b = it:=by simpa using hb
  subst e
  obtain ⟨o,e,c,d⟩:=st
  exact ⟨o,e,fun v z=>by rw [d] at z; cases z⟩
 keep:=fun i h h' st k=>by
  obtain ⟨o,e,r⟩:=st
  exact ⟨o,k it (by simp) o e,r⟩
 item:=by
  intro X hP hw hK hcm i pins s σ H E I hf st hg
  subst hP hw hK
  obtain ⟨f0,f1,f2,f3,f4,f5⟩:=hf it (by simp)
  have hi : i < x.cps.size:=hg
  have nm : ["enumerate", "zip", "dict_itemiterator", "dict_reverseitemiterator", "odict_iterator", "itertools.zip_longest", "itertools.pairwise"].contains cl = false:=by
   rcases hc with rfl | rfl <;> decide
  have go : ∀ (h' : Heap) (st' : h'.IsStrIter it cl x t (i + 1)) (sb : ∀ b o,b ≠ it->s.heap.get? b = some o->h'.get? b = some o) (tk : Nat) (u : Tok),∃ v,some (Value.str ⟨#[x.cps[i]]⟩ u) = some v /\
    wpAny (model X.prog X.w) X.A (letOwnedTupleGo tg (.ref it) v) (fun _ s2=>∃ y H',Inv X pins σ H' s2 /\ RelV y v /\ (Its x).yld i H y H' /\ s2.heap.IsStrIter it cl x t (i + 1) /\ ∀ b∈[it],H' b = none) E { s with heap:=h',toks:=tk }:=fun h' st' sb tk u=>by
   have I1 : Inv X pins σ H { s with heap:=h',toks:=tk }:=I.turned (fun b o hb e=>sb b o hb e) f0 f1 f3 f4 f5
   obtain ⟨o,e,c,d⟩:=id st'
   exact ⟨_,rfl,zN3 (s:={ s with heap:=h',toks:=tk }) e c d nm ⟨.str ⟨#[x.cps[i]]⟩,H,I1,⟨_,rfl⟩,⟨rfl,x.cps[i],by simp [hi],rfl⟩,st',fun b hb=>(hf b hb).1⟩⟩
  rcases hc with rfl | rfl
  ·exact wpAny_pyNext_ascii_item st (c:=x.cps[i]) (by simp [hi]) fun h' st' sb=>go h' st' (fun b o hb e=>sb.extBut b o hb e) _ _
  ·exact wpAny_pyNext_wide_item st (c:=x.cps[i]) (by simp [hi]) fun h' st' sb=>go h' st' (fun b o hb e=>sb.extBut b o hb e) _ _
 done:=by
  intro X hP hw hK hcm i pins s σ H E I hf st hg
  subst hP hw hK
  obtain ⟨f0,f1,f2,f3,f4,f5⟩:=hf it (by simp)
  have hi : x.cps.size <= i:=hg
  rcases hc with rfl | rfl
  ·exact wpAny_pyNext_ascii_end (I.ok.hd hcm) st (by simp [hi]) fun h' eb=>⟨rfl,I.turned (t':=s.toks) (fun b o hb e=>eb b o hb e) f0 f1 f3 f4 f5⟩
  ·exact wpAny_pyNext_wide_end (I.ok.hd hcm) st (by simp [hi]) fun h' eb=>⟨rfl,I.turned (t':=s.toks) (fun b o hb e=>eb b o hb e) f0 f1 f3 f4 f5⟩
 self:=fun _ _ _ _ _ st h=>by
  rcases hc with rfl | rfl
  ·exact wpAny_pyIter_striter_ascii st h
  ·exact wpAny_pyIter_striter_wide st h
section
variable {X : Cx} {tg : Expr}
def iStr (tl : TE) : TI:=fun σ H R=>tl σ H fun v H1=>∃ x,v = .str x /\ R (Its x) H1
theorem zd07 {l : Expr} {tl : TE} (hl : PE X l tl) : PI X tg l (iStr tl):=by
 intro pins s σ H R I h
 refine thn (hl pins s σ H _ I h) fun v s1 ⟨y,H1,I1,r1,q1⟩=>?_
 obtain ⟨x,e,q⟩:=q1
 subst e
 obtain ⟨t,rfl⟩:=r1
 have fin : ∀ (o : Obj) (cl : String),(cl = "str_ascii_iterator" \/ cl = "str_iterator")->(s1.heap.push o).IsStrIter s1.heap.objs.size cl x t 0->PIE X pins σ tg R (.ref s1.heap.objs.size) { s1 with heap:=s1.heap.push o }:=fun o cl hc st=>by
  refine ⟨s1.heap.objs.size,[s1.heap.objs.size],_,_,H1,rfl,I1.kept (t':=s1.toks) fun b o e=>ay6 _ e,za58 _ x t cl hc,st,fun b hb=>?_,q⟩
  have e : b = s1.heap.objs.size:=by simpa using hb
  subst e
  exact I1.fpOk (ay5 _) (I1.hok.fresh (ay5 _))
 cases ha : x.cps.all (· < 128)
 ·exact wpAny_pyIter_wide ha (fin _ _ (.inr rfl) ⟨_,by2 _ rfl,rfl,rfl⟩)
 ·exact wpAny_pyIter_ascii ha (fin _ _ (.inl rfl) ⟨_,by2 _ rfl,rfl,rfl⟩)
end
theorem zG5 : ∀ {bs : List Bool} {us : List Value},Vals (bs.map V.bl) us->LSm.BoolsAre us bs:=by
 intro bs
 induction bs with
 | nil=>intro us r; rw [List.map_nil] at r; cases r; exact .nil
 | cons b bs ih =>
  intro us r
  rw [fy4] at r
  cases r with
  | cons r1 r2 =>
   cases r1
   exact .cons b (ih r2)
section
variable {X : Cx}
theorem za59 (hc : X.calm = true) : zl1 X (.builtin "all") (fun xs H Q=>∃ (p : Addr) (bs : List Bool),xs = [.ref p] /\ SqL X.K H p (bs.map V.bl) /\ Q (.bl (bs.all id)) H):=by
 intro pins s σ H xs us Q I r h
 obtain ⟨p,bs,rfl,hq,q⟩:=h
 cases r with
 | cons r rr =>
  cases rr
  cases r
  obtain ⟨its,rv,pl,hz⟩:=I.list hq
  obtain ⟨m,F⟩:=I.fr
  have hb:=zG5 rv
  have hlt : p < s.heap.objs.size:=by obtain ⟨_,e,_⟩:=pl.isList; exact cy1 e
  refine call_all_walk (wpAny_pyIter_list pl.isList ?_)
  refine ⟨s.heap.objs.size,[s.heap.objs.size,p],[s.heap.objs.size],its.toArray.size,_,_,fun i=>(bs[i]?).getD true,rfl,Walks.list (A:=X.A.in1) (I.ok.hd hc) _ p (cy7 hlt) its.toArray,
   ⟨⟨_,by2 _ rfl,rfl,rfl⟩,pl.isList.push _⟩,fun i v s' Q' E' hP hQ=>?_,fun h' tk hk=>?_⟩
  ·obtain ⟨b,e,rfl⟩:=hb.get i v (by simpa using hP)
   simp only [e,Option.getD_some] at hQ
   exact iy6 hQ
  ·have e : ((ey5 its.toArray.size).all fun i=>(bs[i]?).getD true) = bs.all id:=by
    rw [by6,hb.length]; exact LSm.range_all bs
   rw [e]
   exact ⟨.bl (bs.all id),H,I.kept (LSm.kept_iter hk),rfl,q⟩
def rSlS : V->Option Int->Option Int->Hp->VK->Prop:=fun x lo hi H Q=>∃ z : Str,x = .str z /\ z.length <= by0 /\ Q (.str (py1 z lo hi)) H
theorem zd08 : SlR X rSlS:=by
 intro pins s σ H x v vl vu lo hi sl Q I rx hs pl pu h
 obtain ⟨z,rfl,hz,q⟩:=h
 obtain ⟨t,rfl⟩:=rx
 refine ⟨"str",_,F.slot_str_getitem.lookup,typeIs_str _ _ _,?_⟩
 have fin : ∀ t' k,EP X pins σ Q (.str (py1 z lo hi) t') { s with toks:=k }:=fun t' k=>⟨.str (py1 z lo hi),H,I.tok k,⟨_,rfl⟩,q⟩
 cases pl with
 | none =>
  cases pu with
  | none=>exact oy5 (l:=none) (u:=none) (st:=none) hs rfl (post_val_or_str ⟨cy6 (Txt.slice_le z _ _) hz,fin⟩)
  | int j tj=>exact oy5 (l:=none) (u:=some (j,tj)) (st:=none) hs rfl (post_val_or_str ⟨cy6 (Txt.slice_le z _ _) hz,fin⟩)
 | int i ti =>
  cases pu with
  | none=>exact oy5 (l:=some (i,ti)) (u:=none) (st:=none) hs rfl (post_val_or_str ⟨cy6 (Txt.slice_le z _ _) hz,fin⟩)
  | int j tj=>exact oy5 (l:=some (i,ti)) (u:=some (j,tj)) (st:=none) hs rfl (post_val_or_str ⟨cy6 (Txt.slice_le z _ _) hz,fin⟩)
theorem Inv.big {pins : List (Addr × Obj)} {σ : St} {H : Hp} {s : Shared} (I : Inv X pins σ H s) : ly1 < s.heap.objs.size:=by
 have h : by7 < s.heap.objs.size:=(I.mod.glob.keeps I.bk).lt
 exact Nat.lt_trans (by decide) h
theorem za60 {P : dy7} {w : World} {H : Hp} (h : Heap) (hb : ly1 < h.objs.size) : zd2 P w H (h.push { cls:=.type "dict",data:=.dict #[] }) h.objs.size (.dK []) :=
 ⟨dy8 _,beq_eq_false_iff_ne.mpr (iy5 (cy7 hb)),[],.nil,Heap.DictOf.new h⟩
def zd09 : TE:=fun _ H Q=>∀ p,H p = none->Q (.ref p) (upd H p (.dK []))
theorem za61 {pos : Pos} : PE X (.Dict [] [] pos) zd09:=fun pins s σ H Q I h =>
 wpAny_Dict_empty ⟨.ref s.heap.objs.size,_,I.laid (a:=s.heap.objs.size) (o:=.dK []) (t':=s.toks) (fun _ _ q=>ay6 _ q) (ay5 _) (za60 s.heap I.big),rfl,h _ (I.hok.fresh (ay5 _))⟩
end
end L2
namespace HT
open PySem PySem.Spec PyProof.Rows
section
variable {prog : dy7} {w : World} {A : Around} {E : Value->Shared->Prop} {s : Shared}
/-- t[lo:hi],the whole of it: t itself -/
theorem zq9 {t sl : Addr} {items : Array Value} {vl vu : Value} {lo hi : Option Int} {Q : Value->Shared->Prop} (ht : IsTup s.heap t items) (hs : s.heap.IsSliceOf sl vl vu .none) (pl : IsPart vl lo) (pu : IsPart vu hi)
  (hw : sIx items.size 0 lo = 0 /\ sIx items.size items.size hi = items.size)
  (h : Q (.ref t) s) : wpAny (model prog w) A (getItem (.ref t) (.ref sl)) Q E s:=by
 obtain ⟨os,hos,hcs,hds⟩:=id hs
 have hTs : s.TypeIs (.ref sl) "slice" := ⟨os,hos,hcs⟩
 unfold getItem
 try with_reducible refine jy3 ?_
 first | refine ay1 (ay9 ?_) | skip
 refine ay1 (wpAny_sequenceKey ht.typeIs (by decide) ?_)
 refine ay1 (hy3 (name:=py9 "__getitem__") ht.typeIs hy2
  (hy5 hy2 ht.typeIs entry_tuple_getitem ?_ (args_tuple_getitem _ _)))
 show wpAny _ _ (Builtin.Tuple.tupleItemsOf (.ref t) >>= _) _ _ s
 refine ay1 (tupleItemsOf_ ht ?_)
 refine ay1 (wpAny_typeOf hTs ?_)
 rw [if_pos (by decide)]
 refine ay1 (zm2 hs pl pu ?_)
 have hno : ((((sIx items.size 0 lo : Nat) : Int) == 0 && (1 : Int) == 1 && (sIx items.size items.size hi - sIx items.size 0 lo) == items.size) = true):=by
  rw [hw.1,hw.2]
  simp
 show wpAny _ _ (if (((sIx items.size 0 lo : Nat) : Int) == 0 && (1 : Int) == 1 && (sIx items.size items.size hi - sIx items.size 0 lo) == items.size) = true then _ else _) _ _ s
 rw [if_pos hno]
 refine ay1 ?_
 unfold Builtin.Tuple.tupleIsExact
 refine ay1 (wpAny_typeOf ht.typeIs (ay9 ?_))
 rw [if_pos (by decide)]
 refine ay1 (wpAny_rule ?_)
 exact ay9 ⟨_,rfl,ay9 h⟩
/-- () + u: u itself -/
theorem za62 {t b : Addr} {vs ws : List Value} {Q : Value->Shared->Prop} (ht : IsTup s.heap t vs.toArray) (hb : IsTup s.heap b ws.toArray) (hv : vs = [])
  (h1 : Q (.ref b) s) : wpAny (model prog w) A (jy5 .Add (.ref t) (.ref b)) Q E s:=by
 obtain ⟨⟨cls,dd,data,sl⟩,ho,hc,n,hd⟩:=id ht
 obtain ⟨⟨cls2,dd2,data2,sl2⟩,ho2,hc2,n2,hd2⟩:=id hb
 simp only at hc hd hc2 hd2
 subst hc hd hc2 hd2
 exact concat_meets ⟨_,ho,rfl⟩ ⟨_,ho2,rfl⟩ noFill_tuple_add seq_tuple_add PySem.F.slot_tuple_add PySem.F.entry_tuple_add (PySem.F.args_tuple_add_2 _ _)
   (tuple_addW0 t b vs.toArray ws.toArray n n2 dd dd2 sl sl2 (by simp [hv])) ⟨ho,ho2,h1⟩
end
end HT
namespace L2
open PySem PySem.Spec PyProof.Rows
theorem za63 {xs : List V} {lo hi : Option Int} (h : HT.sIx xs.length 0 lo = 0 /\ HT.sIx xs.length xs.length hi = xs.length) : zO1 xs lo hi = xs:=by
 unfold zO1
 rw [h.1,h.2]
 simp
section
variable {X : Cx} {tg iter elt : Expr} {ifs : List Expr} {scope : Scope} {pos : Pos} {wi : TI} {g : TG} {tt : TT} {te : TE} {O F : List Str} {cap : List Nat}
/-- a comprehension's block,whatever becomes of its list -/
theorem zU6 {use : Option (Value->Sem Unit)} {R : Value->Shared->Prop} {pins : List (Addr × Obj)} {s : Shared} {σ : St} {H : Hp} {Q : VK} {ps0 : Pos} (hc : X.calm = true) (S : zc3 X.N X.env.scope O F cap scope) (hi : PI X tg iter wi)
  (hg : ∀ cl C ex s H,PG (zf6 X (O++F) scope cl C ex s H) tg g) (ht : ∀ cl C ex s H,PTs (zf6 X (O++F) scope cl C ex s H) ifs tt) (he : ∀ cl C ex s H,PE (zf6 X (O++F) scope cl C ex s H) elt te)
  (ho : Own O.length g) (hs : ∀ x,hy8 iter X.env x = pure x) (I : Inv X pins σ H s) (h : zU5 wi O cap g tt te σ H Q)
  (post : ∀ (s4 : Shared) (D C : Addr) (H4 : Hp) (ys : List V),(∃ m,s4.heap.Ns C m)->D ≠ C->(∀ h',hy0 C s4.heap h'->Inv X pins σ (upd H4 D (.lst ys)) { s4 with heap:=h' })->zC5 X pins (upd H4 D (.lst ys)) C->Q (.ref D) (upd H4 D (.lst ys)) ->
   compPost (model X.prog X.w) X.A X.xe use R (.ref D) C (.ok .next) s4) :
  wpAny (model X.prog X.w) X.A (comprehension (.ListComp elt [⟨tg,iter,ifs,0⟩] scope pos) scope X.env ps0 (newList []) false (eval iter X.env) use) R X.xe s:=by
 have hfr : ∀ y∈scope.names,y.2 = .free->∃ c,X.env.cells.lookup y.1 = some c:=fun y hy e=>I.ok.has y.1 (S.frees y hy e)
 refine wpAny_comprehension_free (use:=use) rfl hs (zw7 hfr) S.kind S.names (thn (hi pins s σ H _ I h) fun v s1 h1=>thn h1 fun itv s2 h2=>?_)
 obtain ⟨it,fp,tn,J,H2,e,I2,T,st2,f2,W,⟨m0,w0⟩,turn⟩:=h2
 subst e
 refine gy3 (wpAny_newFunctionEnv S.nocell (by intro y hy; simp at hy) (fun h1 hns1 hsb1=>?_) S.kind)
 dsimp only at hns1 hsb1 ⊢
 generalize hH0 : s2.heap.push { cls:=.type "list",dict:=none,data:=.seq ([] : List Value).toArray } = h0 at hns1 hsb1 ⊢
 have h0s : h0.objs.size = s2.heap.objs.size + 1:=by rw [<- hH0,ry0]
 have k0 : ∀ b o,s2.heap.get? b = some o->h0.get? b = some o:=fun b o e=>hH0 ▸ ay6 _ e
 have k1 : ∀ b o,h0.get? b = some o->h1.get? b = some o:=fun b o e=>hsb1.extBut b o (cy7 (cy1 e)) (ay6 _ e)
 have oD0 : h0.get? s2.heap.objs.size = some { cls:=.type "list",data:=.seq ([] : List Value).toArray }:=hH0 ▸ by2 _ rfl
 have hDC : s2.heap.objs.size < h0.objs.size:=by rw [h0s]; exact my7 _
 have hsC : s2.heap.objs.size <= h0.objs.size:=my8 hDC
 have flt : ∀ b∈fp,b < s2.heap.objs.size:=fun b hb=>by
  obtain ⟨o,e,_⟩:=T.obj _ _ st2 b hb
  exact cy1 e
 have Dfp : s2.heap.objs.size ∉ fp:=fun z=>ly8 _ (flt _ z)
 have I3 : Inv (zf6 X (O++F) scope (zy9 X.env.cells scope.names []) h0.objs.size (s2.heap.objs.size :: fp) { s2 with heap:=h0 } H2) [] (ze1 O cap σ) H2 { s2 with heap:=h1,toks:=s2.toks + ([] : List (Str × Value)).length } :=
  I2.comp S f2 (T.obj _ _ st2) hsC s2.heap.objs.size (ay5 _) hDC rfl k0 k1 hns1
 generalize hX' : zf6 X (O++F) scope (zy9 X.env.cells scope.names []) h0.objs.size (s2.heap.objs.size :: fp) { s2 with heap:=h0 } H2 = X' at I3
 have hg' : PG X' tg g:=hX' ▸ hg _ _ _ _ _
 have ht' : PTs X' ifs tt:=hX' ▸ ht _ _ _ _ _
 have he' : PE X' elt te:=hX' ▸ he _ _ _ _ _
 have fpok : ∀ {H' : Hp},(∀ b∈s2.heap.objs.size :: fp,H' b = none)->∀ b∈s2.heap.objs.size :: fp,zC5 X' [] H' b:=fun {H'} hn b hb=>by
  have hex : b∈X'.ex:=by rw [<- hX']; exact hb
  refine ⟨hn b hb,(I3.ok.exf b hex).1,I3.ok.exfs b hex,.inl hex,(I3.ok.exf b hex).2,fun p hp=>?_⟩
  rw [<- hX'] at hp
  exact absurd (show p∈([] : List (Addr × Obj)) from hp) (by simp)
 have eP : X'.prog = X.prog:=by rw [<- hX']; rfl
 have eW : X'.w = X.w:=by rw [<- hX']; rfl
 have eK : X'.K = X.K:=by rw [<- hX']; rfl
 have eA : X'.A = X.A:=by rw [<- hX']; rfl
 have eC : X'.calm = true:=by rw [<- hX']; exact hc
 have eE : X'.env = compEnvC scope (zy9 X.env.cells scope.names []) h0.objs.size X.env:=by rw [<- hX']; rfl
 have eX : X'.xe = fun _ _=>False:=by rw [<- hX']; rfl
 have loop : ∀ s3 : Shared,s3 = { s2 with heap:=h1,toks:=s2.toks + ([] : List (Str × Value)).length } ->
   codeAny (model X.prog X.w) X.A (.compLoop (.ListComp elt [⟨tg,iter,ifs,0⟩] scope pos) 0 (.ref it) (.ref s2.heap.objs.size) (compEnvC scope (zy9 X.env.cells scope.names []) h0.objs.size X.env))
    (compPost (model X.prog X.w) X.A X.xe use R (.ref s2.heap.objs.size) h0.objs.size) s3:=by
  rintro s3 rfl
  refine zr7 (fun n s'=>∃ i ys us k H',Inv X' [] (ze1 O cap σ) H' s' /\ tn i s'.heap /\ (∀ b∈s2.heap.objs.size :: fp,H' b = none) /\ s'.heap.get? s2.heap.objs.size = some { cls:=.type "list",data:=.seq us.toArray k } /\ Vals ys us /\ W i n ys H') ?_ m0
   ⟨0,[],[],_,H2,I3,T.keep _ _ _ st2 (fun b _ o e=>k1 b o (k0 b o e)),fun b hb=>?_,k1 _ _ oD0,.nil,w0⟩
  ·rintro n s3 ⟨i,ys,us,k,H3,I3',st3,fr3,o3,rv3,w3⟩
   obtain ⟨hz,step⟩:=turn i n ys H3 w3
   have fpI : ∀ b∈fp,zC5 X' [] H3 b:=fun b hb=>fpok fr3 b (by8 _ hb)
   rcases step with ⟨stop,q⟩ | ⟨go,NN,hNN,step⟩
   ·have:=T.done X' eP eW eK eC i [] s3 (ze1 O cap σ) H3 (fun _ _=>False) I3' fpI st3 stop
    rw [eA] at this
    have hk : ∀ {s4 : Shared},Inv X' [] (ze1 O cap σ) H3 s4->s4.heap.get? s2.heap.objs.size = some { cls:=.type "list",data:=.seq us.toArray k }->compPost (model X.prog X.w) X.A X.xe use R (.ref s2.heap.objs.size) h0.objs.size (.ok .next) s4:=fun {s4} I4 o4=>by
     obtain ⟨m,hm,_⟩:=id I4.loc
     rw [eE] at hm
     have fC : H3 h0.objs.size = none:=by
      have:=I4.free
      rw [eE] at this
      exact this
     have nCD : h0.objs.size ≠ s2.heap.objs.size:=my1 hDC
     refine post s4 s2.heap.objs.size h0.objs.size H3 ys ⟨m,hm⟩ (iy5 nCD) (fun h' sb=>?_) (I2.fpOk hsC (by rw [zb3 nCD]; exact fC)) (q _ (fr3 _ by5))
     rw [<- hX'] at I4
     exact I2.zb32 f2 hsC (ay5 _) hDC k0 I4 (fr3 _ by5) o4 rv3 hz sb
    -- the accumulator is pinned while the iterator ends
    have J3 : Inv X' [(s2.heap.objs.size,{ cls:=.type "list",data:=.seq us.toArray k })] (ze1 O cap σ) H3 s3:=I3'.zj7 fun p hp=>by
     have : p = (s2.heap.objs.size,{ cls:=.type "list",data:=.seq us.toArray k }):=by simpa using hp
     subst this
     obtain ⟨f0,f1,f2',_⟩:=fpok fr3 s2.heap.objs.size by5
     exact ⟨o3,f0,f1,f2',fun v z=>by cases z⟩
    have fpJ : ∀ b∈fp,zC5 X' [(s2.heap.objs.size,{ cls:=.type "list",data:=.seq us.toArray k })] H3 b:=fun b hb=>by
     obtain ⟨f0,f1,f3,f4,f5,f6⟩:=fpI b hb
     refine ⟨f0,f1,f3,f4,f5,fun p hp=>?_⟩
     rcases by9.mp hp with z | z
     ·exact f6 p (fy6 _ z)
     ·have : p = (s2.heap.objs.size,{ cls:=.type "list",data:=.seq us.toArray k }):=by simpa using z
      subst this
      intro e
      exact Dfp (by rw [show s2.heap.objs.size = b from e]; exact hb)
    have fin:=T.done X' eP eW eK eC i _ s3 (ze1 O cap σ) H3 (fun _ _=>False) J3 fpJ st3 stop
    rw [eA] at fin
    refine thn fin fun r s4 ⟨hr,J4⟩=>?_
    subst hr
    exact hk (J4.zj7 fun p hp=>absurd hp (by simp)) (J4.pin (s2.heap.objs.size,{ cls:=.type "list",data:=.seq us.toArray k }) (dy5 _ (cy9.mpr rfl))).1
   ·have J3 : Inv X' (zm1 [s2.heap.objs.size] s3.heap) (ze1 O cap σ) H3 s3:=by
     have:=I3'.pinned (fp:=[s2.heap.objs.size]) (fun b hb=>fpok fr3 b (by simp at hb; simp [hb])) (fun b hb=>by
      have e : b = s2.heap.objs.size:=by simpa using hb
      subst e
      exact ⟨_,o3,fun v z=>by cases z⟩)
     simpa using this
    have fpJ : ∀ b∈fp,zC5 X' (zm1 [s2.heap.objs.size] s3.heap) H3 b:=fun b hb=>by
     obtain ⟨f0,f1,f3,f4,f5,f6⟩:=fpI b hb
     refine ⟨f0,f1,f3,f4,f5,fun p hp=>?_⟩
     rcases by9.mp hp with z | z
     ·exact f6 p (fy6 _ z)
     ·have:=(zt0 z).1
      have e' : p.1 = s2.heap.objs.size:=by simpa using this
      intro e
      exact Dfp (by rw [<- e',e]; exact hb)
    have it3:=T.item X' eP eW eK eC i _ s3 (ze1 O cap σ) H3 (fun _ _=>False) J3 fpJ st3 go
    rw [eA] at it3
    refine thn it3 fun r s4 ⟨u,hr,h4⟩=>?_
    subst hr
    refine thn h4 fun _ s5 ⟨x,H5,I5,r5,y5,st5,fr5⟩=>?_
    have o5 : s5.heap.get? s2.heap.objs.size = some { cls:=.type "list",data:=.seq us.toArray k }:=(I5.pin (_,_) (dy5 _ (zf8 (by simp) o3))).1
    have d5 : H5 s2.heap.objs.size = none:=(I5.pin (_,_) (dy5 _ (zf8 (by simp) o3))).2.1
    have fr5' : ∀ b∈s2.heap.objs.size :: fp,H5 b = none:=fun b hb=>(cy4.mp hb).elim (fun z=>by rw [z]; exact d5) (fr5 b)
    have I5' : Inv X' (zm1 (s2.heap.objs.size :: fp) s5.heap) (ze1 O cap σ) H5 s5:=by
     have:=(I5.zj7 (pins':=[]) fun p hp=>absurd hp (by simp)).pinned (fp:=s2.heap.objs.size :: fp) (fpok fr5') (fun b hb=>by
      rcases cy4.mp hb with e | hb
      ·subst e
       exact ⟨_,o5,fun v z=>by cases z⟩
      ·exact T.obj _ _ st5 b hb)
     simpa using this
    have a5:=hg' _ s5 (ze1 O cap σ) H5 x u _ I5' r5 (ho _ _ _ _ (step x H5 y5))
    rw [eP,eW,eA,eE,eX] at a5
    refine thn a5 fun _ s6 ⟨σ6,H6,I6,⟨l6,w6⟩,q6⟩=>?_
    have t6:=ht' _ s6 σ6 H6 _ I6 q6
    rw [eP,eW,eA,eE,eX] at t6
    refine thn t6 fun ok s7 ⟨H7,I7,q7⟩=>?_
    -- behind the turn
    have back : ∀ {σ8 : St} {H8 : Hp} {s8 : Shared},σ8.length = (ze1 O cap σ).length->Inv X' (zm1 (s2.heap.objs.size :: fp) s5.heap) σ8 H8 s8->(∀ (j : Nat) v,(ze1 O cap σ)[j]? = some (some v)->σ8[j]? = some (some v)) ->
      Inv X' [] (ze1 O cap σ) H8 s8 /\ tn (i + 1) s8.heap /\ (∀ b∈s2.heap.objs.size :: fp,H8 b = none) /\ s8.heap.get? s2.heap.objs.size = some { cls:=.type "list",data:=.seq us.toArray k }:=fun {σ8 H8 s8} hl I8 hw=>by
     have pin8 : ∀ b∈s2.heap.objs.size :: fp,∀ o,s5.heap.get? b = some o->s8.heap.get? b = some o /\ H8 b = none:=fun b hb o e=>by
      have:=I8.pin (b,o) (dy5 _ (zf8 hb e))
      exact ⟨this.1,this.2.1⟩
     refine ⟨(I8.zj7 fun p hp=>absurd hp (by simp)).weak hl.symm hw,T.keep _ _ _ st5 fun b hb o e=>(pin8 b (by8 _ hb) o e).1,fun b hb=>?_,(pin8 _ by5 _ o5).1⟩
     rcases cy4.mp hb with e | hb'
     ·exact (pin8 b hb _ (by rw [e]; exact o5)).2
     ·obtain ⟨o,e,_⟩:=T.obj _ _ st5 b hb'
      exact (pin8 b hb o e).2
    have w6' : ∀ (j : Nat) v,(ze1 O cap σ)[j]? = some (some v)->σ6[j]? = some (some v):=fun j v e=>by
     by_cases hj : O.length <= j
     ·rw [w6 j hj]; exact e
     ·exfalso
      unfold ze1 at e
      rw [ay8 (by simpa using Nat.not_le.mp hj),ay4] at e
      cases q : O[j]? with
      | none=>rw [q] at e; cases e
      | some z=>rw [q] at e; cases e
    cases ok with
    | false =>
     rw [if_neg cy3] at q7 ⊢
     obtain ⟨m',hm,w7⟩:=hNN _ _ q7
     obtain ⟨b1,b2,b3,b4⟩:=back l6 I7 w6'
     exact ⟨m',hm,i + 1,ys,us,k,H7,b1,b2,b3,b4,rv3,w7⟩
    | true =>
     rw [if_pos rfl] at q7 ⊢
     have e7:=he' _ s7 σ6 H7 _ I7 q7
     rw [eP,eW,eA,eE,eX] at e7
     refine thn e7 fun y s8 ⟨z,H8,I8,r8,q8⟩=>?_
     obtain ⟨m',hm,w8⟩:=hNN _ _ q8
     obtain ⟨b1,b2,b3,b4⟩:=back l6 I8 w6'
     have hzs : us.toArray.size <= by0:=by rw [by6,<- rv3.length]; exact hz
     refine append_at (hsz:=hzs) b4 fun h9 hs9 hD9=>?_
     obtain ⟨f0,f1,f2',f3,f4,f5⟩:=fpok b3 s2.heap.objs.size by5
     have I9 : Inv X' [] (ze1 O cap σ) H8 { s8 with heap:=h9 }:=b1.turned (t':=s8.toks) (fun b o hb e=>(hs9.2 b hb).trans e) f0 f1 f3 f4 f5
     refine ⟨m',hm,i + 1,ys++[z],us++[y],k + 1,H8,I9,T.keep _ _ _ b2 fun b hb o e=>(hs9.2 b fun q=>Dfp (by rw [<- q]; exact hb)).trans e,b3,?_,rv3.snoc r8,w8⟩
     rw [hD9,List.push_toArray]
  ·rcases cy4.mp hb with e | hb
   ·rw [e]; exact I2.hok.fresh (ay5 _)
   ·exact (f2 b hb).1
 exact codeAny_compStart_list (loop _ rfl) (T.self _ 0 _ _ _ (T.keep _ _ _ st2 (fun b _ o e=>k1 b o (k0 b o e))) (loop _ rfl))
/-- x = [elt for tg in iter if ..] -/
theorem zU7 {i : Nat} {x : Str} {pos' spos : Pos} (hN : X.N.Nodup) (hix : X.N[i]? = some x) (hx : Loc X.env.scope x) (hc : X.calm = true) (S : zc3 X.N X.env.scope O F cap scope) (hi : PI X tg iter wi)
  (hg : ∀ cl C ex s H,PG (zf6 X (O++F) scope cl C ex s H) tg g) (ht : ∀ cl C ex s H,PTs (zf6 X (O++F) scope cl C ex s H) ifs tt) (he : ∀ cl C ex s H,PE (zf6 X (O++F) scope cl C ex s H) elt te)
  (ho : Own O.length g) (hsw : swapsWith (.ListComp elt [⟨tg,iter,ifs,0⟩] scope pos) (some (.Name x pos')) spos.line X.env = pure true:=by rfl) (hs : ∀ x,hy8 iter X.env x = pure x:=by intro _; rfl)
  (hf : X.fn x = true \/ X.env.scope.names.lookup x = some .local:=by first | exact .inl rfl | exact .inr rfl | assumption) :
  PS X (.Assign [.Name x pos'] (.ListComp elt [⟨tg,iter,ifs,0⟩] scope pos) spos) (tAsg (zU5 wi O cap g tt te) (zN2 i)):=by
 intro pins s σ H D I h
 rw [exec_Assign_Name_used _ _ _ _ hsw]
 refine ay1 (wpAny_standAt (ay1 ?_))
 show wpAny _ X.A (do let _ <- comprehension (.ListComp elt [⟨tg,iter,ifs,0⟩] scope pos) scope X.env _ (newList []) false (eval iter X.env) (some (assign (.Name x pos') X.env))) _ _ s
 refine ay1 (ly2 (zU6 (R:=fun _ s'=>SP X pins D .next s') hc S hi hg ht he ho hs I h ?_) (fun _ s' hq=>ay9 (ay9 hq)) fun _ _ e=>e)
 intro s4 D' C H4 ys ⟨m,hm⟩ hDC hI fp q
 show wpAny (model X.prog X.w) X.A (assign (.Name x pos') X.env (.ref D')) (fun _ s''=>∃ m,s''.heap.Ns C m /\ ∀ h',hy0 C s''.heap h'->SP X pins D .next { s'' with heap:=h' }) X.xe s4
 obtain ⟨f0,f1,f2,f3,f4,f5⟩:=fp
 refine wpAny_assign_Name (zC3 (v:=.ref D') (hI s4.heap ⟨rfl,fun _ _=>rfl⟩) hN hix hx rfl (fun s5 I5 z=>?_) hf)
 obtain ⟨a,sb,ha⟩:=z
 have hCa : C ≠ a:=by
  rcases ha with e | e
  ·rw [e]; exact f1
  ·exact iy5 (f4 x a e)
 refine ⟨m,hm.sameBut sb hCa,fun h' sb'=>?_⟩
 exact ⟨_,upd H4 D' (.lst ys),I5.turned (t':=s5.toks) (fun b o hb e=>(sb'.2 b hb).trans e) f0 f1 f3 f4 f5,q⟩
end
/-- data that == may be asked of -/
structure Dat (d : PyData) : Prop where
 lay : d.canLay0 = true
 dep : d.depth <= 64
section
variable {X : Cx}
theorem zO3 {M : Model} {A : Around} {E : Value->Shared->Prop} {s : Shared} {a b : Value} {Q : Value->Shared->Prop} (ha : s.TypeIs a "list") (hb : s.TypeIs b "list")
  (hc : wpAny M A (call (.builtin "list.__iadd__") [a,b]) Q E s) : wpAny M A (inplaceOp .Add a b) Q E s:=by
 unfold inplaceOp
 refine jy3 ?_
 have hl : typeLookup (.type "list") (dunderI "add") = pure (some (.builtin "list.__iadd__")):=F.slot_list_iadd.lookup
 have hfi : fillsInplaceSlot (.type "list") "add" (Operator.Add == .Add) = pure false:=by
  unfold fillsInplaceSlot
  show (typeLookup (.type "list") (dunderI "add") >>= fun fi=>pure (fi.isSome && !isSeqSlot fi)) = pure false
  rw [hl]
  show (pure (_ && !isSeqSlot (some (.builtin "list.__iadd__"))) : Sem Bool) = pure false
  rw [show isSeqSlot (some (.builtin "list.__iadd__")) = true by decide +kernel]
  rfl
 have hsi : seqSlot? (.type "list") (dunderI "add") = pure (some (.builtin "list.__iadd__")):=PySem.seqSlot_of (name:=dunderI "add") hl (by decide +kernel)
 refine ay1 (wpAny_typeOf ha (ay1 (wpAny_of_eq hfi ?_)))
 show wpAny M A (if false = true then _ else _) Q E s
 rw [if_neg cy3]
 refine ay1 (wpAny_binaryOp1_none (nm := "add") ha hb noFill_list_add ?_)
 refine ay1 (wpAny_of_eq hsi ?_)
 exact ay1 (wpAny_rule hc)
end
section
variable {X : Cx} {a b c d : Expr} {ta tb tc td : TE} {pos : Pos}
def repS (z : Str) (n : Nat) : Str:=⟨(ky6 n z.cps).foldl (·++·) #[]⟩
theorem zb81 : OpR X (jy5 .Mult) (fun x y H Q=>∃ (z : Str) (n : Nat),x = .str z /\ y = .int n /\ 1 <= n /\ n <= 1000 /\ z.length <= 1000 /\ (n ≠ 1->z.length ≠ 0->Q (.str (repS z n)) H) /\ (n = 1->Q (.str z) H) /\ (z.length = 0->Q (.str z) H)):=by
 intro pins s σ H x y v u Q I rx ry h
 obtain ⟨z,n,rfl,rfl,h1,h2,h3,q1,q2,q3⟩:=h
 obtain ⟨t,rfl⟩:=rx
 obtain ⟨t',rfl⟩:=ry
 have hmul : z.length * n <= 1000000:=Nat.mul_le_mul h3 h2
 refine P.mul_str ?_ (fun _ _=>?_) (fun _ _=>?_) ?_
 ·rw [decide_eq_false (show ¬ (n : Int) < -(2 ^ 63 : Int) by omega),decide_eq_false (show ¬ (n : Int) >= 2 ^ 63 by omega)]
  rfl
 ·have : (9223372036854775807 : Int) / (n : Int) >= 9223372036854775807 / 1000:=by
   apply Int.le_ediv_of_mul_le (by omega)
   have : (n : Int) <= 1000:=by omega
   omega
  have e : ((2 : Int) ^ 63 - 1) = 9223372036854775807:=by decide
  rw [e]
  omega
 ·unfold Builtin.Str.tooLong
  rw [hy1]
  exact decide_eq_false (Nat.not_lt.mpr (cy6 hmul (by decide)))
 ·rw [if_neg (by omega)]
  by_cases h0 : ((n : Int) == 1 || z.length == 0) = true
  ·rw [if_pos h0]
   refine ⟨.str z,H,I,⟨_,rfl⟩,?_⟩
   simp at h0
   rcases h0 with h0 | h0
   ·exact q2 (by omega)
   ·exact q3 h0
  ·rw [if_neg h0,hy1]
   simp at h0
   refine ⟨?_,.str (repS z n),H,I.tok _,⟨_,rfl⟩,q1 (by omega) h0.2⟩
   have size_fold : ∀ (k : Nat) (acc : Array Nat),((ky6 k z.cps).foldl (·++·) acc).size = acc.size + z.length * k:=by
    intro k
    induction k with
    | zero=>intro acc; simp
    | succ k ih =>
     intro acc
     rw [List.replicate_succ,List.foldl_cons,ih,Array.size_append,Nat.mul_succ]
     show acc.size + z.length + z.length * k = _
     omega
   show ((ky6 n z.cps).foldl (·++·) #[]).size <= by0
   rw [size_fold]
   exact cy6 (by simp; exact hmul) (by decide)
end
end L2
namespace L2
open PySem PySem.Spec PyProof.Rows PySem.W
theorem zt6 : ∀ {ns : List Int} {n : Int},n∈ns->gy9 n <= WData.weightAll (ns.map WData.int)
 | m :: ns,n,h=>by
  simp only [fy4,WData.weightAll]
  rcases cy4.mp h with rfl | h
  ·have : gy9 n = WData.weight (.int n):=by simp [WData.weight,gy9]
   omega
  ·have:=zt6 h
   omega
/-- the same,each number of the script with its bits -/
theorem za64 {l : PySem.W.OpenLaw} {n k : Nat} {q : dy7} {loose : List Str} {XP : (Str->Option Value)->Heap->Prop} {YP : World->Heap->Prop} {d : DefRec} {K : Params->ay2} {CX : World->CXT} {sp : World->Sp} {x : Str}
  (hn : l.most = some n) (hn2 : n <= by0) (hdf : d.params.defaults = []) (hr : zt1 k callerA)
  (hY : ∀ (w : World) (h : Heap),YP w h->(K w.params).In h)
  (F : ∀ (w : World) (mg : Str->Option Value) (fa : Addr) (h : Heap),(K w.params).In h->h.Ns by7 mg->mg d.name = some (.ref fa) ->
   ∃ fd : ey8,(∀ (s : Shared) (u : Value),BindsTo s fd ⟨[u],[]⟩ [(x,u)]) /\
    ∀ base : Heap,(K w.params).In base->base.Ns by7 mg->zj8 l.prog w (K w.params) mg base (CX w) k fa fd [x] (sp w))
  (hsp : ∀ (w : World) (H : Hp) (a : Addr) (ns : List Int),ns.length <= n->(∀ m∈ns,gy9 m <= 2 ^ 20)->Only H->SqL (K w.params) H a (ns.map V.int)->sp w [.ref a] H (fun v _=>v = .bl true) fun _ _ _=>False)
  (hCX : ∀ (w : World) (H : Hp) (s : Shared) (e : Value) (s' : Shared),CX w [] H s (fun _ _ _=>False) e s'->False) :
  PySem.W.WalkO q loose XP YP l.row.toRowW d [] (fun f vs=>PySem.call f vs):=by
 intro w s₀ s₁ mg mb G Y fa o pm cd doc dV kV ho hd hcd hD hmg hg args vals as hpre hlay hrd hwl hlo
 obtain rfl : dV = .none:=Dflts.none hD hdf
 obtain rfl : kV = .none:=Dflts.noKw hD
 obtain ⟨a,vs,ns,rfl,rfl,hobj,hints,hlen⟩:=Att.zU3 hn hpre hwl
 have KX:=hY w _ Y
 obtain ⟨fd,hb,hF⟩:=F w mg fa _ KX G.T.g hmg
 have hbits : ∀ m∈ns,gy9 m <= 2 ^ 20:=fun m hm=>by
  have h1:=(layableW_iff.mp (layW_cons hlay).1).2.2
  have h2:=zt6 hm
  have e : WData.weight (.list (ns.map WData.int)) = WData.weightAll (ns.map WData.int):=by simp [WData.weight]
  rw [e] at h1
  exact cy6 h2 h1
 refine PySem.W.enter_call (codeAny_mono (za56 KX G.T.g G.T.b G.T.builtins G.T.nolimit hg hobj hints (cy6 hlen hn2) hr hF hb (fun H hO hS=>hsp w H a ns hlen hbits hO hS) fun H e s'=>hCX w H s₁ e s') fun r s' hq=>?_)
 obtain ⟨rfl,h2,h3,h4⟩:=hq
 exact ⟨.inl ⟨.bool true,.bool true,[],rfl,fun _=>rfl,.bool true,Att.zU4 l _,fun _=>⟨List.Pairwise.nil,fun _ hm=>(nomatch hm)⟩⟩,h2,h3,h4⟩
end L2
namespace L2
open PySem PySem.Spec PyProof.Rows
section
variable {α β : Type} {F G : α->β->Prop}
theorem zf4 (h : ∀ a b,F a b->G a b) : ∀ {l : List α} {m : List β},Paired F l m->Paired G l m
 | _,_,.nil=>.nil
 | _,_,.cons a t=>.cons (h _ _ a) (zf4 h t)
theorem zi5 : ∀ {l : List α} {m : List β} {i : Nat} {a : α},Paired F l m->l[i]? = some a->∃ b,m[i]? = some b /\ F a b
 | _,_,_,_,.nil,e=>by simp at e
 | _,_,0,_,.cons h _,e=>by simp at e; subst e; exact ⟨_,rfl,h⟩
 | _,_,i + 1,a,.cons _ t,e=>by
  obtain ⟨b,h1,h2⟩:=zi5 (i:=i) (a:=a) t (by simpa using e)
  exact ⟨b,by simpa using h1,h2⟩
theorem zi6 : ∀ {l : List α} {m : List β} {i : Nat} {b : β},Paired F l m->m[i]? = some b->∃ a,l[i]? = some a /\ F a b
 | _,_,_,_,.nil,e=>by simp at e
 | _,_,0,_,.cons h _,e=>by simp at e; subst e; exact ⟨_,rfl,h⟩
 | _,_,i + 1,b,.cons _ t,e=>by
  obtain ⟨a,h1,h2⟩:=zi6 (i:=i) (b:=b) t (by simpa using e)
  exact ⟨a,by simpa using h1,h2⟩
theorem zb6 : ∀ {l : List α} {m : List β},Paired F l m->l.length = m.length
 | _,_,.nil=>rfl
 | _,_,.cons _ t=>by simp [zb6 t]
theorem zo1 : ∀ {l l' : List α} {m m' : List β},Paired F l m->Paired F l' m'->Paired F (l++l') (m++m')
 | _,_,_,_,.nil,s=>s
 | _,_,_,_,.cons h t,s=>.cons h (zo1 t s)
theorem zU8 : ∀ {l : List α} {m : List β} (n : Nat),Paired F l m->Paired F (l.take n) (m.take n)
 | _,_,0,_=>.nil
 | _,_,_ + 1,.nil=>.nil
 | _,_,n + 1,.cons r t=>.cons r (zU8 n t)
theorem zU9 : ∀ {l : List α} {m : List β} (n : Nat),Paired F l m->Paired F (l.drop n) (m.drop n)
 | _,_,0,r=>r
 | _,_,_ + 1,.nil=>.nil
 | _,_,n + 1,.cons _ t=>zU9 n t
theorem zb33 {a : α} {b : β} (r : F a b) : ∀ {l : List α} {m : List β} (i : Nat),Paired F l m->Paired F (l.set i a) (m.set i b)
 | _,_,_,.nil=>.nil
 | _,_,0,.cons _ t=>.cons r t
 | _,_,i + 1,.cons q t=>.cons q (zb33 r i t)
theorem zb34 {γ : Type} {f : γ->α} {l : List γ} {m : List β} (h : Paired (fun c b=>F (f c) b) l m) : Paired F (l.map f) m:=by
 induction h with
 | nil=>exact .nil
 | cons r _ ih=>exact .cons r ih
theorem zz1 {γ : Type} {f : γ->α} : ∀ {l : List γ} {m : List β},Paired F (l.map f) m->Paired (fun c b=>F (f c) b) l m
 | [],_,.nil=>.nil
 | _ :: _,_,.cons r t=>.cons r (zz1 t)
end
mutual
inductive Rq (K : ay2) (F : Hp) : V->PyData->Prop
 | non : Rq K F .non .none
 | bl (b : Bool) : Rq K F (.bl b) (.bool b)
 | int (i : Int) : Rq K F (.int i) (.int i)
 | str (x : Str) : Rq K F (.str x) (.str x)
 | lst {a : Addr} {vs : List V} {ds : List PyData} : Rd F a (.lst vs)->Rqs K F vs ds->Rq K F (.ref a) (.list ds)
 | tup {a : Addr} {vs : List V} {ds : List PyData} : SqT K F a vs->Rqs K F vs ds->Rq K F (.ref a) (.tuple ds)
 | dct {a : Addr} {kvs : List (Key × V)} {xs : List (PyData × PyData)} : F a = some (.dK kvs)->kvs.isEmpty = xs.isEmpty->Rq K F (.ref a) (.dict xs)
inductive Rqs (K : ay2) (F : Hp) : List V->List PyData->Prop
 | nil : Rqs K F [] []
 | cons {v : V} {d : PyData} {vs : List V} {ds : List PyData} : Rq K F v d->Rqs K F vs ds->Rqs K F (v :: vs) (d :: ds)
end
theorem zo0.rd {H H' : Hp} {a : Addr} {u : HO} (e : zo0 H H') (h : Rd H a u) : Rd H' a u:=by
 rcases h with h | ⟨o,h⟩
 ·exact .inl (e _ _ h)
 ·exact .inr ⟨o,e _ _ h⟩
theorem zo0.zw8 {K : ay2} {H H' : Hp} {a : Addr} {xs : List V} (e : zo0 H H') (h : SqT K H a xs) : SqT K H' a xs:=by
 rcases h with (h | ⟨o,h⟩) | h
 ·exact .inl (.inl (e _ _ h))
 ·exact .inl (.inr ⟨o,e _ _ h⟩)
 ·exact .inr h
mutual
theorem Rq.same {K : ay2} {H H' : Hp} (s : zo0 H H') : ∀ (d : PyData) {v : V},Rq K H v d->Rq K H' v d
 | .none,_,.non=>.non
 | .bool _,_,.bl b=>.bl b
 | .int _,_,.int i=>.int i
 | .str _,_,.str x=>.str x
 | .list ds,_,.lst e r=>.lst (s.rd e) (Rqs.same s ds r)
 | .tuple ds,_,.tup e r=>.tup (s.zw8 e) (Rqs.same s ds r)
 | .dict _,_,.dct e h=>.dct (s _ _ e) h
theorem Rqs.same {K : ay2} {H H' : Hp} (s : zo0 H H') : ∀ (ds : List PyData) {vs : List V},Rqs K H vs ds->Rqs K H' vs ds
 | [],_,.nil=>.nil
 | d :: ds,_,.cons r t=>.cons (Rq.same s d r) (Rqs.same s ds t)
end
theorem Rqs.pd {K : ay2} {H : Hp} : ∀ {vs : List V} {ds : List PyData},Rqs K H vs ds->Paired (fun d v=>Rq K H v d) ds vs
 | _,_,.nil=>.nil
 | _,_,.cons r t=>.cons r (Rqs.pd t)
theorem Rqs.of {K : ay2} {H : Hp} : ∀ {ds : List PyData} {vs : List V},Paired (fun d v=>Rq K H v d) ds vs->Rqs K H vs ds
 | _,_,.nil=>.nil
 | _,_,.cons r t=>.cons r (Rqs.of t)
/-- a value that some data may be read of: a text ... -/
theorem Rq.zg1 {K : ay2} {H : Hp} {v : V} {x : Str} (r : Rq K H v (.str x)) : v = .str x:=by cases r; rfl
theorem Rq.zd4 {K : ay2} {H : Hp} {v : V} {x : Int} (r : Rq K H v (.int x)) : v = .int x:=by cases r; rfl
theorem Rq.zt7 {K : ay2} {H : Hp} {v : V} {x : Bool} (r : Rq K H v (.bool x)) : v = .bl x:=by cases r; rfl
theorem Rq.zd10 {K : ay2} {H : Hp} {v : V} (r : Rq K H v .none) : v = .non:=by cases r; rfl
theorem Rq.zi7 {K : ay2} {H : Hp} {v : V} {ds : List PyData} (r : Rq K H v (.tuple ds)) : ∃ a vs,v = .ref a /\ SqT K H a vs /\ Paired (fun d v=>Rq K H v d) ds vs:=by
 cases r with
 | tup h t=>exact ⟨_,_,rfl,h,t.pd⟩
theorem Rq.zt8 {K : ay2} {H : Hp} {v : V} {ds : List PyData} (r : Rq K H v (.list ds)) : ∃ a vs,v = .ref a /\ Rd H a (.lst vs) /\ Paired (fun d v=>Rq K H v d) ds vs:=by
 cases r with
 | lst h t=>exact ⟨_,_,rfl,h,t.pd⟩
mutual
theorem Rq.reads {X : Cx} {pins : List (Addr × Obj)} {σ : St} {H : Hp} {s : Shared} (I : Inv X pins σ H s) : ∀ (d : PyData) {v : V} {u : Value},d.canLay0 = true->Rq X.K H v d->RelV v u->∃ as,Reads s.heap u d as
 | .none,_,_,_,.non,r=>by cases r; exact ⟨_,.none⟩
 | .bool _,_,_,_,.bl b,r=>by cases r; exact ⟨_,.bool b⟩
 | .int _,_,_,_,.int i,r=>by obtain ⟨t,rfl⟩:=r; exact ⟨_,.int i t⟩
 | .str _,_,_,_,.str x,r=>by obtain ⟨t,rfl⟩:=r; exact ⟨_,.str x t⟩
 | .list ds,_,_,c,.lst e q,r=>by
  cases r
  obtain ⟨its,rv,⟨o,n,ho,hc,_,hd⟩,_⟩:=I.list (.inl e)
  obtain ⟨as,h⟩:=Rqs.reads I ds (by simpa [iy4] using c) q rv
  exact ⟨_,.list ho hc hd (by simpa using h)⟩
 | .tuple ds,_,_,c,.tup e q,r=>by
  cases r
  obtain ⟨its,rv,⟨o,ho,hc,n,hd⟩,_⟩:=I.tuple e
  obtain ⟨as,h⟩:=Rqs.reads I ds (by simpa [iy4] using c) q rv
  exact ⟨_,.tuple ho hc hd (by simpa using h)⟩
 | .dict _,_,_,c,.dct e _,r=>by simp [iy4] at c
theorem Rqs.reads {X : Cx} {pins : List (Addr × Obj)} {σ : St} {H : Hp} {s : Shared} (I : Inv X pins σ H s) : ∀ (ds : List PyData) {vs : List V} {us : List Value},ey2 ds = true->Rqs X.K H vs ds->Vals vs us->∃ as,ReadsAll s.heap us ds as
 | [],_,_,_,.nil,r=>by cases r; exact ⟨_,.nil⟩
 | d :: ds,_,_,c,.cons q t,r=>by
  cases r with
  | cons r1 r2 =>
   simp [ey2] at c
   obtain ⟨as,h⟩:=Rq.reads I d c.1 q r1
   obtain ⟨bs,h'⟩:=Rqs.reads I ds c.2 t r2
   exact ⟨_,.cons h h'⟩
end
inductive El where
 | d (x : PyData)
 | o (k : Nat)
 /-- the script -/
 | s (ns : List Int)
 /-- an exception that is kept,of the class at C -/
 | x (C : Addr)
 /-- a tuple of numbers and texts that is made here: a key -/
 | p (ks : List Key)
 /-- a tuple of data and of objects that are changed -/
 | t (xs : List (Sum PyData Nat))
 /-- a def of the text,as a value -/
 | f (a : Addr)
inductive OD where
 | lst (xs : List El)
 | dK (kvs : List (Key × El))
 | dT (kvs : List (List Key × El))
 /-- such a dict while it is walked: nobody changes it -/
 | fT (o : Obj) (kvs : List (List Key × El))
 | fK (o : Obj) (kvs : List (Key × El))
 /-- any other thing: what is true of its address and its one object -/
 | x (φ : ay2->Hp->Addr->(Heap->Prop)->Prop)
abbrev Wl:=List OD
abbrev Sl:=List (Option El)
/-- an exception that is kept -/
def excO (a C : Addr) : HO:=.ext fun h=>∃ o,h.get? a = some o /\ o.cls = .ref C
/-- what stands in such a tuple -/
def TiR (K : ay2) (F : Hp) (A : List Addr) : Sum PyData Nat->V->Prop
 | .inl d,v=>Rq K F v d
 | .inr k,v=>∃ a,A[k]? = some a /\ v = .ref a
def ElR (K : ay2) (F : Hp) (A : List Addr) : El->V->Prop
 | .d x,v=>Rq K F v x
 | .o k,v=>∃ a,A[k]? = some a /\ v = .ref a
 | .s ns,v=>∃ a,v = .ref a /\ SqL K F a (ns.map V.int)
 | .x C,v=>∃ a,v = .ref a /\ F a = some (excO a C)
 | .p ks,v=>∃ a,v = .ref a /\ F a = some (.tup (ks.map kV))
 | .f a,v=>v = .ref a
 | .t xs,v=>∃ a vs,v = .ref a /\ F a = some (.tup vs) /\ Paired (TiR K F A) xs vs
theorem ElR.dd {K : ay2} {F : Hp} {A : List Addr} {x : PyData} {v : V} (h : Rq K F v x) : ElR K F A (.d x) v:=h
theorem ElR.oo {K : ay2} {F : Hp} {A : List Addr} {k : Nat} {a : Addr} (h : A[k]? = some a) : ElR K F A (.o k) (.ref a):=⟨a,h,rfl⟩
/-- the keys of the raw dict o,known tuples -/
def KeysIn (F : Hp) (o : Obj) (ks : List (List Key)) : Prop:=∃ es ep,o.ExactDict /\ o.data = .dict es ep /\ es.size = ks.length /\ ∀ (i : Nat) k,ks[i]? = some k->∃ en b,es[i]? = some en /\ en.key = .ref b /\ F b = some (.tup (k.map kV))
theorem KeysIn.same {F F' : Hp} {o : Obj} {ks : List (List Key)} (h : KeysIn F o ks) (s : zo0 F F') : KeysIn F' o ks:=by
 obtain ⟨es,ep,h1,h2,h3,h4⟩:=h
 refine ⟨es,ep,h1,h2,h3,fun i k hk=>?_⟩
 obtain ⟨en,b,e1,e2,e3⟩:=h4 i k hk
 exact ⟨en,b,e1,e2,s _ _ e3⟩
def OdR (K : ay2) (F : Hp) (A : List Addr) (a : Addr) : OD->HO->Prop
 | .lst es,h=>∃ vs,h = .lst vs /\ Paired (ElR K F A) es vs
 | .dK kvs,h=>∃ vs,h = .dK vs /\ Paired (fun p q=>p.1 = q.1 /\ ElR K F A p.2 q.2) kvs vs
 | .dT kvs,h=>∃ vs,h = .dT vs /\ Paired (fun p q=>p.1 = q.1 /\ ElR K F A p.2 q.2) kvs vs
 | .fT o kvs,h=>∃ vs,(h = .frz o (.dT vs) /\ KeysIn F o (kvs.map (·.1))) /\ Paired (fun p q=>p.1 = q.1 /\ ElR K F A p.2 q.2) kvs vs
 | .fK o kvs,h=>∃ vs,h = .frz o (.dK vs) /\ Paired (fun p q=>p.1 = q.1 /\ ElR K F A p.2 q.2) kvs vs
 | .x φ,h=>∃ ψ,h = .ext ψ /\ ∃ F0,zo0 F0 F /\ φ K F0 a ψ
structure RW (K : ay2) (F : Hp) (A : List Addr) (W : Wl) (H : Hp) : Prop where
 sub : zo0 F H
 len : A.length = W.length
 nd : A.Nodup
 out : ∀ a∈A,F a = none
 obj : ∀ (k : Nat) a o,A[k]? = some a->W[k]? = some o->∃ h,H a = some h /\ OdR K F A a o h
structure SR (K : ay2) (F : Hp) (A : List Addr) (S : Sl) (σ : St) : Prop where
 len : S.length = σ.length
 get : ∀ (i : Nat) e,S[i]? = some (some e)->∃ v,σ[i]? = some (some v) /\ ElR K F A e v
structure Ext (F : Hp) (A : List Addr) (F' : Hp) (A' : List Addr) : Prop where
 same : zo0 F F'
 pre : A <+: A'
section
variable {K : ay2} {F F' F1 F2 : Hp} {A A' A1 A2 : List Addr} {W W' : Wl} {H H' : Hp}
theorem Ext.refl : Ext F A F A:=⟨.refl _,ry4 _⟩
theorem Ext.trans (a : Ext F A F1 A1) (b : Ext F1 A1 F2 A2) : Ext F A F2 A2:=⟨a.same.trans b.same,a.pre.trans b.pre⟩
theorem zV0 {A A' : List Addr} (h : A <+: A') {k : Nat} {a : Addr} (e : A[k]? = some a) : A'[k]? = some a:=by
 obtain ⟨r,rfl⟩:=h
 rw [ay8 (by obtain ⟨q,_⟩:=ay0.mp e; exact q)]
 exact e
theorem TiR.ext (x : Ext F A F' A') : ∀ {e : Sum PyData Nat} {v : V},TiR K F A e v->TiR K F' A' e v
 | .inl _,_,h=>Rq.same x.same _ h
 | .inr _,_,⟨a,h,r⟩=>⟨a,zV0 x.pre h,r⟩
theorem ElR.ext (x : Ext F A F' A') : ∀ {e : El} {v : V},ElR K F A e v->ElR K F' A' e v
 | .d _,_,h=>Rq.same x.same _ h
 | .o _,_,⟨a,h,r⟩=>⟨a,zV0 x.pre h,r⟩
 | .s _,_,⟨a,h,r⟩=>⟨a,h,x.same.seq r⟩
 | .x _,_,⟨a,h,r⟩=>⟨a,h,x.same _ _ r⟩
 | .p _,_,⟨a,h,r⟩=>⟨a,h,x.same _ _ r⟩
 | .f _,_,h=>h
 | .t _,_,⟨a,vs,h,r,p⟩=>⟨a,vs,h,x.same _ _ r,zf4 (fun _ _ z=>z.ext x) p⟩
theorem OdR.ext (x : Ext F A F' A') {a : Addr} : ∀ {o : OD} {h : HO},OdR K F A a o h->OdR K F' A' a o h
 | .lst _,_,⟨vs,e,p⟩=>⟨vs,e,zf4 (fun _ _ r=>r.ext x) p⟩
 | .dK _,_,⟨vs,e,p⟩=>⟨vs,e,zf4 (fun _ _ r=>⟨r.1,r.2.ext x⟩) p⟩
 | .dT _,_,⟨vs,e,p⟩=>⟨vs,e,zf4 (fun _ _ r=>⟨r.1,r.2.ext x⟩) p⟩
 | .fT _ _,_,⟨vs,⟨e,ki⟩,p⟩=>⟨vs,⟨e,ki.same x.same⟩,zf4 (fun _ _ r=>⟨r.1,r.2.ext x⟩) p⟩
 | .fK _ _,_,⟨vs,e,p⟩=>⟨vs,e,zf4 (fun _ _ r=>⟨r.1,r.2.ext x⟩) p⟩
 | .x _,_,⟨ψ,e,F0,s,p⟩=>⟨ψ,e,F0,s.trans x.same,p⟩
theorem SR.ext {S : Sl} {σ : St} (r : SR K F A S σ) (x : Ext F A F' A') : SR K F' A' S σ:=⟨r.len,fun i e h=>by
 obtain ⟨v,h1,h2⟩:=r.get i e h
 exact ⟨v,h1,h2.ext x⟩⟩
theorem SR.set {S : Sl} {σ : St} (r : SR K F A S σ) {e : El} {v : V} (h : ElR K F A e v) (i : Nat) : SR K F A (S.set i (some e)) (σ.set i (some v)):=⟨by simp [r.len],fun j e' q=>by
 by_cases hj : i = j
 ·subst hj
  have hi : i < S.length:=by
   have:=(ay0.mp q).1
   simpa using this
  rw [dy3 hi] at q
  cases q
  exact ⟨v,by rw [dy3 (by rw [<- r.len]; exact hi)],h⟩
 ·rw [ey6 hj] at q
  obtain ⟨v',h1,h2⟩:=r.get j e' q
  exact ⟨v',by rw [ey6 hj]; exact h1,h2⟩⟩
/-- an object stands alone -/
theorem RW.zd11 (r : RW K F A W H) {p : Addr} (h : H p = none) : p ∉ A:=fun z=>by
 obtain ⟨k,hk⟩:=gy0.mp z
 have hl : k < W.length:=by rw [<- r.len]; exact (ay0.mp hk).1
 obtain ⟨o,e,_⟩:=r.obj k p W[k] hk (by simp [hl])
 rw [h] at e
 cases e
theorem zp3 {F : Hp} {p : Addr} {o : HO} (h : F p = none) : zo0 F (upd F p o):=fun b o' e=>by rw [zb3 (zb1 e h)]; exact e
theorem za65 {F H : Hp} (s : zo0 F H) {p : Addr} {o : HO} : zo0 (upd F p o) (upd H p o):=fun b o' e=>by
 by_cases hb : b = p
 ·subst hb; rw [zc4] at e ⊢; exact e
 ·rw [zb3 hb] at e ⊢; exact s _ _ e
/-- a new thing that nobody changes -/
theorem RW.newF (r : RW K F A W H) {p : Addr} (h : H p = none) (o : HO) : RW K (upd F p o) A W (upd H p o) /\ Ext F A (upd F p o) A:=by
 have hp:=r.zd11 h
 have x : Ext F A (upd F p o) A:=⟨zp3 (r.sub.free h),ry4 _⟩
 refine ⟨⟨za65 r.sub,r.len,r.nd,fun a ha=>?_,fun k a o' hk hw=>?_⟩,x⟩
 ·rw [zb3 (fun z=>hp (by rw [<- z]; exact ha))]
  exact r.out a ha
 ·obtain ⟨u,e,q⟩:=r.obj k a o' hk hw
  exact ⟨u,by rw [zb3 (zb1 e h)]; exact e,q.ext x⟩
/-- a new object -/
theorem RW.newO (r : RW K F A W H) {p : Addr} (h : H p = none) {o : OD} {u : HO} (q : OdR K F A p o u) : RW K F (A++[p]) (W++[o]) (upd H p u) /\ Ext F A F (A++[p]):=by
 have hp:=r.zd11 h
 have x : Ext F A F (A++[p]):=⟨.refl _,List.prefix_append _ _⟩
 refine ⟨⟨fun b o' e=>by rw [zb3 (zb1 (r.sub _ _ e) h)]; exact r.sub _ _ e,by simp [r.len],?_,fun a ha=>?_,fun k a o' hk hw=>?_⟩,x⟩
 ·rw [List.nodup_append]
  exact ⟨r.nd,by simp,fun a ha b hb=>by simp at hb; subst hb; exact fun z=>hp (z ▸ ha)⟩
 ·rcases by9.mp ha with ha | ha
  ·exact r.out a ha
  ·simp at ha; subst ha; exact r.sub.free h
 ·by_cases hl : k < A.length
  ·rw [ay8 hl] at hk
   rw [ay8 (by rw [<- r.len]; exact hl)] at hw
   obtain ⟨u',e,q'⟩:=r.obj k a o' hk hw
   exact ⟨u',by rw [zb3 (zb1 e h)]; exact e,q'.ext x⟩
  ·have hk' : k = A.length:=by
    have:=(ay0.mp hk).1
    simp at this
    omega
   subst hk'
   rw [dy1 (ay5 _)] at hk
   rw [dy1 (by rw [r.len]; exact ay5 _)] at hw
   simp at hk
   simp [r.len] at hw
   subst hk hw
   exact ⟨u,zc4,q.ext x⟩
/-- an object is changed -/
theorem RW.put (r : RW K F A W H) {k : Nat} {a : Addr} (hk : A[k]? = some a) {o : OD} {u : HO} (q : OdR K F A a o u) : RW K F A (W.set k o) (upd H a u):=by
 have ha : a∈A:=by3 hk
 refine ⟨fun b o' e=>?_,by simp [r.len],r.nd,r.out,fun j b o' hj hw=>?_⟩
 ·have : b ≠ a:=fun z=>by subst z; rw [r.out _ ha] at e; cases e
  rw [zb3 this]; exact r.sub _ _ e
 ·by_cases hjk : k = j
  ·subst hjk
   rw [hk] at hj
   cases hj
   have hl : k < W.length:=by rw [<- r.len]; exact (ay0.mp hk).1
   rw [dy3 hl] at hw
   cases hw
   exact ⟨u,zc4,q⟩
  ·rw [ey6 hjk] at hw
   obtain ⟨u',e,q'⟩:=r.obj j b o' hj hw
   have : b ≠ a:=fun z=>by
    subst z
    have h1:=(ay0.mp hj)
    have h2:=(ay0.mp hk)
    obtain ⟨l1,e1⟩:=h1
    obtain ⟨l2,e2⟩:=h2
    exact hjk ((py0 r.nd).mp (e2.trans e1.symm))
   exact ⟨u',by rw [zb3 this]; exact e,q'⟩
/-- the heap only grew by a tuple -/
theorem RW.grew (r : RW K F A W H) (s : zo0 H H') {p : Addr} {vs : List V} (h : H' p = some (.tup vs)) : ∃ F',zo0 F F' /\ F' p = some (.tup vs) /\ RW K F' A W H':=by
 have hp : p ∉ A:=fun z=>by
  obtain ⟨k,hk⟩:=gy0.mp z
  have hl : k < W.length:=by rw [<- r.len]; exact (ay0.mp hk).1
  obtain ⟨o,e,q⟩:=r.obj k p W[k] hk (by simp [hl])
  rw [s _ _ e] at h
  cases h
  generalize W[k] = oo at q
  cases oo with
  | lst es=>obtain ⟨vs,e,_⟩:=q; cases e
  | dK es=>obtain ⟨vs,e,_⟩:=q; cases e
  | dT es=>obtain ⟨vs,e,_⟩:=q; cases e
  | fT o es=>obtain ⟨vs,⟨e,_⟩,_⟩:=q; cases e
  | fK o es=>obtain ⟨vs,e,_⟩:=q; cases e
  | x φ=>obtain ⟨ψ,e,_⟩:=q; cases e
 have sF : zo0 F (upd F p (.tup vs)):=fun b o e=>by
  by_cases hb : b = p
  ·subst hb
   have:=s _ _ (r.sub _ _ e)
   rw [h] at this
   rw [zc4]
   exact this
  ·rw [zb3 hb]; exact e
 have x : Ext F A (upd F p (.tup vs)) A:=⟨sF,ry4 _⟩
 refine ⟨upd F p (.tup vs),sF,zc4,⟨fun b o e=>?_,r.len,r.nd,fun a ha=>?_,fun k a o hk hw=>?_⟩⟩
 ·by_cases hb : b = p
  ·subst hb; rw [zc4] at e; cases e; exact h
  ·rw [zb3 hb] at e; exact s _ _ (r.sub _ _ e)
 ·rw [zb3 (fun z=>hp (by rw [<- z]; exact ha))]; exact r.out a ha
 ·obtain ⟨u,e,q⟩:=r.obj k a o hk hw
  exact ⟨u,s _ _ e,q.ext x⟩
end
abbrev KB:=El->Wl->Prop
def zp4 (K : ay2) (F : Hp) (A : List Addr) (k : KB) (Q : VK) : Prop:=∀ F' A' W' H' e v,Ext F A F' A'->RW K F' A' W' H'->ElR K F' A' e v->k e W'->Q v H'
section
variable {K : ay2} {F F1 : Hp} {A A1 : List Addr} {W : Wl} {H H' : Hp} {k : KB} {Q : VK}
theorem zp4.ext (q : zp4 K F A k Q) (x : Ext F A F1 A1) : zp4 K F1 A1 k Q:=fun F' A' W' H' e v y r z h=>q F' A' W' H' e v (x.trans y) r z h
theorem zp4.same (q : zp4 K F A k Q) (r : RW K F A W H) {e : El} {v : V} (z : ElR K F A e v) (h : k e W) : Q v H:=q F A W H e v .refl r z h
theorem zp4.newT (q : zp4 K F A k Q) (r : RW K F A W H) {p : Addr} (hp : H p = none) {vs : List V} {ds : List PyData} (z : Paired (fun d v=>Rq K F v d) ds vs) (h : k (.d (.tuple ds)) W) : Q (.ref p) (upd H p (.tup vs)):=by
 obtain ⟨r',x⟩:=r.newF hp (.tup vs)
 exact q _ _ _ _ _ _ x r' (.dd (Rq.tup (SqT.of zc4) (Rqs.of (zf4 (fun _ _ t=>Rq.same x.same _ t) z)))) h
theorem zp4.newL (q : zp4 K F A k Q) (r : RW K F A W H) {p : Addr} (hp : H p = none) {vs : List V} {ds : List PyData} (z : Paired (fun d v=>Rq K F v d) ds vs) (h : k (.d (.list ds)) W) : Q (.ref p) (upd H p (.lst vs)):=by
 obtain ⟨r',x⟩:=r.newF hp (.lst vs)
 exact q _ _ _ _ _ _ x r' (.dd (Rq.lst (.inl zc4) (Rqs.of (zf4 (fun _ _ t=>Rq.same x.same _ t) z)))) h
theorem zp4.newO (q : zp4 K F A k Q) (r : RW K F A W H) {p : Addr} (hp : H p = none) {o : OD} {u : HO} (z : OdR K F A p o u) (h : k (.o W.length) (W++[o])) : Q (.ref p) (upd H p u):=by
 obtain ⟨r',x⟩:=r.newO hp z
 exact q _ _ _ _ _ _ x r' (ElR.oo (k:=W.length) (by rw [<- r.len]; simp)) h
theorem zp4.put (q : zp4 K F A k Q) (r : RW K F A W H) {j : Nat} {a : Addr} (hj : A[j]? = some a) {o : OD} {u : HO} (z : OdR K F A a o u) {e : El} {v : V} (zv : ElR K F A e v) (h : k e (W.set j o)) : Q v (upd H a u) :=
 q _ _ _ _ _ _ .refl (r.put hj z) zv h
end
/-- a context,and what stood at the def's entry; what is wanted of an exception that leaves it: its class,the objects -/
structure Bc extends Cx where
 F0 : Hp
 A0 : List Addr
 xk : Addr->Sl->Wl->Prop
instance : Coe Bc Cx:=⟨Bc.toCx⟩
abbrev Bc.Am (X : Bc) (F : Hp) (A : List Addr) : Prop:=Ext X.F0 X.A0 F A
def tD (X : Bc) (S : Sl) (W : Wl) (k : KB) : TE:=fun σ H Q=>∃ F A,X.Am F A /\ RW X.K F A W H /\ SR X.K F A S σ /\ zp4 X.K F A k Q
def BE (X : Bc) (S : Sl) (W : Wl) (e : Expr) (k : KB) : Prop:=PE X e (tD X S W k)
def tU (X : Bc) (e : Expr) : TE:=fun σ H Q=>∃ t,PE X e t /\ t σ H Q
theorem zi0 {X : Bc} {e : Expr} : PE X e (tU X e):=fun pins s σ H Q I ⟨t,h,q⟩=>h pins s σ H Q I q
theorem BE.use {X : Bc} {S : Sl} {W : Wl} {e : Expr} {k : KB} (h : BE X S W e k) {F : Hp} {A : List Addr} {σ : St} {H : Hp} {Q : VK} (x0 : X.Am F A) (r : RW X.K F A W H) (s : SR X.K F A S σ)
  (q : ∀ F' A' W' H' e v,Ext F A F' A'->RW X.K F' A' W' H'->ElR X.K F' A' e v->k e W'->Q v H') : tU X e σ H Q:=⟨_,h,F,A,x0,r,s,q⟩
theorem BE.of {X : Bc} {S : Sl} {W : Wl} {e : Expr} {k : KB} {t : TE} (h : PE X e t) (i : ∀ F A σ H Q,X.Am F A->RW X.K F A W H->SR X.K F A S σ->zp4 X.K F A k Q->t σ H Q) : BE X S W e k :=
 fun pins s σ H Q I ⟨F,A,x0,r,sr,q⟩=>h pins s σ H Q I (i F A σ H Q x0 r sr q)
/-- weaker wishes -/
theorem BE.mono {X : Bc} {S : Sl} {W : Wl} {e : Expr} {k k' : KB} (h : BE X S W e k) (hk : ∀ x W,k x W->k' x W) : BE X S W e k' :=
 .of h fun F A σ H Q x0 r sr q=>⟨F,A,x0,r,sr,fun F' A' W' H' e v x r z hh=>q F' A' W' H' e v x r z (hk _ _ hh)⟩
section
variable {X : Bc} {S : Sl} {W : Wl} {k : KB}
theorem zd13 {i : Nat} {x : Str} {pos : Pos} {e : El} (hN : X.N[i]? = some x) (hv : Vis X.env.scope x) (hs : S[i]? = some (some e)) (h : k e W) (hd : (x == ("__debug__" : Str)) = false:=by decide) (hcd : (x == ("__classdict__" : Str)) = false:=by decide) : BE X S W (.Name x pos) k :=
 .of (zc69 hN hv hd hcd) fun F A σ H Q x0 r sr q=>by
  obtain ⟨v,h1,h2⟩:=sr.get i e hs
  exact ⟨v,h1,q.same r h2 h⟩
theorem za2 {i j pos} (h : k (.d (.int i)) W) : BE X S W (.Constant (.int i) j pos) k:=.of zc70 fun F A σ H Q x0 r sr q=>q.same r (.dd (Rq.int i)) h
theorem za67 {b j pos} (h : k (.d (.bool b)) W) : BE X S W (.Constant (.bool b) j pos) k:=.of ze10 fun F A σ H Q x0 r sr q=>q.same r (.dd (Rq.bl b)) h
theorem zb35 {j pos} (h : k (.d .none) W) : BE X S W (.Constant .none j pos) k:=.of zc71 fun F A σ H Q x0 r sr q=>q.same r (.dd Rq.non) h
theorem ze4 {x j pos} (h : k (.d (.str x)) W) : BE X S W (.Constant (.str x) j pos) k:=.of zc72 fun F A σ H Q x0 r sr q=>q.same r (.dd (Rq.str x)) h
/-- a name of the module -/
theorem zG6 {x : Str} {d : PyData} {v : V} {u : Value} {pos : Pos} (hg : Gl X x) (hm : X.mg x = some u) (rv : RelV v u) (rq : ∀ F,Rq X.K F v d) (h : k (.d d) W) (hd : (x == ("__debug__" : Str)) = false:=by decide) : BE X S W (.Name x pos) k :=
 .of (zb61 hg hm rv hd) fun F A σ H Q x0 r sr q=>q.same r (.dd (rq F)) h
def rU2 (X : Bc) (f : Value->Value->Sem Value) : R2:=fun x y H Q=>∃ r,OpR X f r /\ r x y H Q
theorem op_U {f : Value->Value->Sem Value} : OpR X f (rU2 X f):=fun pins s σ H x y v u Q I rx ry ⟨r,h,q⟩=>h pins s σ H x y v u Q I rx ry q
def OB (X : Bc) (f : Value->Value->Sem Value) (x y : El) (W : Wl) (k : KB) : Prop :=
 ∀ F A H Q vx vy,RW X.K F A W H->ElR X.K F A x vx->ElR X.K F A y vy->zp4 X.K F A k Q->rU2 X f vx vy H Q
theorem OB.of {f : Value->Value->Sem Value} {x y : El} {r2 : R2} (ho : OpR X f r2) (i : ∀ F A H Q vx vy,RW X.K F A W H->ElR X.K F A x vx->ElR X.K F A y vy->zp4 X.K F A k Q->r2 vx vy H Q) : OB X f x y W k :=
 fun F A H Q vx vy r zx zy q=>⟨r2,ho,i F A H Q vx vy r zx zy q⟩
theorem zf1 {a b : Expr} {op : Operator} {pos : Pos} (h : BE X S W a fun x W1=>BE X S W1 b fun y W2=>OB X (jy5 op) x y W2 k) : BE X S W (.BinOp a op b pos) k :=
 .of (ze23 op_U zi0 zi0) fun F A σ H Q x0 r sr q =>
  h.use x0 r sr fun F1 A1 W1 H1 x vx e1 r1 z1 h1=>h1.use (x0.trans e1) r1 (sr.ext e1) fun F2 A2 W2 H2 y vy e2 r2 z2 h2=>h2 F2 A2 H2 Q vx vy r2 (z1.ext e2) z2 (q.ext (e1.trans e2))
theorem zm7 {a b : Expr} {op : CmpOp} {pos : Pos} (hm : behindInMarks op b = false) (h : BE X S W a fun x W1=>BE X S W1 b fun y W2=>OB X (fy7 op) x y W2 k) : BE X S W (.Compare a [op] [b] pos) k :=
 .of (zb68 op_U zi0 zi0 hm) fun F A σ H Q x0 r sr q =>
  h.use x0 r sr fun F1 A1 W1 H1 x vx e1 r1 z1 h1=>h1.use (x0.trans e1) r1 (sr.ext e1) fun F2 A2 W2 H2 y vy e2 r2 z2 h2=>h2 F2 A2 H2 Q vx vy r2 (z1.ext e2) z2 (q.ext (e1.trans e2))
abbrev TB:=Bool->Wl->Prop
def tDT (X : Bc) (S : Sl) (W : Wl) (k : TB) : TT:=fun σ H Q=>∃ F A,X.Am F A /\ RW X.K F A W H /\ SR X.K F A S σ /\ ∀ F' A' W' H' b,Ext F A F' A'->RW X.K F' A' W' H'->k b W'->Q b H'
def BT (X : Bc) (S : Sl) (W : Wl) (e : Expr) (k : TB) : Prop:=PT X e (tDT X S W k)
def tUT (X : Bc) (e : Expr) : TT:=fun σ H Q=>∃ t,PT X e t /\ t σ H Q
theorem pt_U {e : Expr} : PT X e (tUT X e):=fun pins s σ H Q I ⟨t,h,q⟩=>h pins s σ H Q I q
theorem BT.use {e : Expr} {k : TB} (h : BT X S W e k) {F : Hp} {A : List Addr} {σ : St} {H : Hp} {Q : Bool->Hp->Prop} (x0 : X.Am F A) (r : RW X.K F A W H) (s : SR X.K F A S σ)
  (q : ∀ F' A' W' H' b,Ext F A F' A'->RW X.K F' A' W' H'->k b W'->Q b H') : tUT X e σ H Q:=⟨_,h,F,A,x0,r,s,q⟩
theorem BT.of {e : Expr} {k : TB} {t : TT} (h : PT X e t) (i : ∀ F A σ H (Q : Bool->Hp->Prop),X.Am F A->RW X.K F A W H->SR X.K F A S σ->(∀ F' A' W' H' b,Ext F A F' A'->RW X.K F' A' W' H'->k b W'->Q b H')->t σ H Q) : BT X S W e k :=
 fun pins s σ H Q I ⟨F,A,x0,r,sr,q⟩=>h pins s σ H Q I (i F A σ H Q x0 r sr q)
theorem BT.mono {e : Expr} {k k' : TB} (h : BT X S W e k) (hk : ∀ b W,k b W->k' b W) : BT X S W e k' :=
 .of h fun F A σ H Q x0 r sr q=>⟨F,A,x0,r,sr,fun F' A' W' H' b x r z=>q F' A' W' H' b x r (hk _ _ z)⟩
def BW (X : Bc) (S : Sl) (W : Wl) (e : Expr) (k : TB) : Prop:=PW X e (tDT X S W k)
def tUW (X : Bc) (e : Expr) : TT:=fun σ H Q=>∃ t,PW X e t /\ t σ H Q
theorem pw_U {e : Expr} : PW X e (tUW X e):=fun wh pins s σ H Q I ⟨t,h,q⟩=>h wh pins s σ H Q I q
theorem BW.use {e : Expr} {k : TB} (h : BW X S W e k) {F : Hp} {A : List Addr} {σ : St} {H : Hp} {Q : Bool->Hp->Prop} (x0 : X.Am F A) (r : RW X.K F A W H) (s : SR X.K F A S σ)
  (q : ∀ F' A' W' H' b,Ext F A F' A'->RW X.K F' A' W' H'->k b W'->Q b H') : tUW X e σ H Q:=⟨_,h,F,A,x0,r,s,q⟩
theorem BW.of {e : Expr} {k : TB} {t : TT} (h : PW X e t) (i : ∀ F A σ H (Q : Bool->Hp->Prop),X.Am F A->RW X.K F A W H->SR X.K F A S σ->(∀ F' A' W' H' b,Ext F A F' A'->RW X.K F' A' W' H'->k b W'->Q b H')->t σ H Q) : BW X S W e k :=
 fun wh pins s σ H Q I ⟨F,A,x0,r,sr,q⟩=>h wh pins s σ H Q I (i F A σ H Q x0 r sr q)
theorem BW.bt {e : Expr} {k : TB} (h : BW X S W e k) : BT X S W e k:=h.pt
/-- a test that is no and,or,not,comparison -/
theorem zg7 {e : Expr} {k : TB} (h : BE X S W e fun x W1=>∃ b,x = .d (.bool b) /\ k b W1) (he : ∀ whole,isTrue e X.env whole = (do let v <- whole; standAt e.pos; holding [v] (truthy v)):=by intro _; rfl) : BT X S W e k :=
 .of (zc73 zi0 he) fun F A σ H Q x0 r sr q=>h.use x0 r sr fun F1 A1 W1 H1 x vx e1 r1 z1 ⟨b,hb,h1⟩=>by
  subst hb
  obtain rfl:=Rq.zt7 z1
  exact ⟨b,rfl,q F1 A1 W1 H1 b e1 r1 h1⟩
theorem zc2 {a b : Expr} {op : CmpOp} {pos : Pos} {k : TB} (hm : behindInMarks op b = false) (h : BE X S W a fun x W1=>BE X S W1 b fun y W2=>OB X (fy7 op) x y W2 fun z W3=>∃ c,z = .d (.bool c) /\ k c W3) : BT X S W (.Compare a [op] [b] pos) k :=
 .of (zb69 op_U zi0 zi0 hm) fun F A σ H Q x0 r sr q =>
  h.use x0 r sr fun F1 A1 W1 H1 x vx e1 r1 z1 h1=>h1.use (x0.trans e1) r1 (sr.ext e1) fun F2 A2 W2 H2 y vy e2 r2 z2 h2=>h2 F2 A2 H2 _ vx vy r2 (z1.ext e2) z2 fun F3 A3 W3 H3 z vz e3 r3 z3 ⟨c,hc,h3⟩=>by
   subst hc
   obtain rfl:=Rq.zt7 z3
   exact ⟨c,rfl,q F3 A3 W3 H3 c ((e1.trans e2).trans e3) r3 h3⟩
theorem zg2 {a : Expr} {pos : Pos} {k : TB} (h : BT X S W a fun b W1=>k (!b) W1) : BT X S W (.UnaryOp .Not a pos) k :=
 .of (zc76 pt_U) fun F A σ H Q x0 r sr q=>h.use x0 r sr fun F1 A1 W1 H1 b e1 r1 h1=>q F1 A1 W1 H1 _ e1 r1 h1
theorem zz2 {a : Expr} {pos : Pos} {k : TB} (h : BT X S W a k) : BW X S W (.BoolOp .And [a] pos) k:=.of (zb63 pt_U) fun F A σ H Q x0 r sr q=>h.use x0 r sr q
theorem zm3 {a : Expr} {pos : Pos} {k : TB} (h : BT X S W a k) : BW X S W (.BoolOp .Or [a] pos) k:=.of (zc74 pt_U) fun F A σ H Q x0 r sr q=>h.use x0 r sr q
theorem zJ3 {a b : Expr} {rest : List Expr} {pos : Pos} {k : TB} (h : BT X S W a fun c W1=>if c = true then BW X S W1 (.BoolOp .And (b :: rest) pos) k else k false W1) : BW X S W (.BoolOp .And (a :: b :: rest) pos) k :=
 .of (zc75 pt_U pw_U) fun F A σ H Q x0 r sr q=>h.use x0 r sr fun F1 A1 W1 H1 c e1 r1 h1=>by
  cases c with
  | true =>
   rw [if_pos rfl] at h1 ⊢
   exact h1.use (x0.trans e1) r1 (sr.ext e1) fun F2 A2 W2 H2 b e2 r2 h2=>q F2 A2 W2 H2 b (e1.trans e2) r2 h2
  | false =>
   rw [if_neg (by decide)] at h1 ⊢
   exact q F1 A1 W1 H1 _ e1 r1 h1
theorem zm8 {a b : Expr} {rest : List Expr} {pos : Pos} {k : TB} (h : BT X S W a fun c W1=>if c = true then k true W1 else BW X S W1 (.BoolOp .Or (b :: rest) pos) k) : BW X S W (.BoolOp .Or (a :: b :: rest) pos) k :=
 .of (ze11 pt_U pw_U) fun F A σ H Q x0 r sr q=>h.use x0 r sr fun F1 A1 W1 H1 c e1 r1 h1=>by
  cases c with
  | true =>
   rw [if_pos rfl] at h1 ⊢
   exact q F1 A1 W1 H1 _ e1 r1 h1
  | false =>
   rw [if_neg (by decide)] at h1 ⊢
   exact h1.use (x0.trans e1) r1 (sr.ext e1) fun F2 A2 W2 H2 b e2 r2 h2=>q F2 A2 W2 H2 b (e1.trans e2) r2 h2
theorem zt9 {op} {a : Expr} {pos : Pos} (h : BE X S W a k) : BE X S W (.BoolOp op [a] pos) k:=zc77 h
theorem zu0 {a b : Expr} {rest : List Expr} {pos : Pos} (h : BE X S W a fun x W1=>∃ c,x = .d (.bool c) /\ if c = true then BE X S W1 (.BoolOp .And (b :: rest) pos) k else k (.d (.bool false)) W1) : BE X S W (.BoolOp .And (a :: b :: rest) pos) k :=
 .of (zc78 zi0 zi0) fun F A σ H Q x0 r sr q=>h.use x0 r sr fun F1 A1 W1 H1 x vx e1 r1 z1 ⟨c,hc,h1⟩=>by
  subst hc
  obtain rfl:=Rq.zt7 z1
  refine ⟨c,rfl,?_⟩
  cases c with
  | true =>
   rw [if_pos rfl] at h1 ⊢
   exact h1.use (x0.trans e1) r1 (sr.ext e1) fun F2 A2 W2 H2 y vy e2 r2 z2 h2=>q F2 A2 W2 H2 y vy (e1.trans e2) r2 z2 h2
  | false =>
   rw [if_neg (by decide)] at h1 ⊢
   exact q F1 A1 W1 H1 _ _ e1 r1 (.dd (Rq.bl false)) h1
theorem zd14 {a b : Expr} {rest : List Expr} {pos : Pos} (h : BE X S W a fun x W1=>∃ c,x = .d (.bool c) /\ if c = true then k (.d (.bool true)) W1 else BE X S W1 (.BoolOp .Or (b :: rest) pos) k) : BE X S W (.BoolOp .Or (a :: b :: rest) pos) k :=
 .of (ze14 zi0 zi0) fun F A σ H Q x0 r sr q=>h.use x0 r sr fun F1 A1 W1 H1 x vx e1 r1 z1 ⟨c,hc,h1⟩=>by
  subst hc
  obtain rfl:=Rq.zt7 z1
  refine ⟨c,rfl,?_⟩
  cases c with
  | true =>
   rw [if_pos rfl] at h1 ⊢
   exact q F1 A1 W1 H1 _ _ e1 r1 (.dd (Rq.bl true)) h1
  | false =>
   rw [if_neg (by decide)] at h1 ⊢
   exact h1.use (x0.trans e1) r1 (sr.ext e1) fun F2 A2 W2 H2 y vy e2 r2 z2 h2=>q F2 A2 W2 H2 y vy (e1.trans e2) r2 z2 h2
theorem zb37 {a : Expr} {pos : Pos} (h : BE X S W a fun x W1=>∃ c,x = .d (.bool c) /\ k (.d (.bool (!c))) W1) : BE X S W (.UnaryOp .Not a pos) k :=
 .of (zc79 zi0) fun F A σ H Q x0 r sr q=>h.use x0 r sr fun F1 A1 W1 H1 x vx e1 r1 z1 ⟨c,hc,h1⟩=>by
  subst hc
  obtain rfl:=Rq.zt7 z1
  exact ⟨c,rfl,q F1 A1 W1 H1 _ _ e1 r1 (.dd (Rq.bl _)) h1⟩
theorem zd15 {c a b : Expr} {pos : Pos} (h : BT X S W c fun t W1=>if t = true then BE X S W1 a k else BE X S W1 b k) : BE X S W (.IfExp c a b pos) k :=
 .of (za44 pt_U zi0 zi0) fun F A σ H Q x0 r sr q=>h.use x0 r sr fun F1 A1 W1 H1 c e1 r1 h1=>by
  cases c with
  | true =>
   rw [if_pos rfl] at h1 ⊢
   exact h1.use (x0.trans e1) r1 (sr.ext e1) fun F2 A2 W2 H2 y vy e2 r2 z2 h2=>q F2 A2 W2 H2 y vy (e1.trans e2) r2 z2 h2
  | false =>
   rw [if_neg (by decide)] at h1 ⊢
   exact h1.use (x0.trans e1) r1 (sr.ext e1) fun F2 A2 W2 H2 y vy e2 r2 z2 h2=>q F2 A2 W2 H2 y vy (e1.trans e2) r2 z2 h2
end
section
variable {X : Bc} {S : Sl} {W : Wl} {k : KB}
abbrev KA:=List El->Wl->Prop
def tDA (X : Bc) (S : Sl) (W : Wl) (k : KA) : TA:=fun σ H Q=>∃ F A,X.Am F A /\ RW X.K F A W H /\ SR X.K F A S σ /\ ∀ F' A' W' H' es vs,Ext F A F' A'->RW X.K F' A' W' H'->Paired (ElR X.K F' A') es vs->k es W'->Q vs H'
def BA (X : Bc) (S : Sl) (W : Wl) (es : List Expr) (k : KA) : Prop:=PA X es (tDA X S W k)
def tUA (X : Bc) (es : List Expr) : TA:=fun σ H Q=>∃ t,PA X es t /\ t σ H Q
theorem zR2 {es : List Expr} : PA X es (tUA X es):=fun pos pins s σ H Q I ⟨t,h,q⟩=>h pos pins s σ H Q I q
theorem BA.use {es : List Expr} {k : KA} (h : BA X S W es k) {F : Hp} {A : List Addr} {σ : St} {H : Hp} {Q : List V->Hp->Prop} (x0 : X.Am F A) (r : RW X.K F A W H) (s : SR X.K F A S σ)
  (q : ∀ F' A' W' H' es vs,Ext F A F' A'->RW X.K F' A' W' H'->Paired (ElR X.K F' A') es vs->k es W'->Q vs H') : tUA X es σ H Q:=⟨_,h,F,A,x0,r,s,q⟩
theorem BA.of {es : List Expr} {k : KA} {t : TA} (h : PA X es t) (i : ∀ F A σ H (Q : List V->Hp->Prop),X.Am F A->RW X.K F A W H->SR X.K F A S σ->(∀ F' A' W' H' es vs,Ext F A F' A'->RW X.K F' A' W' H'->Paired (ElR X.K F' A') es vs->k es W'->Q vs H')->t σ H Q) : BA X S W es k :=
 fun pos pins s σ H Q I ⟨F,A,x0,r,sr,q⟩=>h pos pins s σ H Q I (i F A σ H Q x0 r sr q)
theorem zk5 {k : KA} (h : k [] W) : BA X S W [] k:=.of zt2 fun F A σ H Q x0 r sr q=>q F A W H [] [] .refl r .nil h
theorem za4 {e : Expr} {es : List Expr} {k : KA} (h : BE X S W e fun x W1=>BA X S W1 es fun xs W2=>k (x :: xs) W2) (hs : ey1 (e :: es) X.env = (false,eval e X.env) :: ey1 es X.env:=by rfl) : BA X S W (e :: es) k :=
 .of (zm5 zi0 zR2 hs) fun F A σ H Q x0 r sr q=>h.use x0 r sr fun F1 A1 W1 H1 x vx e1 r1 z1 h1=>h1.use (x0.trans e1) r1 (sr.ext e1) fun F2 A2 W2 H2 xs vs e2 r2 z2 h2=>q F2 A2 W2 H2 _ _ (e1.trans e2) r2 (.cons (z1.ext e2) z2) h2
theorem za1 {e : Expr} {k : KA} (h : BE X S W e fun x W1=>k [x] W1) (hs : ey1 [e] X.env = [(false,eval e X.env)]:=by rfl) : BA X S W [e] k :=
 za4 (h.mono fun _ _ q=>zk5 q) hs
/-- all are data -/
def zb4 : List PyData->List El:=List.map .d
theorem zi1 {K : ay2} {F : Hp} {A : List Addr} {ds : List PyData} {vs : List V} (h : Paired (ElR K F A) (zb4 ds) vs) : Paired (fun d v=>Rq K F v d) ds vs:=zz1 h
theorem zp5 {K : ay2} {F : Hp} {A : List Addr} {ds : List PyData} {vs : List V} (h : Paired (fun d v=>Rq K F v d) ds vs) : Paired (ElR K F A) (zb4 ds) vs:=zb34 h
theorem zw9 {es : List Expr} {x1} {pos : Pos} (h : BA X S W es fun as W1=>∃ ds,as = zb4 ds /\ ds.length <= by0 /\ k (.d (.tuple ds)) W1) : BE X S W (.Tuple es x1 pos) k :=
 .of (zT5 zR2) fun F A σ H Q x0 r sr q=>h.use x0 r sr fun F1 A1 W1 H1 as vs e1 r1 z1 ⟨ds,hd,hl,h1⟩=>by
  subst hd
  have z:=zi1 z1
  exact ⟨by rw [<- zb6 z]; exact hl,fun p hp=>(q.ext e1).newT r1 hp z h1⟩
/-- a list that nobody changes -/
theorem zD4 {es : List Expr} {pos : Pos} (h : BA X S W es fun as W1=>∃ ds,as = zb4 ds /\ ds.length <= by0 /\ k (.d (.list ds)) W1) : BE X S W (.List es pos) k :=
 .of (zb29 zR2) fun F A σ H Q x0 r sr q=>h.use x0 r sr fun F1 A1 W1 H1 as vs e1 r1 z1 ⟨ds,hd,hl,h1⟩=>by
  subst hd
  have z:=zi1 z1
  exact ⟨by rw [<- zb6 z]; exact hl,fun p hp=>(q.ext e1).newL r1 hp z h1⟩
/-- a list that is changed -/
theorem zg8 {es : List Expr} {pos : Pos} (h : BA X S W es fun as W1=>as.length <= by0 /\ k (.o W1.length) (W1++[.lst as])) : BE X S W (.List es pos) k :=
 .of (zb29 zR2) fun F A σ H Q x0 r sr q=>h.use x0 r sr fun F1 A1 W1 H1 as vs e1 r1 z1 ⟨hl,h1⟩ =>
  ⟨by rw [<- zb6 z1]; exact hl,fun p hp=>(q.ext e1).newO r1 hp (o:=.lst as) ⟨vs,rfl,z1⟩ h1⟩
def rUC (X : Bc) (f : Value) : List V->Hp->VK->Prop:=fun xs H Q=>∃ r,zl1 X f r /\ r xs H Q
theorem zb38 {f : Value} : zl1 X f (rUC X f):=fun pins s σ H xs us Q I rx ⟨r,h,q⟩=>h pins s σ H xs us Q I rx q
def CB (X : Bc) (f : Value) (xs : List El) (W : Wl) (k : KB) : Prop:=∀ F A H Q vs,RW X.K F A W H->Paired (ElR X.K F A) xs vs->zp4 X.K F A k Q->rUC X f vs H Q
theorem CB.of {f : Value} {xs : List El} {r1 : List V->Hp->VK->Prop} (hc : zl1 X f r1) (i : ∀ F A H Q vs,RW X.K F A W H->Paired (ElR X.K F A) xs vs->zp4 X.K F A k Q->r1 vs H Q) : CB X f xs W k :=
 fun F A H Q vs r z q=>⟨r1,hc,i F A H Q vs r z q⟩
theorem zb7 {e : Expr} {es : List Expr} {x : Str} {id : String} {p pos : Pos} (hg : Gl X x) (hm : X.mg x = none) (hv : ey7 x = some (.builtin id)) (h : BA X S W (e :: es) fun as W1=>CB X (.builtin id) as W1 k) (hn : x ≠ "__name__" := by decide) (hdb : (x == ("__debug__" : Str)) = false:=by decide)
  (he : ey1 (e :: es) X.env = (false,eval e X.env) :: ey1 es X.env:=by rfl) (hpl : (backTo pos (ey1 es X.env)).any (·.1) = false:=by rfl) : BE X S W (.Call (.Name x p) (e :: es) [] pos) k :=
 .of (zy3 zb38 hg hm hv zR2 hn hdb he hpl) fun F A σ H Q x0 r sr q=>h.use x0 r sr fun F1 A1 W1 H1 as vs e1 r1 z1 h1=>h1 F1 A1 H1 Q vs r1 z1 (q.ext e1)
theorem zp6 {e : Expr} {es : List Expr} {x : Str} {T : String} {p pos : Pos} (hg : Gl X x) (hm : X.mg x = none) (hv : ey7 x = some (.type T)) (h : BA X S W (e :: es) fun as W1=>CB X (.type T) as W1 k) (hn : x ≠ "__name__" := by decide) (hdb : (x == ("__debug__" : Str)) = false:=by decide)
  (he : ey1 (e :: es) X.env = (false,eval e X.env) :: ey1 es X.env:=by rfl) (hpl : (backTo pos (ey1 es X.env)).any (·.1) = false:=by rfl) : BE X S W (.Call (.Name x p) (e :: es) [] pos) k :=
 .of (zp2 zb38 hg hm hv zR2 hn hdb he hpl) fun F A σ H Q x0 r sr q=>h.use x0 r sr fun F1 A1 W1 H1 as vs e1 r1 z1 h1=>h1 F1 A1 H1 Q vs r1 z1 (q.ext e1)
abbrev RB:=List El->Wl->KB->Prop
def spB (K : ay2) (R : RB) : Sp:=fun vs H Q _=>∃ F A W es k,RW K F A W H /\ Paired (ElR K F A) es vs /\ R es W k /\ zp4 K F A k Q
theorem zb0 {R : RB} {j : Nat} {f : Addr} {fd : ey8} {ps : List Str} {x : Str} {p pos : Pos} {e : Expr} {es : List Expr} (F : zj8 X.prog X.w X.K X.mg X.base CX0 j f fd ps (spB X.K R)) (hr : zt1 j X.A) (hg : Gl X x) (hm : X.mg x = some (.ref f))
  (hk : cy8 X.K (.ref f) = true) (hb : Binds X.K fd ps []) (h : BA X S W (e :: es) fun as W1=>R as W1 k) (hdb : (x == ("__debug__" : Str)) = false:=by decide)
  (he : ey1 (e :: es) X.env = (false,eval e X.env) :: ey1 es X.env:=by rfl) (hpl : (backTo pos (ey1 es X.env)).any (·.1) = false:=by rfl) : BE X S W (.Call (.Name x p) (e :: es) [] pos) k :=
 .of (zb71 F hr hg hm hk hb .nil ze36 zR2 hdb he hpl) fun F A σ H Q x0 r sr q=>h.use x0 r sr fun F1 A1 W1 H1 as vs e1 r1 z1 h1=>by
  rw [hy4]
  exact ⟨F1,A1,W1,as,k,r1,z1,h1,q.ext e1⟩
def rUI (X : Bc) : R2:=fun x y H Q=>∃ r,IxR X r /\ r x y H Q
theorem ix_U : IxR X (rUI X):=fun v s pins sh σ H x y v' u Q I rx ry ⟨r,h,q⟩ hs=>h v s pins sh σ H x y v' u Q I rx ry q hs
def IB (X : Bc) (x y : El) (W : Wl) (k : KB) : Prop:=∀ F A H Q vx vy,RW X.K F A W H->ElR X.K F A x vx->ElR X.K F A y vy->zp4 X.K F A k Q->rUI X vx vy H Q
theorem IB.of {x y : El} {r2 : R2} (ho : IxR X r2) (i : ∀ F A H Q vx vy,RW X.K F A W H->ElR X.K F A x vx->ElR X.K F A y vy->zp4 X.K F A k Q->r2 vx vy H Q) : IB X x y W k :=
 fun F A H Q vx vy r zx zy q=>⟨r2,ho,i F A H Q vx vy r zx zy q⟩
theorem zb9 {a b : Expr} {pos : Pos} (hs : zU0 b) (h : BE X S W a fun x W1=>BE X S W1 b fun y W2=>IB X x y W2 k) : BE X S W (.Subscript a b pos) k :=
 .of (ze32 ix_U zi0 zi0 hs) fun F A σ H Q x0 r sr q =>
  h.use x0 r sr fun F1 A1 W1 H1 x vx e1 r1 z1 h1=>h1.use (x0.trans e1) r1 (sr.ext e1) fun F2 A2 W2 H2 y vy e2 r2 z2 h2=>h2 F2 A2 H2 Q vx vy r2 (z1.ext e2) z2 (q.ext (e1.trans e2))
theorem zV1 {α β : Type} {F : α->β->Prop} {l : List α} {m : List β} (p : Paired F l m) {i : Int} {a : α} (h : atI l i = some a) : ∃ b,atI m i = some b /\ F a b:=by
 unfold atI at h ⊢
 rw [<- zb6 p]
 cases e : ixN l.length i with
 | none=>rw [e] at h; cases h
 | some j =>
  rw [e] at h
  simp only [Option.bind] at h ⊢
  exact zi5 p h
theorem zu1 {ds : List PyData} {i : Int} {d : PyData} (he : atI ds i = some d) (h : k (.d d) W) : IB X (.d (.list ds)) (.d (.int i)) W k:=.of zG3 fun F A H Q vx vy r zx zy q=>by
 obtain ⟨a,vs,rfl,hs,z⟩:=Rq.zt8 zx
 obtain rfl:=Rq.zd4 zy
 obtain ⟨v,h1,h2⟩:=zV1 z he
 exact ⟨a,vs,i,v,rfl,rfl,(.inl (r.sub.rd hs)),h1,q.same r (.dd h2) h⟩
theorem zb5 {ds : List PyData} {i : Int} {d : PyData} (he : atI ds i = some d) (h : k (.d d) W) : IB X (.d (.tuple ds)) (.d (.int i)) W k:=.of zd00 fun F A H Q vx vy r zx zy q=>by
 obtain ⟨a,vs,rfl,hs,z⟩:=Rq.zi7 zx
 obtain rfl:=Rq.zd4 zy
 obtain ⟨v,h1,h2⟩:=zV1 z he
 exact ⟨a,vs,i,v,rfl,rfl,r.sub.zw8 hs,h1,q.same r (.dd h2) h⟩
theorem zV2 {z : Str} {i : Int} {c : Nat} (hz : z.length <= by0) (he : atI z.cps.toList i = some c) (h : k (.d (.str ⟨#[c]⟩)) W) : IB X (.d (.str z)) (.d (.int i)) W k:=.of zd01 fun F A H Q vx vy r zx zy q=>by
 obtain rfl:=Rq.zg1 zx
 obtain rfl:=Rq.zd4 zy
 exact ⟨z,i,c,rfl,rfl,hz,he,q.same r (.dd (Rq.str _)) h⟩
/-- an item of a list that is changed -/
theorem RW.at (r : RW X.K F A W H) {j : Nat} {v : V} (z : ElR X.K F A (.o j) v) {es : List El} (hj : W[j]? = some (.lst es)) : ∃ a vs,v = .ref a /\ A[j]? = some a /\ H a = some (.lst vs) /\ Paired (ElR X.K F A) es vs:=by
 obtain ⟨a,ha,rfl⟩:=z
 obtain ⟨h,e,vs,rfl,p⟩:=r.obj j a _ ha hj
 exact ⟨a,vs,rfl,ha,e,p⟩
theorem zu2 {j : Nat} {es : List El} {i : Int} {e : El} (hj : W[j]? = some (.lst es)) (he : atI es i = some e) (h : k e W) : IB X (.o j) (.d (.int i)) W k:=.of zG3 fun F A H Q vx vy r zx zy q=>by
 obtain ⟨a,vs,rfl,ha,hH,z⟩:=r.at zx hj
 obtain rfl:=Rq.zd4 zy
 obtain ⟨v,h1,h2⟩:=zV1 z he
 exact ⟨a,vs,i,v,rfl,rfl,SqL.of hH,h1,q.same r h2 h⟩
abbrev KO:=Option Int->Wl->Prop
def tDO (X : Bc) (S : Sl) (W : Wl) (k : KO) : TO:=fun σ H Q=>∃ F A,X.Am F A /\ RW X.K F A W H /\ SR X.K F A S σ /\ ∀ F' A' W' H' o,Ext F A F' A'->RW X.K F' A' W' H'->k o W'->Q o H'
def BO (X : Bc) (S : Sl) (W : Wl) (e : Option Expr) (k : KO) : Prop:=PO X e (tDO X S W k)
def tUO (X : Bc) (e : Option Expr) : TO:=fun σ H Q=>∃ t,PO X e t /\ t σ H Q
theorem po_U {e : Option Expr} : PO X e (tUO X e):=fun pins s σ H Q I ⟨t,h,q⟩=>h pins s σ H Q I q
theorem BO.use {e : Option Expr} {k : KO} (h : BO X S W e k) {F : Hp} {A : List Addr} {σ : St} {H : Hp} {Q : Option Int->Hp->Prop} (x0 : X.Am F A) (r : RW X.K F A W H) (s : SR X.K F A S σ)
  (q : ∀ F' A' W' H' o,Ext F A F' A'->RW X.K F' A' W' H'->k o W'->Q o H') : tUO X e σ H Q:=⟨_,h,F,A,x0,r,s,q⟩
theorem zg3 {k : KO} (h : k none W) : BO X S W none k:=fun pins s σ H Q I ⟨F,A,x0,r,sr,q⟩=>zb74 pins s σ H Q I (q F A W H none .refl r h)
theorem zb8 {e : Expr} {k : KO} (h : BE X S W e fun x W1=>∃ i,x = .d (.int i) /\ k (some i) W1) : BO X S W (some e) k:=fun pins s σ H Q I ⟨F,A,x0,r,sr,q⟩ =>
 zb75 zi0 pins s σ H Q I (h.use x0 r sr fun F1 A1 W1 H1 x vx e1 r1 z1 ⟨i,hi,h1⟩=>by
  subst hi
  obtain rfl:=Rq.zd4 z1
  exact ⟨i,rfl,q F1 A1 W1 H1 _ e1 r1 h1⟩)
def rUS (X : Bc) : V->Option Int->Option Int->Hp->VK->Prop:=fun x lo hi H Q=>∃ r,SlR X r /\ r x lo hi H Q
theorem sl_U : SlR X (rUS X):=fun pins s σ H x v vl vu lo hi sl Q I rx hs pl pu ⟨r,h,q⟩=>h pins s σ H x v vl vu lo hi sl Q I rx hs pl pu q
def LB (X : Bc) (x : El) (lo hi : Option Int) (W : Wl) (k : KB) : Prop:=∀ F A H Q vx,RW X.K F A W H->ElR X.K F A x vx->zp4 X.K F A k Q->rUS X vx lo hi H Q
theorem LB.of {x : El} {lo hi : Option Int} {r1 : V->Option Int->Option Int->Hp->VK->Prop} (hc : SlR X r1) (i : ∀ F A H Q vx,RW X.K F A W H->ElR X.K F A x vx->zp4 X.K F A k Q->r1 vx lo hi H Q) : LB X x lo hi W k :=
 fun F A H Q vs r z q=>⟨r1,hc,i F A H Q vs r z q⟩
theorem zc7 {e : Expr} {lo hi : Option Expr} {p2 pos : Pos} (h : BE X S W e fun x W1=>BO X S W1 lo fun l W2=>BO X S W2 hi fun u W3=>LB X x l u W3 k) : BE X S W (.Subscript e (.Slice lo hi none p2) pos) k :=
 .of (za53 sl_U zi0 po_U po_U) fun F A σ H Q x0 r sr q =>
  h.use x0 r sr fun F1 A1 W1 H1 x vx e1 r1 z1 h1=>h1.use (x0.trans e1) r1 (sr.ext e1) fun F2 A2 W2 H2 l e2 r2 h2=>h2.use (x0.trans (e1.trans e2)) r2 (sr.ext (e1.trans e2)) fun F3 A3 W3 H3 u e3 r3 h3 =>
   h3 F3 A3 H3 Q vx r3 (z1.ext (e2.trans e3)) (q.ext ((e1.trans e2).trans e3))
/-- the cut of any list -/
def zx0 {α : Type} (xs : List α) (lo hi : Option Int) : List α:=(xs.drop (HT.sIx xs.length 0 lo)).take (HT.sIx xs.length xs.length hi - HT.sIx xs.length 0 lo)
theorem zD5 {α : Type} {F : α->V->Prop} {l : List α} {m : List V} (p : Paired F l m) (lo hi : Option Int) : Paired F (zx0 l lo hi) (zO1 m lo hi):=by
 unfold zx0 zO1
 rw [zb6 p]
 exact zU8 _ (zU9 _ p)
theorem zb84 : SlR X (fun x lo hi H Q=>∃ a xs,x = .ref a /\ SqT X.K H a xs /\ ((∀ p,H p = none->Q (.ref p) (upd H p (.tup (zO1 xs lo hi)))) /\ (zO1 xs lo hi = xs->Q (.ref a) H))):=by
 intro pins s σ H x v vl vu lo hi sl Q I rx hs pl pu h
 obtain ⟨a,xs,rfl,hq,h1,h2⟩:=h
 by_cases hw : HT.sIx xs.length 0 lo = 0 /\ HT.sIx xs.length xs.length hi = xs.length
 ·cases rx
  obtain ⟨its,r,ht,hz⟩:=I.tuple hq
  have hlen : its.toArray.size = xs.length:=by rw [by6]; exact r.length.symm
  refine ⟨"tuple",_,hy2.lookup,ht.typeIs,?_⟩
  refine HT.zq9 ht hs pl pu (by rw [hlen]; exact hw) ?_
  exact ⟨.ref a,H,I,rfl,h2 (za63 hw)⟩
 ·exact zb30 pins s σ H (.ref a) v vl vu lo hi sl Q I rx hs pl pu ⟨a,xs,rfl,hq,hw,h1⟩
theorem zh7 {ds : List PyData} {lo hi : Option Int} (h : k (.d (.tuple (zx0 ds lo hi))) W) : LB X (.d (.tuple ds)) lo hi W k:=.of zb84 fun F A H Q vx r zx q=>by
 obtain ⟨a,vs,rfl,hs,z⟩:=Rq.zi7 zx
 refine ⟨a,vs,rfl,r.sub.zw8 hs,fun p hp=>q.newT r hp (zD5 z lo hi) h,fun e=>q.same r (.dd (Rq.tup hs (Rqs.of ?_))) h⟩
 have:=zD5 z lo hi
 rw [e] at this
 exact this
theorem zJ4 {z : Str} {lo hi : Option Int} (hz : z.length <= by0) (h : k (.d (.str (py1 z lo hi))) W) : LB X (.d (.str z)) lo hi W k:=.of zd08 fun F A H Q vx r zx q=>by
 obtain rfl:=Rq.zg1 zx
 exact ⟨z,rfl,hz,q.same r (.dd (Rq.str _)) h⟩
theorem zb39 {ds : List PyData} {lo hi : Option Int} (h : k (.d (.list (zx0 ds lo hi))) W) : LB X (.d (.list ds)) lo hi W k:=.of zU1 fun F A H Q vx r zx q=>by
 obtain ⟨a,vs,rfl,hs,z⟩:=Rq.zt8 zx
 exact ⟨a,vs,rfl,(.inl (r.sub.rd hs)),fun p hp=>q.newL r hp (zD5 z lo hi) h⟩
/-- a slice of a list that is changed,of data,is a new list of data -/
theorem zb40 {j : Nat} {ds : List PyData} {lo hi : Option Int} (hj : W[j]? = some (.lst (zb4 ds))) (h : k (.d (.list (zx0 ds lo hi))) W) : LB X (.o j) lo hi W k:=.of zU1 fun F A H Q vx r zx q=>by
 obtain ⟨a,vs,rfl,ha,hH,z⟩:=r.at zx hj
 exact ⟨a,vs,rfl,SqL.of hH,fun p hp=>q.newL r hp (zD5 (zi1 z) lo hi) h⟩
end
section
variable {X : Bc} {S : Sl} {W : Wl} {k : KB}
theorem zJ5 {f : Value->Value->Sem Value} {C : Int->Int->Prop} {g : Int->Int->Int} (ho : OpR X f (rI C fun i j=>.int (g i j))) {i j : Int} (hc : C i j) (h : k (.d (.int (g i j))) W) : OB X f (.d (.int i)) (.d (.int j)) W k :=
 .of ho fun F A H Q vx vy r zx zy q=>by
  obtain rfl:=Rq.zd4 zx
  obtain rfl:=Rq.zd4 zy
  exact ⟨i,j,rfl,rfl,hc,q.same r (.dd (Rq.int _)) h⟩
theorem zV3 {f : Value->Value->Sem Value} {g : Int->Int->Int} (ho : OpR X f (rI0 fun i j=>.int (g i j))) {i j : Int} (h : k (.d (.int (g i j))) W) : OB X f (.d (.int i)) (.d (.int j)) W k :=
 .of ho fun F A H Q vx vy r zx zy q=>by
  obtain rfl:=Rq.zd4 zx
  obtain rfl:=Rq.zd4 zy
  exact ⟨i,j,rfl,rfl,q.same r (.dd (Rq.int _)) h⟩
theorem zV4 {f : Value->Value->Sem Value} {g : Int->Int->Bool} (ho : OpR X f (rI0 fun i j=>.bl (g i j))) {i j : Int} (h : k (.d (.bool (g i j))) W) : OB X f (.d (.int i)) (.d (.int j)) W k :=
 .of ho fun F A H Q vx vy r zx zy q=>by
  obtain rfl:=Rq.zd4 zx
  obtain rfl:=Rq.zd4 zy
  exact ⟨i,j,rfl,rfl,q.same r (.dd (Rq.bl _)) h⟩
theorem zh8 {i j : Int} (h : k (.d (.int (i + j))) W) : OB X (jy5 .Add) (.d (.int i)) (.d (.int j)) W k:=zV3 zc86 h
theorem zV5 {i j : Int} (h : k (.d (.int (i - j))) W) : OB X (jy5 .Sub) (.d (.int i)) (.d (.int j)) W k:=zV3 zc87 h
theorem zV6 {i j : Int} (hc : CMul i j) (h : k (.d (.int (i * j))) W) : OB X (jy5 .Mult) (.d (.int i)) (.d (.int j)) W k:=zJ5 zc88 hc h
theorem zV7 {i j : Int} (hc : 0 < j) (h : k (.d (.int (i % j))) W) : OB X (jy5 .Mod) (.d (.int i)) (.d (.int j)) W k:=zJ5 zc89 hc h
theorem zd16 {i j : Int} (hc : CPow i j) (h : k (.d (.int (i ^ j.toNat))) W) : OB X (jy5 .Pow) (.d (.int i)) (.d (.int j)) W k:=zJ5 zc90 hc h
theorem za68 {i j : Int} (h : k (.d (.bool (decide (i < j)))) W) : OB X (fy7 .Lt) (.d (.int i)) (.d (.int j)) W k:=zV4 ze25 h
theorem zO4 {i j : Int} (h : k (.d (.bool (decide (i <= j)))) W) : OB X (fy7 .LtE) (.d (.int i)) (.d (.int j)) W k:=zV4 ze26 h
theorem zG7 {x y : Str} (hl : x.length + y.length <= by0) (h : k (.d (.str (x++y))) W) : OB X (jy5 .Add) (.d (.str x)) (.d (.str y)) W k:=.of zN7 fun F A H Q vx vy r zx zy q=>by
 obtain rfl:=Rq.zg1 zx
 obtain rfl:=Rq.zg1 zy
 exact ⟨x,y,rfl,rfl,hl,q.same r (.dd (Rq.str _)) h⟩
theorem zb85 : OpR X (jy5 .Add) (fun x y H Q=>∃ a b xs ys,x = .ref a /\ y = .ref b /\ SqT X.K H a xs /\ SqT X.K H b ys /\ xs.length + ys.length <= by0 /\ (xs = []->Q (.ref b) H) /\ (ys = []->Q (.ref a) H) /\ ∀ p,H p = none->Q (.ref p) (upd H p (.tup (xs++ys)))):=by
 intro pins s σ H x y v u Q I rx ry h
 obtain ⟨a,b,xs,ys,rfl,rfl,ha,hb,hz,q1,q2,q3⟩:=h
 by_cases hx : xs = []
 ·cases rx
  cases ry
  obtain ⟨its,r1,p1,_⟩:=I.tuple ha
  obtain ⟨its2,r2,p2,_⟩:=I.tuple hb
  exact HT.za62 p1 p2 (r1.zy4.mpr hx) ⟨.ref b,H,I,rfl,q1 hx⟩
 ·exact zb76 pins s σ H (.ref a) (.ref b) v u Q I rx ry ⟨a,b,xs,ys,rfl,rfl,ha,hb,hx,hz,q2,fun _ p hp=>q3 p hp⟩
theorem zz3 {x y : List PyData} (hl : x.length + y.length <= by0) (h : k (.d (.tuple (x++y))) W) : OB X (jy5 .Add) (.d (.tuple x)) (.d (.tuple y)) W k:=.of zb85 fun F A H Q vx vy r zx zy q=>by
 obtain ⟨a,xs,rfl,hs,z⟩:=Rq.zi7 zx
 obtain ⟨b,ys,rfl,hs',z'⟩:=Rq.zi7 zy
 refine ⟨a,b,xs,ys,rfl,rfl,r.sub.zw8 hs,r.sub.zw8 hs',by rw [<- zb6 z,<- zb6 z']; exact hl,fun e=>?_,fun e=>?_,fun p hp=>q.newT r hp (zo1 z z') h⟩
 ·subst e
  have : x = []:=oy6.mp (zb6 z)
  subst this
  exact q.same r zy h
 ·subst e
  have : y = []:=oy6.mp (zb6 z')
  subst this
  rw [hy4] at h
  exact q.same r zx h
theorem zb86 : OpR X (jy5 .Add) (fun x y H Q=>∃ a b xs ys,x = .ref a /\ y = .ref b /\ Rd H a (.lst xs) /\ Rd H b (.lst ys) /\ xs.length + ys.length <= by0 /\ ∀ p,H p = none->Q (.ref p) (upd H p (.lst (xs++ys)))):=by
 intro pins s σ H x y v u Q I rx ry h
 obtain ⟨l,b,xs,zs,rfl,rfl,hx,hz,hn,q⟩:=h
 cases rx
 cases ry
 obtain ⟨z,its,n,r,e⟩:=hx.ok I.hok
 obtain ⟨z2,its2,n2,r2,e2⟩:=hz.ok I.hok
 refine PySem.P.add_list e e2 ?_ (by rw [by6,by6,<- r.length,<- r2.length]; omega)
 have ea : its.toArray++its2.toArray = (its++its2).toArray:=by simp
 rw [ea]
 exact ⟨.ref _,_,I.lnew (t':=s.toks) (r.append r2) (by rw [cy5]; omega),rfl,q _ I.fresh⟩
/-- a list's data,of one that is changed or not -/
def zD6 (W : Wl) (x : El) (ds : List PyData) : Prop:=x = .d (.list ds) \/ ∃ j,x = .o j /\ W[j]? = some (.lst (zb4 ds))
theorem RW.lst {F : Hp} {A : List Addr} {H : Hp} (r : RW X.K F A W H) {x : El} {v : V} {ds : List PyData} (z : ElR X.K F A x v) (h : zD6 W x ds) : ∃ a vs,v = .ref a /\ Rd H a (.lst vs) /\ Paired (fun d v=>Rq X.K F v d) ds vs:=by
 rcases h with rfl | ⟨j,rfl,hj⟩
 ·obtain ⟨a,vs,rfl,hs,z⟩:=Rq.zt8 z
  exact ⟨a,vs,rfl,r.sub.rd hs,z⟩
 ·obtain ⟨a,vs,rfl,ha,hH,z⟩:=r.at z hj
  exact ⟨a,vs,rfl,.inl hH,zi1 z⟩
theorem zb87 {x y : El} {xs ys : List PyData} (hx : zD6 W x xs) (hy : zD6 W y ys) (hl : xs.length + ys.length <= by0) (h : k (.d (.list (xs++ys))) W) : OB X (jy5 .Add) x y W k:=.of zb86 fun F A H Q vx vy r zx zy q=>by
 obtain ⟨a,vs,rfl,hs,z⟩:=r.lst zx hx
 obtain ⟨b,ws,rfl,hs',z'⟩:=r.lst zy hy
 exact ⟨a,b,vs,ws,rfl,rfl,hs,hs',by rw [<- zb6 z,<- zb6 z']; exact hl,fun p hp=>q.newL r hp (zo1 z z') h⟩
theorem zb41 (neg : Bool) (hu : X.A.units + 64 < cLine) : OpR X (fy7 (if neg then .NotEq else .Eq)) (fun x y H Q=>∃ d e,Rq X.K H x d /\ Rq X.K H y e /\ Dat d /\ Dat e /\ Q (.bl (if neg then !ey0 d e else ey0 d e)) H):=by
 intro pins s σ H x y v u Q I rx ry h
 obtain ⟨d,e,rd,re,hd,he,q⟩:=h
 obtain ⟨as,h1⟩:=Rq.reads I d hd.lay rd rx
 obtain ⟨bs,h2⟩:=Rq.reads I e he.lay re ry
 cases neg with
 | false=>exact SeqAt.compareEq_reads h1 h2 hd.lay he.lay (by have:=hd.dep; omega) ⟨.bl _,H,I,rfl,q⟩
 | true=>exact SeqAt.compareNe_reads h1 h2 hd.lay he.lay (by have:=hd.dep; omega) ⟨.bl _,H,I,rfl,q⟩
/-- the data of a thing,also of a list that is changed -/
def dat (W : Wl) (x : El) (d : PyData) : Prop:=x = .d d \/ ∃ ds,d = .list ds /\ zD6 W x ds
theorem RW.dat {F : Hp} {A : List Addr} {H : Hp} (r : RW X.K F A W H) {x : El} {v : V} {d : PyData} (z : ElR X.K F A x v) (h : dat W x d) : Rq X.K H v d:=by
 rcases h with rfl | ⟨ds,rfl,h⟩
 ·exact Rq.same r.sub _ z
 ·obtain ⟨a,vs,rfl,hs,z⟩:=r.lst z h
  exact .lst hs (Rqs.of (zf4 (fun _ _ t=>Rq.same r.sub _ t) z))
theorem zO5 {x y : El} {d e : PyData} (hu : X.A.units + 64 < cLine) (hx : dat W x d) (hy : dat W y e) (hd : Dat d) (he : Dat e) (h : k (.d (.bool (ey0 d e))) W) : OB X (fy7 .Eq) x y W k :=
 .of (zb41 false hu) fun F A H Q vx vy r zx zy q=>⟨d,e,r.dat zx hx,r.dat zy hy,hd,he,q.same r (.dd (Rq.bl _)) h⟩
theorem za69 {x y : El} {d e : PyData} (hu : X.A.units + 64 < cLine) (hx : dat W x d) (hy : dat W y e) (hd : Dat d) (he : Dat e) (h : k (.d (.bool (!ey0 d e))) W) : OB X (fy7 .NotEq) x y W k :=
 .of (zb41 true hu) fun F A H Q vx vy r zx zy q=>⟨d,e,r.dat zx hx,r.dat zy hy,hd,he,q.same r (.dd (Rq.bl _)) h⟩
/-- of numbers,texts,truths -/
theorem zx1 {i j : Int} (h : k (.d (.bool (decide (i = j)))) W) : OB X (fy7 .Eq) (.d (.int i)) (.d (.int j)) W k:=.of zc92 fun F A H Q vx vy r zx zy q=>by
 obtain rfl:=Rq.zd4 zx
 obtain rfl:=Rq.zd4 zy
 exact ⟨rfl,q.same r (.dd (by have : decide (V.int i = V.int j) = decide (i = j):=(by simp); rw [this]; exact Rq.bl _)) h⟩
theorem zD7 {i j : Int} (h : k (.d (.bool (!decide (i = j)))) W) : OB X (fy7 .NotEq) (.d (.int i)) (.d (.int j)) W k:=.of zc93 fun F A H Q vx vy r zx zy q=>by
 obtain rfl:=Rq.zd4 zx
 obtain rfl:=Rq.zd4 zy
 exact ⟨rfl,q.same r (.dd (by have : decide (V.int i = V.int j) = decide (i = j):=(by simp); rw [this]; exact Rq.bl _)) h⟩
theorem zf9 {i j : Str} (h : k (.d (.bool (decide (i = j)))) W) : OB X (fy7 .Eq) (.d (.str i)) (.d (.str j)) W k:=.of zc92 fun F A H Q vx vy r zx zy q=>by
 obtain rfl:=Rq.zg1 zx
 obtain rfl:=Rq.zg1 zy
 exact ⟨rfl,q.same r (.dd (by have : decide (V.str i = V.str j) = decide (i = j):=(by simp); rw [this]; exact Rq.bl _)) h⟩
theorem zJ6 {i j : Str} (h : k (.d (.bool (!decide (i = j)))) W) : OB X (fy7 .NotEq) (.d (.str i)) (.d (.str j)) W k:=.of zc93 fun F A H Q vx vy r zx zy q=>by
 obtain rfl:=Rq.zg1 zx
 obtain rfl:=Rq.zg1 zy
 exact ⟨rfl,q.same r (.dd (by have : decide (V.str i = V.str j) = decide (i = j):=(by simp); rw [this]; exact Rq.bl _)) h⟩
def isNone : PyData->Bool
 | .none=>true
 | _=>false
/-- x is None -/
theorem zb42 {x : PyData} (h : k (.d (.bool (isNone x))) W) : OB X (fy7 .Is) (.d x) (.d .none) W k:=.of zc94 fun F A H Q vx vy r zx zy q=>by
 obtain rfl:=Rq.zd10 zy
 refine ⟨rfl,q.same r (.dd ?_) h⟩
 have : decide (vx = V.non) = isNone x:=by
  have zx : Rq X.K F vx x:=zx
  cases zx <;> simp [isNone]
 rw [this]
 exact Rq.bl _
theorem zd17 {i j : Str} (h : k (.d (.bool (!(sy1 j i 0 j.length 1).isEmpty))) W) : OB X (fy7 .In) (.d (.str i)) (.d (.str j)) W k:=.of zT0 fun F A H Q vx vy r zx zy q=>by
 obtain rfl:=Rq.zg1 zx
 obtain rfl:=Rq.zg1 zy
 exact ⟨i,j,rfl,rfl,q.same r (.dd (Rq.bl _)) h⟩
theorem zV8 {xs : List Str} {x : Str} : inV (.str x) (xs.map V.str) = decide (x∈xs):=by
 unfold inV
 rw [List.any_map]
 induction xs with
 | nil=>simp
 | cons a r ih =>
  rw [qy7,ih]
  have : (eqV (V.str a) (V.str x)) = decide (x = a):=by
   by_cases e : a = x
   ·subst e; simp [eqV]
   ·have e' : ¬ x = a:=fun z=>e z.symm
    simp [eqV,e,e']
  simp [this]
theorem zz4 {K : ay2} {F : Hp} : ∀ {xs : List Str} {vs : List V},Paired (fun d v=>Rq K F v d) (xs.map PyData.str) vs->vs = xs.map V.str
 | [],_,.nil=>rfl
 | x :: xs,_,.cons r t=>by rw [zz4 t,Rq.zg1 r]; rfl
theorem zV9 {K : ay2} {F : Hp} : ∀ {xs : List Int} {vs : List V},Paired (fun d v=>Rq K F v d) (xs.map PyData.int) vs->vs = xs.map V.int
 | [],_,.nil=>rfl
 | x :: xs,_,.cons r t=>by rw [zV9 t,Rq.zd4 r]; rfl
theorem zb43 {K : ay2} {F : Hp} : ∀ {xs : List Bool} {vs : List V},Paired (fun d v=>Rq K F v d) (xs.map PyData.bool) vs->vs = xs.map V.bl
 | [],_,.nil=>rfl
 | x :: xs,_,.cons r t=>by rw [zb43 t,Rq.zt7 r]; rfl
theorem zD8 {xs : List Str} : (xs.map V.str).all zy6 = true:=by rw [List.all_map]; exact List.all_eq_true.mpr fun _ _=>rfl
theorem zb88 {x : Str} {y : El} {xs : List Str} (hy : zD6 W y (xs.map .str) \/ y = .d (.tuple (xs.map .str))) (h : k (.d (.bool (!decide (x∈xs)))) W) : OB X (fy7 .NotIn) (.d (.str x)) y W k:=.of zD1 fun F A H Q vx vy r zx zy q=>by
 obtain rfl:=Rq.zg1 zx
 rcases hy with hy | rfl
 ·obtain ⟨a,vs,rfl,hs,z⟩:=r.lst zy hy
  obtain rfl:=zz4 z
  refine ⟨a,_,rfl,.inl (.inl hs),rfl,zD8,?_⟩
  rw [if_pos rfl,zV8]
  exact q.same r (.dd (Rq.bl _)) h
 ·obtain ⟨a,vs,rfl,hs,z⟩:=Rq.zi7 zy
  obtain rfl:=zz4 z
  refine ⟨a,_,rfl,.inr (r.sub.zw8 hs),rfl,zD8,?_⟩
  rw [if_pos rfl,zV8]
  exact q.same r (.dd (Rq.bl _)) h
theorem zi8 {α β : Type} {F : α->β->Prop} {a : α} {m : List β} (h : Paired F [a] m) : ∃ b,m = [b] /\ F a b:=by
 cases h with
 | cons r t=>cases t; exact ⟨_,rfl,r⟩
theorem zu3 {α β : Type} {F : α->β->Prop} {a b : α} {m : List β} (h : Paired F [a,b] m) : ∃ c d,m = [c,d] /\ F a c /\ F b d:=by
 cases h with
 | cons r t=>obtain ⟨d,rfl,q⟩:=zi8 t; exact ⟨_,_,rfl,r,q⟩
theorem zb89 {x : Str} (hl : x.length <= by0) (h : k (.d (.int x.length)) W) : CB X (.builtin "len") [.d (.str x)] W k:=.of zD2 fun F A H Q vs r zs q=>by
 obtain ⟨v,rfl,z⟩:=zi8 zs
 obtain rfl:=Rq.zg1 z
 exact ⟨x,rfl,hl,q.same r (.dd (Rq.int _)) h⟩
theorem zg9 {ds : List PyData} (h : k (.d (.int ds.length)) W) : CB X (.builtin "len") [.d (.tuple ds)] W k:=.of zm6 fun F A H Q vs r zs q=>by
 obtain ⟨v,rfl,z⟩:=zi8 zs
 obtain ⟨a,vs,rfl,hs,z⟩:=Rq.zi7 z
 exact ⟨a,vs,rfl,.inr (r.sub.zw8 hs),by rw [<- zb6 z]; exact q.same r (.dd (Rq.int _)) h⟩
theorem zr0 {ds : List PyData} {x : El} (hx : zD6 W x ds) (h : k (.d (.int ds.length)) W) : CB X (.builtin "len") [x] W k:=.of zm6 fun F A H Q vs r zs q=>by
 obtain ⟨v,rfl,z⟩:=zi8 zs
 obtain ⟨a,vs,rfl,hs,z⟩:=r.lst z hx
 exact ⟨a,vs,rfl,.inl (.inl hs),by rw [<- zb6 z]; exact q.same r (.dd (Rq.int _)) h⟩
theorem zW0 {i j : Int} (hc : CDiv i j) (h : k (.d (.tuple [.int (i / j),.int (i % j)])) W) : CB X (.builtin "divmod") [.d (.int i),.d (.int j)] W k:=.of zG1 fun F A H Q vs r zs q=>by
 obtain ⟨u,v,rfl,z1,z2⟩:=zu3 zs
 obtain rfl:=Rq.zd4 z1
 obtain rfl:=Rq.zd4 z2
 exact ⟨i,j,rfl,hc,fun p hp=>q.newT r hp (.cons (Rq.int _) (.cons (Rq.int _) .nil)) h⟩
theorem zb90 {b : Bool} (h : k (.d (.int (if b then 1 else 0))) W) : CB X (.type "int") [.d (.bool b)] W k:=.of zT3 fun F A H Q vs r zs q=>by
 obtain ⟨v,rfl,z⟩:=zi8 zs
 obtain rfl:=Rq.zt7 z
 exact .inr ⟨b,rfl,q.same r (.dd (Rq.int _)) h⟩
theorem zD9 {x : El} {bs : List Bool} (hc : X.calm = true) (hx : zD6 W x (bs.map .bool)) (h : k (.d (.bool (bs.all id))) W) : CB X (.builtin "all") [x] W k:=.of (za59 hc) fun F A H Q vs r zs q=>by
 obtain ⟨v,rfl,z⟩:=zi8 zs
 obtain ⟨a,vs,rfl,hs,z⟩:=r.lst z hx
 obtain rfl:=zb43 z
 exact ⟨a,bs,rfl,.inl hs,q.same r (.dd (Rq.bl _)) h⟩
theorem zz5 {x : El} {ds : List PyData} (hx : zD6 W x ds) (h : k (.d (.tuple ds)) W) : CB X (.type "tuple") [x] W k:=.of zy8 fun F A H Q vs r zs q=>by
 obtain ⟨v,rfl,z⟩:=zi8 zs
 obtain ⟨a,vs,rfl,hs,z⟩:=r.lst z hx
 exact ⟨a,vs,rfl,.inl ⟨.inl hs,fun l hl=>q.newT r hl z h⟩⟩
def tyD : PyData->String
 | .none => "NoneType" | .bool _ => "bool" | .int _ => "int" | .str _ => "str" | .list _ => "list" | .tuple _ => "tuple" | .dict _ => "dict"
theorem za70 : zl1 X (.builtin "isinstance") (fun xs H Q=>∃ x d T b,xs = [x,.ty T] /\ Rq X.K H x d /\ PySem.W.kitOne X.K (.type (tyD d)) (.type T) = some b /\ Q (.bl b) H):=by
 intro pins s σ H xs us Q I r h
 obtain ⟨x,d,T,b,rfl,rd,e,q⟩:=h
 obtain ⟨u,v,rfl,ru,rv⟩:=r.two
 cases (show v = Value.type T from rv)
 have fin : ∀ tk,EP X pins σ Q (.bool b) { s with toks:=tk }:=fun tk=>⟨.bl b,H,I.tok tk,rfl,q⟩
 cases rd with
 | non=>exact zi4 I ru .non e fin
 | bl y=>exact zi4 I ru (.bl y) e fin
 | int i=>exact zi4 I ru (.int i) e fin
 | str y=>exact zi4 I ru (.str y) e fin
 | lst h _ =>
  rcases h with h | ⟨o,h⟩
  ·exact zi4 I ru (.lst h) e fin
  ·exact zi4 I ru (.frz h) e fin
 | @tup a vs ds h _ =>
  cases (show u = fy8 a from ru)
  obtain ⟨its,_,⟨o,h1,h2,_⟩,_⟩:=I.tuple h
  exact iy0 PySem.W.kitx_tuple I.kIn ⟨o,h1,h2⟩ e (fun z=>nomatch z) fin
 | dct h _=>exact zi4 I ru (.dK h) e fin
theorem kitD (K : ay2) (d : PyData) (T : String) (h : T = "int" \/ T = "bool" \/ T = "str" \/ T = "tuple" \/ T = "list" \/ T = "dict") : PySem.W.kitOne K (.type (tyD d)) (.type T) = some (tyD d == T || (tyD d == "bool" && T == "int")):=by
 cases d <;> rcases h with rfl | rfl | rfl | rfl | rfl | rfl <;> rfl
def isD (d : PyData) (T : String) : Bool:=tyD d == T || (tyD d == "bool" && T == "int")
/-- isinstance(e,T) -/
theorem zd6 {e : Expr} {T : Str} {Ts : String} {p p' pos : Pos} (hg : Gl X "isinstance") (hm : X.mg "isinstance" = none) (hv : ey7 "isinstance" = some (.builtin "isinstance")) (hgT : Gl X T) (hmT : X.mg T = none) (hvT : ey7 T = some (.type Ts))
  (hT : Ts = "int" \/ Ts = "bool" \/ Ts = "str" \/ Ts = "tuple" \/ Ts = "list" \/ Ts = "dict") (h : BE X S W e fun x W1=>∃ d,dat W1 x d /\ k (.d (.bool (isD d Ts))) W1)
  (hn : T ≠ "__name__" := by decide) (hd : (T == ("__debug__" : Str)) = false:=by decide)
  (hs : ey1 [e,.Name T p'] X.env = (false,eval e X.env) :: ey1 [.Name T p'] X.env:=by rfl) (hs2 : ey1 [.Name T p'] X.env = [(false,eval (.Name T p') X.env)]:=by rfl) (hpl : (backTo pos (ey1 [.Name T p'] X.env)).any (·.1) = false:=by rfl) :
  BE X S W (.Call (.Name "isinstance" p) [e,.Name T p'] [] pos) k :=
 .of (zy3 za70 hg hm hv (zm5 zi0 (zm5 (zb62 (v:=.ty Ts) hgT hmT hvT rfl hn hd) zt2 hs2) hs) (by decide) (by decide) hs hpl) fun F A σ H Q x0 r sr q=>h.use x0 r sr fun F1 A1 W1 H1 x vx e1 r1 z1 ⟨d,hd,h1⟩=>by
  exact ⟨vx,d,Ts,_,rfl,r1.dat z1 hd,kitD X.K d Ts hT,(q.ext e1).same r1 (.dd (Rq.bl _)) h1⟩
def rUM (X : Bc) (id : String) : V->List V->Hp->VK->Prop:=fun x xs H Q=>∃ r,MtR X id r /\ r x xs H Q
theorem mt_U {id : String} : MtR X id (rUM X id):=fun pins s σ H x xs v us Q I rx rs ⟨r,h,q⟩=>h pins s σ H x xs v us Q I rx rs q
/-- T: the receiver's type -/
def MB (X : Bc) (T id : String) (x : El) (xs : List El) (W : Wl) (k : KB) : Prop:=∀ F A H Q v vs,RW X.K F A W H->ElR X.K F A x v->Paired (ElR X.K F A) xs vs->zp4 X.K F A k Q->rUM X id v vs H Q
theorem MB.of {T id : String} {x : El} {xs : List El} {r1 : V->List V->Hp->VK->Prop} (hc : MtR X id r1) (i : ∀ F A H Q v vs,RW X.K F A W H->ElR X.K F A x v->Paired (ElR X.K F A) xs vs->zp4 X.K F A k Q->r1 v vs H Q) : MB X T id x xs W k :=
 fun F A H Q v vs r zx z q=>⟨r1,hc,i F A H Q v vs r zx z q⟩
/-- the receiver is of that type -/
def isTy (W : Wl) : El->String->Prop
 | .d (.str _),T=>T = "str"
 | .d (.list _),T=>T = "list"
 | .o j,T=>(T = "list" /\ ∃ es,W[j]? = some (.lst es)) \/ (T = "dict" /\ ((∃ es,W[j]? = some (.dK es)) \/ ∃ es,W[j]? = some (.dT es)))
 | _,_=>False
theorem RW.ty {F : Hp} {A : List Addr} {H : Hp} (r : RW X.K F A W H) {x : El} {v : V} {T : String} (z : ElR X.K F A x v) (h : isTy W x T) : tyV X.K T v H:=by
 cases x with
 | o j =>
  obtain ⟨a,ha,rfl⟩:=z
  rcases h with ⟨rfl,es,hj⟩ | ⟨rfl,⟨es,hj⟩ | ⟨es,hj⟩⟩
  ·obtain ⟨h,e,vs,rfl,p⟩:=r.obj j a _ ha hj
   exact .inl ⟨rfl,vs,SqL.of e⟩
  ·obtain ⟨h,e,vs,rfl,p⟩:=r.obj j a _ ha hj
   exact .inr (.inr (.inl ⟨rfl,.inl ⟨vs,e⟩⟩))
  ·obtain ⟨h,e,vs,rfl,p⟩:=r.obj j a _ ha hj
   exact .inr (.inr (.inl ⟨rfl,.inr ⟨vs,e⟩⟩))
 | s ns=>exact h.elim
 | x C=>exact h.elim
 | p ks=>exact h.elim
 | f a=>exact h.elim
 | t xs=>exact h.elim
 | d x =>
  cases x with
  | str y=>obtain rfl:=Rq.zg1 z; exact h
  | list ds =>
   obtain ⟨a,vs,rfl,hs,_⟩:=Rq.zt8 z
   exact .inl ⟨h,vs,.inl (r.sub.rd hs)⟩
  | _=>exact h.elim
theorem zg6 {o e : Expr} {es : List Expr} {name : Str} {T id : String} {apos cpos : Pos} (pa : PlainAttrs T) (slot : Slot T name id) (hty : typeOf (.builtin id) = pure (.type "method_descriptor"))
  (h : BE X S W o fun x W1=>isTy W1 x T /\ BA X S W1 (e :: es) fun xs W2=>MB X T id x xs W2 k)
  (hbase : attributeBase o name X.env (eval o X.env) = eval o X.env:=by rfl)
  (hfew : ((backTo cpos (ey1 (e :: es) X.env)).all (fun x=>!x.1) && (backToKw cpos (keywordEach [] X.env)).all (fun x=>x.1.isSome)
   && decide ((e :: es).length + ([] : List Keyword).length + (if ([] : List Keyword).isEmpty then 0 else 1) < 30)) = true:=by rfl)
  (hline : (apos.endLine == cpos.line) = true:=by rfl) (hs : ey1 (e :: es) X.env = (false,eval e X.env) :: ey1 es X.env:=by rfl) (hplain : (backTo cpos (ey1 es X.env)).any (·.1) = false:=by rfl) :
  BE X S W (.Call (.Attribute o name apos) (e :: es) [] cpos) k :=
 .of (ze34 pa slot hty mt_U zi0 zR2 hbase hfew hline hs hplain) fun F A σ H Q x0 r sr q=>h.use x0 r sr fun F1 A1 W1 H1 x vx e1 r1 z1 ⟨ht,h1⟩ =>
  ⟨r1.ty z1 ht,h1.use (x0.trans e1) r1 (sr.ext e1) fun F2 A2 W2 H2 xs vs e2 r2 z2 h2=>h2 F2 A2 H2 Q vx vs r2 (z1.ext e2) z2 (q.ext (e1.trans e2))⟩
theorem zd7 {j : Nat} {es : List El} {y : El} (hj : W[j]? = some (.lst es)) (hl : es.length < by0) (h : k (.d .none) (W.set j (.lst (es++[y])))) : MB X "list" "list.append" (.o j) [y] W k:=.of zU2 fun F A H Q v vs r zx z q=>by
 obtain ⟨a,ws,rfl,ha,hH,p⟩:=r.at zx hj
 obtain ⟨u,rfl,zu⟩:=zi8 z
 exact ⟨a,ws,u,rfl,rfl,hH,by rw [<- zb6 p]; exact hl,q.put r ha (o:=.lst (es++[y])) ⟨_,rfl,zo1 p (.cons zu .nil)⟩ (.dd Rq.non) h⟩
theorem zb91 {j : Nat} {es : List El} {y : El} (hj : W[j]? = some (.lst (y :: es))) (h : k y (W.set j (.lst es))) : MB X "list" "list.pop" (.o j) [.d (.int 0)] W k:=.of za55 fun F A H Q v vs r zx z q=>by
 obtain ⟨a,ws,rfl,ha,hH,p⟩:=r.at zx hj
 obtain ⟨u,rfl,zu⟩:=zi8 z
 obtain rfl:=Rq.zd4 zu
 cases p with
 | @cons _ b _ m r1 t =>
  refine ⟨a,b :: m,0,0,b,rfl,rfl,hH,by decide,by decide,by simp [seqIndex?],rfl,?_⟩
  exact q.put r ha (o:=.lst es) ⟨_,rfl,t⟩ r1 h
end
structure DB where
 nx : Sl->Wl->Prop
 rt : KB
 bk : Sl->Wl->Prop:=fun _ _=>False
 ct : Sl->Wl->Prop:=fun _ _=>False
/-- from the def's entry on: its first n objects are others' -/
structure Ex1 (n : Nat) (F : Hp) (A : List Addr) (F' : Hp) (A' : List Addr) : Prop where
 same : zo0 F F'
 pre : A.take n <+: A'
 len : n <= A'.length
theorem Ex1.refl {n : Nat} {F : Hp} {A : List Addr} (h : n <= A.length) : Ex1 n F A F A:=⟨.refl _,ry5 _ _,h⟩
theorem zl3 {n : Nat} {A A' : List Addr} (h : A.take n <+: A') (hn : n <= A.length) : A'.take n = A.take n:=by
 obtain ⟨r,rfl⟩:=h
 rw [py2 (by rw [iy2]; omega),List.take_take,Nat.min_self]
theorem Ex1.trans {n : Nat} {F F1 F2 : Hp} {A A1 A2 : List Addr} (hn : n <= A.length) (a : Ex1 n F A F1 A1) (b : Ex1 n F1 A1 F2 A2) : Ex1 n F A F2 A2 :=
 ⟨a.same.trans b.same,by rw [<- zl3 a.pre hn]; exact b.pre,b.len⟩
theorem Ext.ex1 {n : Nat} {F F1 : Hp} {A A1 : List Addr} (hn : n <= A.length) (a : Ext F A F1 A1) : Ex1 n F A F1 A1:=⟨a.same,(ry5 _ _).trans a.pre,cy6 hn a.pre.length_le⟩
structure zE0 (K : ay2) (n : Nat) (F : Hp) (A : List Addr) (D : DB) (E : Ends) : Prop where
 nx : ∀ F' A' W' H' S' σ',Ex1 n F A F' A'->RW K F' A' W' H'->SR K F' A' S' σ'->D.nx S' W'->E.nx σ' H'
 bk : ∀ F' A' W' H' S' σ',Ex1 n F A F' A'->RW K F' A' W' H'->SR K F' A' S' σ'->D.bk S' W'->E.bk σ' H'
 ct : ∀ F' A' W' H' S' σ',Ex1 n F A F' A'->RW K F' A' W' H'->SR K F' A' S' σ'->D.ct S' W'->E.ct σ' H'
 rt : ∀ F' A' W' H' e v,Ex1 n F A F' A'->RW K F' A' W' H'->ElR K F' A' e v->D.rt e W'->E.rt v H'
theorem zE0.ext {K : ay2} {n : Nat} {F F1 : Hp} {A A1 : List Addr} {D : DB} {E : Ends} (hn : n <= A.length) (h : zE0 K n F A D E) (x : Ex1 n F A F1 A1) : zE0 K n F1 A1 D E :=
 ⟨fun F' A' W' H' S' σ' y=>h.nx F' A' W' H' S' σ' (x.trans hn y),fun F' A' W' H' S' σ' y=>h.bk F' A' W' H' S' σ' (x.trans hn y),fun F' A' W' H' S' σ' y=>h.ct F' A' W' H' S' σ' (x.trans hn y),fun F' A' W' H' e v y=>h.rt F' A' W' H' e v (x.trans hn y)⟩
/-- what the entry knew still holds,and the first objects are others' -/
structure Bc.Ams (X : Bc) (n : Nat) (F : Hp) (A : List Addr) : Prop where
 am : X.Am F A
 le : X.A0.length <= n
theorem Bc.Ams.ext {X : Bc} {n : Nat} {F F' : Hp} {A A' : List Addr} (x : X.Ams n F A) (e : Ext F A F' A') : X.Ams n F' A':=⟨x.am.trans e,x.le⟩
theorem Bc.Ams.ex1 {X : Bc} {n : Nat} {F F' : Hp} {A A' : List Addr} (x : X.Ams n F A) (hn : n <= A.length) (e : Ex1 n F A F' A') : X.Ams n F' A':=⟨⟨x.am.same.trans e.same,by
 obtain ⟨r,hr⟩:=x.am.pre
 have h1 : X.A0 = A.take X.A0.length:=by rw [<- hr,List.take_left]
 have h2 : A.take X.A0.length = (A.take n).take X.A0.length:=by rw [List.take_take,qy1 x.le]
 rw [h1,h2]
 exact (ry5 _ _).trans e.pre⟩,x.le⟩
theorem Bc.Ams.up {X : Bc} {n m : Nat} {F : Hp} {A : List Addr} (x : X.Ams n F A) (h : n <= m) : X.Ams m F A:=⟨x.am,cy6 x.le h⟩
def tDS (X : Bc) (n : Nat) (S : Sl) (W : Wl) (D : DB) : TS:=fun E σ H=>∃ F A,n <= A.length /\ X.Ams n F A /\ RW X.K F A W H /\ SR X.K F A S σ /\ zE0 X.K n F A D E
def BS (X : Bc) (n : Nat) (S : Sl) (W : Wl) (st : Stmt) (D : DB) : Prop:=PS X st (tDS X n S W D)
def BSs (X : Bc) (n : Nat) (S : Sl) (W : Wl) (st : List Stmt) (D : DB) : Prop:=PSs X st (tDS X n S W D)
def tUSt (X : Bc) (st : Stmt) : TS:=fun E σ H=>∃ t,PS X st t /\ t E σ H
def tUSs (X : Bc) (st : List Stmt) : TS:=fun E σ H=>∃ t,PSs X st t /\ t E σ H
section
variable {X : Bc} {n : Nat} {S : Sl} {W : Wl} {D : DB}
theorem ps_U {st : Stmt} : PS X st (tUSt X st):=fun pins s σ H E I ⟨t,h,q⟩=>h pins s σ H E I q
theorem zE1 {st : List Stmt} : PSs X st (tUSs X st):=fun pins s σ H E I ⟨t,h,q⟩=>h pins s σ H E I q
theorem BS.of {st : Stmt} {t : TS} (h : PS X st t) (i : ∀ F A σ H E,n <= A.length->X.Ams n F A->RW X.K F A W H->SR X.K F A S σ->zE0 X.K n F A D E->t E σ H) : BS X n S W st D :=
 fun pins s σ H E I ⟨F,A,hn,x0,r,sr,q⟩=>h pins s σ H E I (i F A σ H E hn x0 r sr q)
theorem BSs.of {st : List Stmt} {t : TS} (h : PSs X st t) (i : ∀ F A σ H E,n <= A.length->X.Ams n F A->RW X.K F A W H->SR X.K F A S σ->zE0 X.K n F A D E->t E σ H) : BSs X n S W st D :=
 fun pins s σ H E I ⟨F,A,hn,x0,r,sr,q⟩=>h pins s σ H E I (i F A σ H E hn x0 r sr q)
theorem BS.use {st : Stmt} (h : BS X n S W st D) {F : Hp} {A : List Addr} {σ : St} {H : Hp} {E : Ends} (hn : n <= A.length) (x0 : X.Ams n F A) (r : RW X.K F A W H) (s : SR X.K F A S σ) (q : zE0 X.K n F A D E) : tUSt X st E σ H:=⟨_,h,F,A,hn,x0,r,s,q⟩
theorem BSs.use {st : List Stmt} (h : BSs X n S W st D) {F : Hp} {A : List Addr} {σ : St} {H : Hp} {E : Ends} (hn : n <= A.length) (x0 : X.Ams n F A) (r : RW X.K F A W H) (s : SR X.K F A S σ) (q : zE0 X.K n F A D E) : tUSs X st E σ H:=⟨_,h,F,A,hn,x0,r,s,q⟩
theorem ze5 (h : D.nx S W) : BSs X n S W [] D:=.of zb64 fun F A σ H E hn x0 r sr q=>q.nx F A W H S σ (.refl hn) r sr h
theorem za3 {st : Stmt} {rest : List Stmt} (h : BS X n S W st { D with nx:=fun S' W'=>BSs X n S' W' rest D }) : BSs X n S W (st :: rest) D :=
 .of (za45 ps_U zE1) fun F A σ H E hn x0 r sr q=>h.use hn x0 r sr ⟨fun F' A' W' H' S' σ' x r' sr' h'=>h'.use x.len (x0.ex1 hn x) r' sr' (q.ext hn x),q.bk,q.ct,q.rt⟩
theorem za9 {st : Stmt} (h : BS X n S W st D) : BSs X n S W [st] D:=zb65 h
theorem ze6 {e : Expr} {pos : Pos} (h : BE X S W e fun _ W1=>D.nx S W1) (hs : swapsWith e none pos.line X.env = pure false:=by rfl) : BS X n S W (.Expr e pos) D :=
 .of (zb66 zi0 hs) fun F A σ H E hn x0 r sr q=>h.use x0.am r sr fun F1 A1 W1 H1 x vx e1 r1 z1 h1=>q.nx F1 A1 W1 H1 S σ (e1.ex1 hn) r1 (sr.ext e1) h1
theorem ze2 {e : Expr} {pos : Pos} (h : BE X S W e D.rt) : BS X n S W (.Return (some e) pos) D :=
 .of (zS1 zi0) fun F A σ H E hn x0 r sr q=>h.use x0.am r sr fun F1 A1 W1 H1 x vx e1 r1 z1 h1=>q.rt F1 A1 W1 H1 x vx (e1.ex1 hn) r1 z1 h1
theorem zf2 {c : Expr} {a b : List Stmt} {pos : Pos} (h : BT X S W c fun t W1=>if t = true then BSs X n S W1 a D else BSs X n S W1 b D) : BS X n S W (.If c a b pos) D :=
 .of (ze17 pt_U zE1 zE1) fun F A σ H E hn x0 r sr q=>h.use x0.am r sr fun F1 A1 W1 H1 t e1 r1 h1=>by
  have hn1 : n <= A1.length:=(e1.ex1 hn).len
  cases t with
  | true =>
   rw [if_pos rfl] at h1 ⊢
   exact h1.use hn1 (x0.ext e1) r1 (sr.ext e1) (q.ext hn (e1.ex1 hn))
  | false =>
   rw [if_neg (by decide)] at h1 ⊢
   exact h1.use hn1 (x0.ext e1) r1 (sr.ext e1) (q.ext hn (e1.ex1 hn))
theorem zc5 {i : Nat} {x : Str} {e : Expr} {pos pos' : Pos} (hN : X.N.Nodup) (hi : X.N[i]? = some x) (hx : Loc X.env.scope x) (h : BE X S W e fun y W1=>D.nx (S.set i (some y)) W1) (hs : swapsWith e (some (.Name x pos')) pos.line X.env = pure false:=by rfl) (hf : X.fn x = true \/ X.env.scope.names.lookup x = some .local:=by first | exact .inl rfl | exact .inr rfl | assumption) :
  BS X n S W (.Assign [.Name x pos'] e pos) D :=
 .of (zc82 hN hi hx zi0 hs hf) fun F A σ H E hn x0 r sr q=>h.use x0.am r sr fun F1 A1 W1 H1 y vy e1 r1 z1 h1=>q.nx F1 A1 W1 H1 _ _ (e1.ex1 hn) r1 ((sr.ext e1).set z1 i) h1
/-- targets: names,a tuple of names -/
def tUG (X : Bc) (tg : Expr) : TG:=fun v σ H Q=>∃ t,PG X tg t /\ t v σ H Q
theorem pg_U {tg : Expr} : PG X tg (tUG X tg):=fun pins s σ H v u Q I r ⟨t,h,q⟩=>h pins s σ H v u Q I r q
def BG (X : Bc) (S : Sl) (W : Wl) (tg : Expr) (e : El) (k : Sl->Wl->Prop) : Prop:=∀ F A σ H v (Q : St->Hp->Prop),X.Am F A->RW X.K F A W H->SR X.K F A S σ->ElR X.K F A e v ->
 (∀ F' A' W' H' S' σ',Ext F A F' A'->RW X.K F' A' W' H'->SR X.K F' A' S' σ'->k S' W'->Q σ' H')->tUG X tg v σ H Q
theorem zm9 {i : Nat} {x : Str} {pos : Pos} {e : El} {k : Sl->Wl->Prop} (hN : X.N.Nodup) (hi : X.N[i]? = some x) (hx : Loc X.env.scope x) (h : k (S.set i (some e)) W) (hf : X.fn x = true \/ X.env.scope.names.lookup x = some .local:=by first | exact .inl rfl | exact .inr rfl | assumption) : BG X S W (.Name x pos) e k :=
 fun F A σ H v Q x0 r sr z q=>⟨_,zG0 hN hi hx hf,q F A W H _ _ .refl r (sr.set z i) h⟩
/-- the names of a tuple target: their slots -/
inductive Nms (X : Bc) : List Expr->List Nat->Prop
 | nil : Nms X [] []
 | cons {i : Nat} {x : Str} {pos : Pos} {es : List Expr} {is : List Nat} (hN : X.N.Nodup) (hi : X.N[i]? = some x) (hx : Loc X.env.scope x) (t : Nms X es is)
   (hf : X.fn x = true \/ X.env.scope.names.lookup x = some .local:=by first | exact .inl rfl | exact .inr rfl | assumption)
   (hs : (ky0 (.Name x pos :: es) X.env).map (·.2) = assign (.Name x pos) X.env :: (ky0 es X.env).map (·.2):=by rfl) : Nms X (.Name x pos :: es) (i :: is)
def gNms : List Nat->TGs
 | []=>gNil
 | i :: is=>zb67 (zN2 i) (gNms is)
theorem Nms.pgs : ∀ {es : List Expr} {is : List Nat},Nms X es is->PGs X es (gNms is)
 | _,_,.nil=>zS2
 | _,_,.cons hN hi hx t hf hs=>zJ0 (zG0 hN hi hx hf) t.pgs hs
def zr9 (S : Sl) : List Nat->List El->Sl
 | i :: is,e :: es=>zr9 (S.set i (some e)) is es
 | _,_=>S
def setAllσ (σ : St) : List Nat->List V->St
 | i :: is,e :: es=>setAllσ (σ.set i (some e)) is es
 | _,_=>σ
theorem zz6 : ∀ {is : List Nat} {vs : List V} {σ : St} {H : Hp} {Q : St->Hp->Prop},is.length = vs.length->Q (setAllσ σ is vs) H->gNms is vs σ H Q
 | [],[],σ,H,Q,_,q=>⟨rfl,q⟩
 | [],_ :: _,_,_,_,h,_=>by simp at h
 | _ :: _,[],_,_,_,h,_=>by simp at h
 | i :: is,v :: vs,σ,H,Q,h,q=>⟨v,vs,rfl,zz6 (is:=is) (by simpa using h) q⟩
theorem SR.zr9 {K : ay2} {F : Hp} {A : List Addr} : ∀ {is : List Nat} {es : List El} {vs : List V} {S : Sl} {σ : St},SR K F A S σ->Paired (ElR K F A) es vs->SR K F A (zr9 S is es) (setAllσ σ is vs)
 | [],_,_,_,_,r,_=>r
 | _ :: _,_,_,_,_,r,.nil=>r
 | i :: is,_,_,S,σ,r,.cons z t=>SR.zr9 (is:=is) (r.set z i) t
theorem zs0 {es : List Expr} {is : List Nat} {c : Nat} {pos : Pos} {ds : List PyData} {k : Sl->Wl->Prop} (hc : X.calm = true) (hm : Nms X es is) (hl : is.length = ds.length) (h : k (zr9 S is (zb4 ds)) W)
  (hn : (ky0 es X.env).length = is.length:=by rfl) (hst : (ky0 es X.env).findIdx? (·.1) = none:=by rfl) : BG X S W (.Tuple es c pos) (.d (.tuple ds)) k :=
 fun F A σ H v Q x0 r sr z q=>by
  obtain ⟨a,vs,rfl,hs,p⟩:=Rq.zi7 z
  exact ⟨_,zS3 hc hm.pgs hn hst,a,vs,rfl,r.sub.zw8 hs,by rw [<- zb6 p,hl],zz6 (by rw [hl,zb6 p]) (q F A W H _ _ .refl r (sr.zr9 (zp5 p)) h)⟩
theorem zx2 {tg e : Expr} {pos : Pos} (h : BE X S W e fun y W1=>BG X S W1 tg y D.nx) (hs : swapsWithSole [tg] e pos.line X.env = pure false:=by rfl) (hw : swappedStores [tg] e X.env = pure none:=by rfl)
  (h1 : (ky0 [tg] X.env).map (·.2) = [assign tg X.env]:=by rfl) : BS X n S W (.Assign [tg] e pos) D :=
 .of (zc81 zi0 pg_U hs hw h1) fun F A σ H E hn x0 r sr q=>h.use x0.am r sr fun F1 A1 W1 H1 y vy e1 r1 z1 h1=>h1 F1 A1 σ H1 vy _ (x0.am.trans e1) r1 (sr.ext e1) z1 fun F2 A2 W2 H2 S2 σ2 e2 r2 sr2 h2=>q.nx F2 A2 W2 H2 S2 σ2 ((e1.trans e2).ex1 hn) r2 sr2 h2
/-- o[i] = v -/
def zd18 (X : Bc) : TSet:=fun o i v H Q=>∃ t,PSet X t /\ t o i v H Q
theorem zd19 : PSet X (zd18 X):=fun pins s σ H o i v ov iv u Q I r1 r2 r3 ⟨t,h,q⟩=>h pins s σ H o i v ov iv u Q I r1 r2 r3 q
def SB (X : Bc) (o i v : El) (W : Wl) (k : Wl->Prop) : Prop:=∀ F A H vo vi vv (Q : Hp->Prop),RW X.K F A W H->ElR X.K F A o vo->ElR X.K F A i vi->ElR X.K F A v vv->(∀ F' A' W' H',Ext F A F' A'->RW X.K F' A' W' H'->k W'->Q H')->zd18 X vo vi vv H Q
theorem zd20 {o i : Expr} {pos : Pos} {e : El} {k : Sl->Wl->Prop} (h : BE X S W o fun x W1=>BE X S W1 i fun y W2=>SB X x y e W2 fun W3=>k S W3)
  (ha : ∀ v,assign (.Subscript o i pos) X.env v = (do
   let ov <- holding [v] (eval o X.env)
   let iv <- holding [v,ov] (eval i X.env)
   standAt pos
   holding [v,ov,iv] (setItem ov iv v)
   release [v,ov,iv] []):=by intro _; rfl) : BG X S W (.Subscript o i pos) e k :=
 fun F A σ H v Q x0 r sr z q=>⟨_,zc80 zi0 zi0 zd19 ha,h.use x0 r sr fun F1 A1 W1 H1 x vx e1 r1 z1 h1=>h1.use (x0.trans e1) r1 (sr.ext e1) fun F2 A2 W2 H2 y vy e2 r2 z2 h2 =>
  h2 F2 A2 H2 vx vy v _ r2 (z1.ext e2) z2 (z.ext (e1.trans e2)) fun F3 A3 W3 H3 e3 r3 h3=>q F3 A3 W3 H3 S σ ((e1.trans e2).trans e3) r3 (sr.ext ((e1.trans e2).trans e3)) h3⟩
theorem zd21 {j : Nat} {es : List El} {i : Int} {m : Nat} {v : El} {k : Wl->Prop} (hj : W[j]? = some (.lst es)) (hi : ixN es.length i = some m) (h : k (W.set j (.lst (es.set m v)))) : SB X (.o j) (.d (.int i)) v W k :=
 fun F A H vo vi vv Q r zo zi zv q=>by
  obtain ⟨a,ws,rfl,ha,hH,p⟩:=r.at zo hj
  obtain rfl:=Rq.zd4 zi
  exact ⟨_,set_list,a,ws,i,m,rfl,rfl,hH,by rw [<- zb6 p]; exact hi,q F A _ _ .refl (r.put ha (o:=.lst (es.set m v)) ⟨_,rfl,zb33 zv m p⟩) h⟩
/-- x += e -/
def tUIp (X : Bc) (op : Operator) : TIp:=fun x y H Q=>∃ t,PIp X op t /\ t x y H Q
theorem ze40 {op : Operator} : PIp X op (tUIp X op):=fun pins s σ H x y v u Q I r1 r2 ⟨t,h,q⟩=>h pins s σ H x y v u Q I r1 r2 q
def UB (X : Bc) (op : Operator) (x y : El) (W : Wl) (k : KB) : Prop:=∀ F A H vx vy Q,RW X.K F A W H->ElR X.K F A x vx->ElR X.K F A y vy->zp4 X.K F A k Q->tUIp X op vx vy H Q
theorem zd22 {i : Nat} {x : Str} {e : Expr} {op : Operator} {pos pos' : Pos} {a : El} (hN : X.N.Nodup) (hi : X.N[i]? = some x) (hx : Loc X.env.scope x) (hs : S[i]? = some (some a)) (h : BE X S W e fun y W1=>UB X op a y W1 fun z W2=>D.nx (S.set i (some z)) W2)
  (hf : X.fn x = true \/ X.env.scope.names.lookup x = some .local:=by first | exact .inl rfl | exact .inr rfl | assumption) : BS X n S W (.AugAssign (.Name x pos') op e pos) D :=
 .of (zc83 hN hi hx zi0 ze40 hf) fun F A σ H E hn x0 r sr q=>by
  obtain ⟨v,h1,h2⟩:=sr.get i a hs
  exact ⟨v,h1,h.use x0.am r sr fun F1 A1 W1 H1 y vy e1 r1 z1 h1=>h1 F1 A1 H1 v vy _ r1 (h2.ext e1) z1 fun F2 A2 W2 H2 z vz e2 r2 z2 h3=>q.nx F2 A2 W2 H2 _ _ ((e1.trans e2).ex1 hn) r2 ((sr.ext (e1.trans e2)).set z2 i) h3⟩
def El.below (m : Nat) : El->Prop
 | .d _=>True
 | .s _=>True
 | .x _=>True
 | .p _=>True
 | .f _=>True
 | .t xs=>∀ k,.inr k∈xs->k < m
 | .o k=>k < m
def OD.below (m : Nat) : OD->Prop
 | .lst es=>∀ e∈es,e.below m
 | .dK kvs=>∀ p∈kvs,p.2.below m
 | .dT kvs=>∀ p∈kvs,p.2.below m
 | .fT _ kvs=>∀ p∈kvs,p.2.below m
 | .fK _ kvs=>∀ p∈kvs,p.2.below m
 | .x _=>True
theorem zs1 {α β : Type} {F G : α->β->Prop} : ∀ {l : List α} {m : List β},Paired F l m->(∀ a∈l,∀ b,F a b->G a b)->Paired G l m
 | _,_,.nil,_=>.nil
 | _,_,.cons r t,h=>.cons (h _ by5 _ r) (zs1 t fun a ha=>h a (by8 _ ha))
theorem ElR.drop {K : ay2} {F : Hp} {A : List Addr} {m : Nat} : ∀ {e : El} {v : V},e.below m->ElR K F A e v->ElR K F (A.take m) e v
 | .d _,_,_,z=>z
 | .s _,_,_,z=>z
 | .x _,_,_,z=>z
 | .p _,_,_,z=>z
 | .f _,_,_,z=>z
 | .t xs,_,h,⟨a,vs,e,r,p⟩=>⟨a,vs,e,r,zs1 p fun x hx v z=>match x,h,hx,z with
  | .inl _,_,_,z=>z
  | .inr k,h,hx,⟨b,q,w⟩=>⟨b,by rw [dy9 (h k hx)]; exact q,w⟩⟩
 | .o k,_,h,⟨a,e,r⟩=>⟨a,by rw [dy9 h]; exact e,r⟩
theorem OdR.drop {K : ay2} {F : Hp} {A : List Addr} {m : Nat} {a : Addr} : ∀ {o : OD} {h : HO},o.below m->OdR K F A a o h->OdR K F (A.take m) a o h
 | .lst es,_,hb,⟨vs,e,p⟩=>⟨vs,e,zs1 p fun a ha b z=>z.drop (hb a ha)⟩
 | .dK es,_,hb,⟨vs,e,p⟩=>⟨vs,e,zs1 p fun a ha b z=>⟨z.1,z.2.drop (hb a ha)⟩⟩
 | .dT es,_,hb,⟨vs,e,p⟩=>⟨vs,e,zs1 p fun a ha b z=>⟨z.1,z.2.drop (hb a ha)⟩⟩
 | .fT _ es,_,hb,⟨vs,e,p⟩=>⟨vs,e,zs1 p fun a ha b z=>⟨z.1,z.2.drop (hb a ha)⟩⟩
 | .fK _ es,_,hb,⟨vs,e,p⟩=>⟨vs,e,zs1 p fun a ha b z=>⟨z.1,z.2.drop (hb a ha)⟩⟩
 | .x _,_,_,z=>z
theorem RW.drop {K : ay2} {F : Hp} {A : List Addr} {W : Wl} {H : Hp} (r : RW K F A W H) {m : Nat} (h : ∀ o∈W.take m,o.below m) : RW K F (A.take m) (W.take m) H:=by
 refine ⟨r.sub,by simp [r.len],r.nd.sublist (List.take_sublist _ _),fun a ha=>r.out a (ly6 ha),fun k a o hk ho=>?_⟩
 have hm : k < m:=by
  have:=(ay0.mp hk).1
  simp at this
  omega
 have ho':=ho
 rw [dy9 hm] at hk ho
 obtain ⟨u,e,q⟩:=r.obj k a o hk ho
 exact ⟨u,e,q.drop (h o (by3 ho'))⟩
/-- the list at m,of data,is frozen; what came behind it is dropped -/
theorem RW.freeze {K : ay2} {F : Hp} {A : List Addr} {W : Wl} {H : Hp} (r : RW K F A W H) {m : Nat} {ds : List PyData} (hm : W[m]? = some (.lst (zb4 ds))) (h : ∀ o∈W.take m,o.below m) :
  ∃ F' a,A[m]? = some a /\ zo0 F F' /\ RW K F' (A.take m) (W.take m) H /\ Rq K F' (.ref a) (.list ds):=by
 have hl : m < A.length:=by rw [r.len]; exact (ay0.mp hm).1
 have ha : A[m]? = some A[m]:=by simp [hl]
 obtain ⟨u,e,vs,rfl,p⟩:=r.obj m A[m] _ ha hm
 have hF : F A[m] = none:=r.out _ (ry6 hl)
 have sF : zo0 F (upd F A[m] (.lst vs)):=zp3 hF
 have hnot : A[m] ∉ A.take m:=fun z=>by
  obtain ⟨k,hk⟩:=gy0.mp z
  have hkm : k < m:=by
   have:=(ay0.mp hk).1
   simp at this
   omega
  rw [dy9 hkm] at hk
  obtain ⟨l1,e1⟩:=ay0.mp hk
  have:=(py0 r.nd).mp e1
  omega
 have r':=r.drop h
 have x : Ext F (A.take m) (upd F A[m] (.lst vs)) (A.take m):=⟨sF,ry4 _⟩
 refine ⟨upd F A[m] (.lst vs),A[m],ha,sF,⟨fun b o q=>?_,r'.len,r'.nd,fun a hz=>?_,fun k a o hk ho=>?_⟩,.lst (.inl zc4) (Rqs.of (zf4 (fun _ _ t=>Rq.same sF _ t) (zi1 p)))⟩
 ·by_cases hb : b = A[m]
  ·subst hb; rw [zc4] at q; cases q; exact e
  ·rw [zb3 hb] at q; exact r.sub _ _ q
 ·rw [zb3 (fun z=>hnot (by rw [<- z]; exact hz))]; exact r'.out a hz
 ·obtain ⟨u,e,q⟩:=r'.obj k a o hk ho
  exact ⟨u,e,q.ext x⟩
theorem Ex1.drop {n m : Nat} {F : Hp} {A : List Addr} (hn : n <= A.length) (hm : n <= m) : Ex1 n F A F (A.take m):=⟨.refl _,by
 rw [show A.take n = (A.take m).take n by rw [List.take_take,qy1 hm]]
 exact ry5 _ _,by rw [iy2]; omega⟩
theorem zG8 {e : Expr} {pos : Pos} (m : Nat) (hm : n <= m) (h : BE X S W e fun y W1=>y.below m /\ (∀ o∈W1.take m,o.below m) /\ D.rt y (W1.take m)) : BS X n S W (.Return (some e) pos) D :=
 .of (zS1 zi0) fun F A σ H E hn x0 r sr q=>h.use x0.am r sr fun F1 A1 W1 H1 x vx e1 r1 z1 ⟨h1,h2,h3⟩=>by
  have hn1:=(e1.ex1 hn).len
  exact q.rt F1 _ _ H1 x vx ((e1.ex1 hn).trans hn (.drop hn1 hm)) (r1.drop h2) (z1.drop h1) h3
/-- a list of data is told,frozen -/
theorem zO6 {e : Expr} {pos : Pos} (h : BE X S W e fun y W1=>∃ m ds,y = .o m /\ n <= m /\ W1[m]? = some (.lst (zb4 ds)) /\ (∀ o∈W1.take m,o.below m) /\ D.rt (.d (.list ds)) (W1.take m)) : BS X n S W (.Return (some e) pos) D :=
 .of (zS1 zi0) fun F A σ H E hn x0 r sr q=>h.use x0.am r sr fun F1 A1 W1 H1 x vx e1 r1 z1 ⟨m,ds,he,h1,h2,h3,h4⟩=>by
  subst he
  obtain ⟨F',a,ha,sF,r',rq⟩:=r1.freeze h2 h3
  obtain ⟨b,hb,rfl⟩:=z1
  rw [ha] at hb
  cases hb
  have hn1:=(e1.ex1 hn).len
  have y:=(Ex1.drop (F:=F1) hn1 h1)
  exact q.rt F' _ _ H1 _ _ ((e1.ex1 hn).trans hn ⟨sF,y.pre,y.len⟩) r' (.dd rq) h4
end
theorem Ex1.le {m n : Nat} {F F' : Hp} {A A' : List Addr} (hm : m <= n) (x : Ex1 n F A F' A') : Ex1 m F A F' A':=⟨x.same,by
 have : A.take m = (A.take n).take m:=by rw [List.take_take,qy1 hm]
 rw [this]
 exact (ry5 _ _).trans x.pre,cy6 hm x.len⟩
structure Walks (K : ay2) (m : Nat) (F1 : Hp) (A1 : List Addr) (G : Wl->Prop) (J : It) (ds : List PyData) : Prop where
 go : ∀ i F' A' W' H',i < ds.length->Ex1 m F1 A1 F' A'->RW K F' A' W' H'->G W'->J.go i H'
 yld : ∀ i F' A' W' H' x H'',i < ds.length->Ex1 m F1 A1 F' A'->RW K F' A' W' H'->G W'->J.yld i H' x H''->H'' = H' /\ ∃ d,ds[i]? = some d /\ Rq K F' x d
 stop : ∀ F' A' W' H',Ex1 m F1 A1 F' A'->RW K F' A' W' H'->G W'->J.stop ds.length H'
def tUI (X : Bc) (tg iter : Expr) : TI:=fun σ H R=>∃ t,PI X tg iter t /\ t σ H R
theorem pi_U {X : Bc} {tg iter : Expr} : PI X tg iter (tUI X tg iter):=fun pins s σ H R I ⟨t,h,q⟩=>h pins s σ H R I q
def BI (X : Bc) (S : Sl) (W : Wl) (tg iter : Expr) (k : Nat->(Wl->Prop)->List PyData->Wl->Prop) : Prop:=∀ F A σ H (R : It->Hp->Prop),X.Am F A->RW X.K F A W H->SR X.K F A S σ ->
 (∀ m G F1 A1 W1 H1 ds J,Ext F A F1 A1->RW X.K F1 A1 W1 H1->m <= A1.length->Walks X.K m F1 A1 G J ds->k m G ds W1->R J H1)->tUI X tg iter σ H R
abbrev GT : Wl->Prop:=fun _=>True
section
variable {X : Bc} {n : Nat} {S : Sl} {W : Wl} {D : DB} {tg : Expr} {ki : Nat->(Wl->Prop)->List PyData->Wl->Prop}
theorem zz7 {iter : Expr} (h : BE X S W iter fun y W1=>∃ ds,y = .d (.list ds) /\ ki 0 GT ds W1) : BI X S W tg iter ki:=fun F A σ H R x0 r sr q =>
 ⟨_,zS5 zi0,h.use x0 r sr fun F1 A1 W1 H1 y vy e1 r1 z1 ⟨ds,hy,h1⟩=>by
  subst hy
  obtain ⟨a,vs,rfl,hv,z⟩:=Rq.zt8 z1
  have hl : ∀ {F' A' W' H'},Ex1 0 F1 A1 F' A'->RW X.K F' A' W' H'->SqL X.K H' a vs:=fun x r'=>.inl (r'.sub.rd (x.same.rd hv))
  refine ⟨a,rfl,⟨vs,.inl (r1.sub.rd hv)⟩,q 0 GT F1 A1 W1 H1 ds _ e1 r1 (dy8 _) ⟨fun i F' A' W' H' hi x r' _=>?_,fun i F' A' W' H' y H'' hi x r' _ hy=>?_,fun F' A' W' H' x r' _=>?_⟩ h1⟩
  ·have hi' : i < vs.length:=by rw [<- zb6 z]; exact hi
   exact ⟨vs,vs[i],hl x r',by simp [hi']⟩
  ·obtain ⟨e,hy⟩:=hy
   obtain ⟨d,h1,h2⟩:=zi6 z (hy vs (hl x r'))
   exact ⟨e,d,h1,Rq.same x.same _ h2⟩
  ·exact ⟨vs,hl x r',by rw [<- zb6 z]; exact ay5 _⟩⟩
theorem zJ7 {iter : Expr} (h : BE X S W iter fun y W1=>∃ j ds,y = .o j /\ W1[j]? = some (.lst (zb4 ds)) /\ ki (j + 1) (fun W'=>W'[j]? = some (.lst (zb4 ds))) ds W1) : BI X S W tg iter ki:=fun F A σ H R x0 r sr q =>
 ⟨_,zS5 zi0,h.use x0 r sr fun F1 A1 W1 H1 y vy e1 r1 z1 ⟨j,ds,hy,hj,h1⟩=>by
  subst hy
  obtain ⟨a,ha,rfl⟩:=z1
  have hja : j < A1.length:=(ay0.mp ha).1
  have ha' : ∀ {F' A'},Ex1 (j + 1) F1 A1 F' A'->A'[j]? = some a:=fun {F' A'} x=>by
   have e:=zl3 x.pre (by omega)
   have:=congrArg (fun l=>l[j]?) e
   simp only [dy9 (my7 j)] at this
   rw [this]; exact ha
  have key : ∀ {F' A' W' H'},Ex1 (j + 1) F1 A1 F' A'->RW X.K F' A' W' H'->W'[j]? = some (.lst (zb4 ds))->∃ vs,H' a = some (.lst vs) /\ Paired (fun d v=>Rq X.K F' v d) ds vs:=fun x r' hG=>by
   obtain ⟨u,e,vs,rfl,p⟩:=r'.obj j a _ (ha' x) hG
   exact ⟨vs,e,zi1 p⟩
  obtain ⟨v0,e0,p0⟩:=key (.refl (by omega)) r1 hj
  refine ⟨a,rfl,⟨v0,SqL.of e0⟩,q (j + 1) _ F1 A1 W1 H1 ds _ e1 r1 hja ⟨fun i F' A' W' H' hi x r' hG=>?_,fun i F' A' W' H' y H'' hi x r' hG hy=>?_,fun F' A' W' H' x r' hG=>?_⟩ h1⟩
  ·obtain ⟨vs,e,p⟩:=key x r' hG
   have hi' : i < vs.length:=by rw [<- zb6 p]; exact hi
   exact ⟨vs,vs[i],SqL.of e,by simp [hi']⟩
  ·obtain ⟨vs,e,p⟩:=key x r' hG
   obtain ⟨e',hy⟩:=hy
   obtain ⟨d,h1,h2⟩:=zi6 p (hy vs (SqL.of e))
   exact ⟨e',d,h1,h2⟩
  ·obtain ⟨vs,e,p⟩:=key x r' hG
   exact ⟨vs,SqL.of e,by rw [<- zb6 p]; exact ay5 _⟩⟩
theorem zs2 {iter : Expr} (h : BE X S W iter fun y W1=>∃ ds,y = .d (.tuple ds) /\ ki 0 GT ds W1) : BI X S W tg iter ki:=fun F A σ H R x0 r sr q =>
 ⟨_,zc85 zi0,h.use x0 r sr fun F1 A1 W1 H1 y vy e1 r1 z1 ⟨ds,hy,h1⟩=>by
  subst hy
  obtain ⟨a,vs,rfl,hv,z⟩:=Rq.zi7 z1
  have hl : ∀ {F' A' W' H'},Ex1 0 F1 A1 F' A'->RW X.K F' A' W' H'->SqT X.K H' a vs:=fun x r'=>r'.sub.zw8 (x.same.zw8 hv)
  refine ⟨a,rfl,⟨vs,r1.sub.zw8 hv⟩,q 0 GT F1 A1 W1 H1 ds _ e1 r1 (dy8 _) ⟨fun i F' A' W' H' hi x r' _=>?_,fun i F' A' W' H' y H'' hi x r' _ hy=>?_,fun F' A' W' H' x r' _=>?_⟩ h1⟩
  ·have hi' : i < vs.length:=by rw [<- zb6 z]; exact hi
   exact ⟨vs,vs[i],hl x r',by simp [hi']⟩
  ·obtain ⟨e,hy⟩:=hy
   obtain ⟨d,h1,h2⟩:=zi6 z (hy vs (hl x r'))
   exact ⟨e,d,h1,Rq.same x.same _ h2⟩
  ·exact ⟨vs,hl x r',by rw [<- zb6 z]; exact ay5 _⟩⟩
def ze9 (lo : Int) (n : Nat) : List PyData:=(ey5 n).map fun (i : Nat)=>.int (lo + (i : Int))
theorem zO7 {lo : Int} {n i : Nat} (h : i < n) : (ze9 lo n)[i]? = some (.int (lo + i)):=by unfold ze9; simp [h]
theorem zG9 {K : ay2} {F1 : Hp} {A1 : List Addr} {lo : Int} {n : Nat} : Walks K 0 F1 A1 GT (Itr lo n) (ze9 lo n):=by
 have hl : (ze9 lo n).length = n:=by unfold ze9; simp
 refine ⟨fun i F' A' W' H' hi _ _ _=>by rw [hl] at hi; exact hi,fun i F' A' W' H' y H'' hi x r' _ hy=>?_,fun F' A' W' H' x r' _=>by rw [hl]; exact ay5 _⟩
 rw [hl] at hi
 obtain ⟨e,rfl⟩:=hy
 exact ⟨e,_,zO7 hi,.int _⟩
theorem zg4 {a : Expr} {p pos : Pos} (hg : Gl X "range") (hm : X.mg "range" = none) (h : BE X S W a fun y W1=>∃ j : Int,y = .d (.int j) /\ -(2 ^ 62) <= j /\ j < 2 ^ 62 /\ ki 0 GT (ze9 0 j.toNat) W1) (hs : ey1 [a] X.env = [(false,eval a X.env)]:=by rfl) : BI X S W tg (.Call (.Name "range" p) [a] [] pos) ki:=fun F A σ H R x0 r sr q =>
 ⟨_,zS6 hg hm (zm5 zi0 zt2 hs) hs,h.use x0 r sr fun F1 A1 W1 H1 y vy e1 r1 z1 ⟨j,hy,h2,h3,h4⟩=>by
  subst hy
  obtain rfl:=Rq.zd4 z1
  exact ⟨j,rfl,h2,h3,q 0 GT F1 A1 W1 H1 _ _ e1 r1 (dy8 _) zG9 h4⟩⟩
def zu4 (x : Str) : List PyData:=x.cps.toList.map fun c=>.str ⟨#[c]⟩
theorem zd24 {iter : Expr} (h : BE X S W iter fun y W1=>∃ x,y = .d (.str x) /\ ki 0 GT (zu4 x) W1) : BI X S W tg iter ki:=fun F A σ H R x0 r sr q =>
 ⟨_,zd07 zi0,h.use x0 r sr fun F1 A1 W1 H1 y vy e1 r1 z1 ⟨x,hy,h1⟩=>by
  subst hy
  obtain rfl:=Rq.zg1 z1
  have hl : (zu4 x).length = x.cps.size:=by unfold zu4; simp
  refine ⟨x,rfl,q 0 GT F1 A1 W1 H1 _ _ e1 r1 (dy8 _) ⟨fun i F' A' W' H' hi _ _ _=>by rw [hl] at hi; exact hi,fun i F' A' W' H' y H'' hi _ r' _ hy=>?_,fun F' A' W' H' _ r' _=>by rw [hl]; exact ay5 _⟩ h1⟩
  obtain ⟨e,c,hc,rfl⟩:=hy
  refine ⟨e,_,?_,.str _⟩
  unfold zu4
  rw [ay4,ny0,hc]
  rfl⟩
theorem zx3 {iter : Expr} {body : List Stmt} {pos : Pos} (hp : PassesOwn (model X.prog X.w) X.A X.env X.xe) (hc : X.calm = true)
  (h : BI X S W tg iter fun m G ds W1=>∃ (mb : Nat) (P : Nat->Sl->Wl->Prop),n <= mb /\ m <= mb /\ mb <= W1.length /\ P 0 S W1 /\ (∀ i S' W',i <= ds.length->P i S' W'->G W') /\
   (∀ i d S' W',ds[i]? = some d->P i S' W'->BG X S' W' tg (.d d) fun S2 W2=>BSs X mb S2 W2 body { D with nx:=P (i + 1),ct:=P (i + 1),bk:=D.nx }) /\ ∀ S' W',P ds.length S' W'->D.nx S' W')
  (hs : ∀ x,hy8 iter X.env x = pure x:=by intro _; rfl) : BS X n S W (.For tg iter body [] pos) D :=
 .of (zJ1 hp hc pi_U pg_U zE1 hs) fun F A σ H E hn x0 r sr q=>h F A σ H _ x0.am r sr fun m G F1 A1 W1 H1 ds J e1 r1 hm1 wk ⟨mb,P,hnm,hmm,hmb,p0,hG,hs,hd⟩=>by
  have hmA : mb <= A1.length:=by rw [r1.len]; exact hmb
  refine ⟨fun i μ σ' H'=>μ = ds.length - i /\ i <= ds.length /\ ∃ F' A' S' W',Ex1 mb F1 A1 F' A' /\ RW X.K F' A' W' H' /\ SR X.K F' A' S' σ' /\ P i S' W',⟨ds.length,by simp,dy8 _,F1,A1,S,W1,.refl hmA,r1,sr.ext e1,p0⟩,?_⟩
  rintro i μ σ' H' ⟨rfl,hi,F',A',S',W',x,r',sr',p⟩
  have g:=hG i S' W' hi p
  by_cases hlt : i < ds.length
  ·refine .inr ⟨wk.go i F' A' W' H' hlt (x.le hmm) r' g,fun σ2 H2=>∃ F2 A2 S2 W2,Ex1 mb F1 A1 F2 A2 /\ RW X.K F2 A2 W2 H2 /\ SR X.K F2 A2 S2 σ2 /\ P (i + 1) S2 W2,fun σ2 H2 p2=>⟨ds.length - (i + 1),by omega,rfl,hlt,p2⟩,fun v H'' hy=>?_⟩
   obtain ⟨rfl,d,hd',zd⟩:=wk.yld i F' A' W' H' v H'' hlt (x.le hmm) r' g hy
   refine hs i d S' W' hd' p F' A' σ' H'' v _ ((x0.ext e1).up hnm |>.ex1 hmA x).am r' sr' zd fun F2 A2 W2 H2 S2 σ2 x2 r2 sr2 h2=>?_
   have x12 : Ex1 mb F1 A1 F2 A2:=x.trans hmA (x2.ex1 x.len)
   have q2:=q.ext hn ((e1.ex1 hn).trans hn (x12.le hnm))
   have hn2 : n <= A2.length:=cy6 hnm x12.len
   exact h2.use x12.len (((x0.ext e1).up hnm).ex1 hmA x12) r2 sr2 ⟨fun F3 A3 W3 H3 S3 σ3 x3 r3 sr3 h3=>⟨F3,A3,S3,W3,x12.trans hmA x3,r3,sr3,h3⟩,fun F3 A3 W3 H3 S3 σ3 x3=>q2.nx F3 A3 W3 H3 S3 σ3 (x3.le hnm),fun F3 A3 W3 H3 S3 σ3 x3 r3 sr3 h3=>⟨F3,A3,S3,W3,x12.trans hmA x3,r3,sr3,h3⟩,fun F3 A3 W3 H3 e v x3=>q2.rt F3 A3 W3 H3 e v (x3.le hnm)⟩
  ·have hie : i = ds.length:=by omega
   subst hie
   exact .inl ⟨wk.stop F' A' W' H' (x.le hmm) r' g,(q.ext hn (e1.ex1 hn)).nx F' A' W' H' S' σ' (x.le hnm) r' sr' (hd S' W' p)⟩
/-- while: a word,a measure -/
theorem zJ8 {c : Expr} {body : List Stmt} {pos : Pos} (P : Sl->Wl->Prop) (μ : Sl->Wl->Nat) (hp : PassesOwn (model X.prog X.w) X.A X.env X.xe) (h0 : P S W)
  (hs : ∀ S' W',P S' W'->BT X S' W' c fun b W1=>if b = true then BSs X n S' W1 body { D with nx:=fun S2 W2=>P S2 W2 /\ μ S2 W2 < μ S' W',ct:=fun S2 W2=>P S2 W2 /\ μ S2 W2 < μ S' W',bk:=D.nx } else D.nx S' W1) :
  BS X n S W (.While c body [] pos) D :=
 .of (za46 hp pt_U zE1) fun F A σ H E hn x0 r sr q=>by
  refine ⟨fun m σ' H'=>∃ F' A' S' W',Ex1 n F A F' A' /\ RW X.K F' A' W' H' /\ SR X.K F' A' S' σ' /\ P S' W' /\ m = μ S' W',⟨_,F,A,S,W,.refl hn,r,sr,h0,rfl⟩,?_⟩
  rintro m σ' H' ⟨F',A',S',W',x,r',sr',p,rfl⟩
  refine (hs S' W' p).use (x0.ex1 hn x).am r' sr' fun F1 A1 W1 H1 b e1 r1 h1=>?_
  have x1 : Ex1 n F A F1 A1:=x.trans hn (e1.ex1 x.len)
  cases b with
  | true =>
   rw [if_pos rfl] at h1 ⊢
   refine ⟨fun σ2 H2=>∃ F2 A2 S2 W2,Ex1 n F A F2 A2 /\ RW X.K F2 A2 W2 H2 /\ SR X.K F2 A2 S2 σ2 /\ P S2 W2 /\ μ S2 W2 < μ S' W',fun σ2 H2 ⟨F2,A2,S2,W2,y,r2,sr2,p2,l⟩=>⟨_,l,F2,A2,S2,W2,y,r2,sr2,p2,rfl⟩,?_⟩
   have q1:=q.ext hn x1
   exact h1.use x1.len (x0.ex1 hn x1) r1 (sr'.ext e1) ⟨fun F3 A3 W3 H3 S3 σ3 x3 r3 sr3 h3=>⟨F3,A3,S3,W3,x1.trans hn x3,r3,sr3,h3.1,h3.2⟩,q1.nx,fun F3 A3 W3 H3 S3 σ3 x3 r3 sr3 h3=>⟨F3,A3,S3,W3,x1.trans hn x3,r3,sr3,h3.1,h3.2⟩,q1.rt⟩
  | false =>
   rw [if_neg (by decide)] at h1 ⊢
   exact (q.ext hn x1).nx F1 A1 W1 H1 S' σ' (.refl x1.len) r1 (sr'.ext e1) h1
end
section
variable {X : Bc} {n : Nat} {S : Sl} {W : Wl} {D : DB} {k : KB} {tg iter elt : Expr} {ifs : List Expr} {O Fv : List Str} {cap : List Nat} {scope : Scope} {pos : Pos}
abbrev cxB (X : Bc) (N : List Str) (scope : Scope) (cl : List (Str × Addr)) (C : Addr) (ex : List Addr) (s : Shared) (H : Hp) : Bc:={ X with toCx:=zf6 X.toCx N scope cl C ex s H }
def tUGc (X : Bc) (N : List Str) (scope : Scope) (m : Nat) (tg : Expr) : TG:=fun v σ H Q=>∃ t,(∀ cl C ex s H,PG (zf6 X N scope cl C ex s H) tg t) /\ Own m t /\ t v σ H Q
def tUTc (X : Bc) (N : List Str) (scope : Scope) (ifs : List Expr) : TT:=fun σ H Q=>∃ t,(∀ cl C ex s H,PTs (zf6 X N scope cl C ex s H) ifs t) /\ t σ H Q
def tUEc (X : Bc) (N : List Str) (scope : Scope) (e : Expr) : TE:=fun σ H Q=>∃ t,(∀ cl C ex s H,PE (zf6 X N scope cl C ex s H) e t) /\ t σ H Q
theorem zb93 {N : List Str} {m : Nat} : Own m (tUGc X N scope m tg):=fun x σ H Q ⟨t,h,o,q⟩=>⟨t,h,o,o x σ H Q q⟩
def BEc (X : Bc) (N : List Str) (scope : Scope) (S : Sl) (W : Wl) (e : Expr) (k : KB) : Prop:=∀ cl C ex s H,BE (cxB X N scope cl C ex s H) S W e k
def BTc (X : Bc) (N : List Str) (scope : Scope) (S : Sl) (W : Wl) (ifs : List Expr) (k : TB) : Prop:=∀ F A σ H (Q : Bool->Hp->Prop),X.Am F A->RW X.K F A W H->SR X.K F A S σ->(∀ F' A' W' H' b,Ext F A F' A'->RW X.K F' A' W' H'->k b W'->Q b H')->tUTc X N scope ifs σ H Q
def BGc (X : Bc) (N : List Str) (scope : Scope) (m : Nat) (S : Sl) (W : Wl) (tg : Expr) (e : El) (k : Sl->Wl->Prop) : Prop:=∀ F A σ H v (Q : St->Hp->Prop),RW X.K F A W H->SR X.K F A S σ->ElR X.K F A e v ->
 (∀ S' σ',SR X.K F A S' σ'->k S' W->Q σ' H)->tUGc X N scope m tg v σ H Q
theorem zW1 {N : List Str} {k : TB} (h : k true W) : BTc X N scope S W [] k:=fun F A σ H Q x0 r sr q=>⟨_,fun _ _ _ _ _=>zb78,q F A W H true .refl r h⟩
theorem zb94 {N : List Str} {c : Expr} {k : TB} (h : ∀ cl C ex s H,BT (cxB X N scope cl C ex s H) S W c k) : BTc X N scope S W [c] k:=fun F A σ H Q x0 r sr q=>⟨tDT X S W k,fun cl C ex s H=>zb79 (show PT _ c (tDT X S W k) from h cl C ex s H),F,A,x0,r,sr,q⟩
theorem zd1 {N : List Str} {m i : Nat} {x : Str} {p : Pos} {e : El} {k : Sl->Wl->Prop} (hN : N.Nodup) (hi : N[i]? = some x) (hm : i < m) (hx : ∀ cl C ex s H,Loc (zf6 X N scope cl C ex s H).env.scope x)
  (hf : ∀ cl C ex s H,(zf6 X N scope cl C ex s H).env.scope.names.lookup x = some .local) (h : k (S.set i (some e)) W) : BGc X N scope m S W (.Name x p) e k:=fun F A σ H v Q r sr z q =>
 ⟨zN2 i,fun cl C ex s H=>zG0 hN hi (hx cl C ex s H) (.inr (hf cl C ex s H)),za57 hm,q _ _ (sr.set z i) h⟩
/-- the slots at a turn's start -/
def cmpS (O : List Str) (cap : List Nat) (S : Sl) : Sl:=O.map (fun _=>none)++cap.map (fun j=>(S[j]?).getD none)
theorem SR.cmp {K : ay2} {F : Hp} {A : List Addr} {σ : St} (r : SR K F A S σ) : SR K F A (cmpS O cap S) (ze1 O cap σ):=by
 refine ⟨by simp [cmpS,ze1],fun i e h=>?_⟩
 unfold cmpS at h
 unfold ze1
 by_cases hi : i < O.length
 ·rw [ay8 (by simpa using hi)] at h
  simp [hi] at h
 ·rw [dy1 (by simpa using hi)] at h
  rw [dy1 (by simpa using hi)]
  simp only [ay3,ay4] at h ⊢
  cases hj : cap[i - O.length]? with
  | none=>rw [hj] at h; cases h
  | some j =>
   rw [hj] at h
   simp only [sy3,Option.some.injEq] at h
   cases hs : S[j]? with
   | none=>rw [hs] at h; cases h
   | some o =>
    rw [hs] at h
    simp only [Option.getD_some] at h
    subst h
    obtain ⟨v,h1,h2⟩:=r.get j e hs
    exact ⟨v,by simp [h1],h2⟩
abbrev KC (X : Bc) (O Fv : List Str) (cap : List Nat) (scope : Scope) (S : Sl) (tg elt : Expr) (ifs : List Expr) (k : List PyData->Wl->Prop) : Nat->(Wl->Prop)->List PyData->Wl->Prop:=fun m G ds W1=>∃ P : Nat->List PyData->Wl->Prop,
 P 0 [] W1 /\ (∀ i ys W',i <= ds.length->P i ys W'->G W' /\ ys.length <= by0) /\
  (∀ i d ys W',ds[i]? = some d->P i ys W'->BGc X (O++Fv) scope O.length (cmpS O cap S) W' tg (.d d) fun S2 W2=>BTc X (O++Fv) scope S2 W2 ifs fun b W3 =>
   if b = true then BEc X (O++Fv) scope S2 W3 elt fun y W4=>∃ dy,y = .d dy /\ P (i + 1) (ys++[dy]) W4 else P (i + 1) ys W3) /\
  ∀ ys W',P ds.length ys W'->k ys W'
theorem zE2 {F : Hp} {A : List Addr} {σ : St} {H : Hp} {Q : VK} {k : List PyData->Wl->Prop} (h : BI X S W tg iter (KC X O Fv cap scope S tg elt ifs k)) (x0 : X.Am F A) (r : RW X.K F A W H) (sr : SR X.K F A S σ)
  (q : ∀ F' A' W' H' ys vs p,Ext F A F' A'->RW X.K F' A' W' H'->Paired (fun d v=>Rq X.K F' v d) ys vs->H' p = none->k ys W'->Q (.ref p) (upd H' p (.lst vs))) :
  zU5 (tUI X tg iter) O cap (tUGc X (O++Fv) scope O.length tg) (tUTc X (O++Fv) scope ifs) (tUEc X (O++Fv) scope elt) σ H Q :=
 h F A σ H _ x0 r sr fun m G F1 A1 W1 H1 ds J e1 r1 hm1 wk ⟨P,p0,hG,hs,hd⟩=>by
  refine ⟨fun i μ ys H'=>μ = ds.length - i /\ i <= ds.length /\ ∃ F' A' W' yd,Ext F1 A1 F' A' /\ RW X.K F' A' W' H' /\ Paired (fun d v=>Rq X.K F' v d) yd ys /\ P i yd W',⟨ds.length,by simp,dy8 _,F1,A1,W1,[],.refl,r1,.nil,p0⟩,?_⟩
  rintro i μ ys H' ⟨rfl,hi,F',A',W',yd,x,r',z',p⟩
  obtain ⟨g,hz⟩:=hG i yd W' hi p
  refine ⟨by rw [<- zb6 z']; exact hz,?_⟩
  by_cases hlt : i < ds.length
  ·refine .inr ⟨wk.go i F' A' W' H' hlt (x.ex1 hm1) r' g,fun ys2 H2=>∃ F2 A2 W2 yd2,Ext F1 A1 F2 A2 /\ RW X.K F2 A2 W2 H2 /\ Paired (fun d v=>Rq X.K F2 v d) yd2 ys2 /\ P (i + 1) yd2 W2,fun ys2 H2 p2=>⟨ds.length - (i + 1),by omega,rfl,hlt,p2⟩,fun v H'' hy=>?_⟩
   obtain ⟨rfl,d,hd',zd⟩:=wk.yld i F' A' W' H' v H'' hlt (x.ex1 hm1) r' g hy
   have srx:=sr.ext (e1.trans x)
   refine hs i d yd W' hd' p F' A' (ze1 O cap σ) H'' v _ r' srx.cmp zd fun S2 σ2 sr2 h2=>?_
   refine h2 F' A' σ2 H'' _ (x0.trans (e1.trans x)) r' sr2 fun F3 A3 W3 H3 b e3 r3 h3=>?_
   cases b with
   | true =>
    rw [if_pos rfl] at h3 ⊢
    refine ⟨tD X S2 W3 _,fun cl C ex s H=>h3 cl C ex s H,F3,A3,(x0.trans (e1.trans x)).trans e3,r3,sr2.ext e3,fun F4 A4 W4 H4 y vy e4 r4 z4 ⟨dy,hy,h4⟩=>?_⟩
    subst hy
    exact ⟨F4,A4,W4,yd++[dy],(x.trans e3).trans e4,r4,zo1 (zf4 (fun _ _ t=>Rq.same (e3.trans e4).same _ t) z') (.cons z4 .nil),h4⟩
   | false =>
    rw [if_neg (by decide)] at h3 ⊢
    exact ⟨F3,A3,W3,yd,x.trans e3,r3,zf4 (fun _ _ t=>Rq.same e3.same _ t) z',h3⟩
  ·have hie : i = ds.length:=by omega
   subst hie
   exact .inl ⟨wk.stop F' A' W' H' (x.ex1 hm1) r' g,fun l hl=>q F' A' W' H' yd ys l (e1.trans x) r' z' hl (hd yd W' p)⟩
/-- every turn tells f,and changes nothing -/
theorem zn0 {m : Nat} {G : Wl->Prop} {ds : List PyData} {W1 : Wl} {k : List PyData->Wl->Prop} (f : PyData->PyData) (hG : G W1) (hl : ds.length <= by0)
  (h : ∀ d∈ds,BGc X (O++Fv) scope O.length (cmpS O cap S) W1 tg (.d d) fun S2 W2=>BEc X (O++Fv) scope S2 W2 elt fun y W4=>y = .d (f d) /\ W4 = W1) (hk : k (ds.map f) W1) : KC X O Fv cap scope S tg elt [] k m G ds W1:=by
 refine ⟨fun i ys W'=>W' = W1 /\ ys = (ds.take i).map f,⟨rfl,rfl⟩,fun i ys W' hi p=>?_,fun i d ys W' hd p=>?_,fun ys W' p=>?_⟩
 ·rw [p.1,p.2]
  exact ⟨hG,by rw [ay3,iy2]; omega⟩
 ·obtain ⟨rfl,rfl⟩:=p
  refine fun F A σ H v Q r sr z q=>h d (by3 hd) F A σ H v Q r sr z fun S' σ' sr' hh=>q S' σ' sr' (zW1 ?_)
  rw [if_pos rfl]
  refine fun cl C ex s H=>(hh cl C ex s H).mono fun y W4 hy=>⟨f d,hy.1,hy.2,?_⟩
  rw [gy1,hd]
  simp
 ·rw [p.1,p.2,hy6]
  exact hk
/-- every turn tells p,then f,and changes nothing -/
theorem zh2 {m : Nat} {G : Wl->Prop} {ds : List PyData} {W1 : Wl} {k : List PyData->Wl->Prop} {c : Expr} (p : PyData->Bool) (f : PyData->PyData) (hG : G W1) (hl : ds.length <= by0)
  (h : ∀ d∈ds,BGc X (O++Fv) scope O.length (cmpS O cap S) W1 tg (.d d) fun S2 W2=>(∀ cl C ex s H,BT (cxB X (O++Fv) scope cl C ex s H) S2 W2 c fun b W3=>b = p d /\ W3 = W1) /\ (p d = true->BEc X (O++Fv) scope S2 W2 elt fun y W4=>y = .d (f d) /\ W4 = W1)) (hk : k ((ds.filter p).map f) W1) : KC X O Fv cap scope S tg elt [c] k m G ds W1:=by
 refine ⟨fun i ys W'=>W' = W1 /\ ys = ((ds.take i).filter p).map f,⟨rfl,rfl⟩,fun i ys W' hi q=>?_,fun i d ys W' hd q=>?_,fun ys W' q=>?_⟩
 ·rw [q.1,q.2]
  refine ⟨hG,?_⟩
  rw [ay3]
  have:=qy2 p (ds.take i)
  rw [iy2] at this
  omega
 ·obtain ⟨rfl,rfl⟩:=q
  refine fun F A σ H v Q r sr z q=>h d (by3 hd) F A σ H v Q r sr z fun S' σ' sr' hh=>q S' σ' sr' (zb94 fun cl C ex s H=>?_)
  refine BT.mono (hh.1 cl C ex s H) fun b W3 hb=>?_
  obtain ⟨rfl,rfl⟩:=hb
  by_cases e : p d = true
  ·rw [if_pos e]
   refine fun cl C ex s H=>(hh.2 e cl C ex s H).mono fun y W4 hy=>⟨f d,hy.1,hy.2,?_⟩
   rw [gy1,hd,gy5,fy1]
   simp [e]
  ·rw [if_neg e]
   refine ⟨rfl,?_⟩
   rw [gy1,hd,gy5,fy1]
   simp [e]
 ·rw [q.1,q.2,hy6]
  exact hk
/-- [elt for tg in iter if ..],of data -/
theorem zf0 (hc : X.calm = true) (cs : zc3 X.N X.env.scope O Fv cap scope) (h : BI X S W tg iter (KC X O Fv cap scope S tg elt ifs fun ys W'=>k (.d (.list ys)) W'))
  (hs : ∀ x,hy8 iter X.env x = pure x:=by intro _; rfl) : BE X S W (.ListComp elt [⟨tg,iter,ifs,0⟩] scope pos) k :=
 .of (zb80 (g:=tUGc X (O++Fv) scope O.length tg) (tt:=tUTc X (O++Fv) scope ifs) (te:=tUEc X (O++Fv) scope elt) hc cs pi_U (fun cl C ex s H=>fun pins s' σ' H' v u Q I r ⟨t,h,_,q⟩=>h cl C ex s H pins s' σ' H' v u Q I r q) (fun cl C ex s H=>fun pins s' σ' H' Q I ⟨t,h,q⟩=>h cl C ex s H pins s' σ' H' Q I q)
  (fun cl C ex s H=>fun pins s' σ' H' Q I ⟨t,h,q⟩=>h cl C ex s H pins s' σ' H' Q I q) zb93 hs) fun F A σ H Q x0 r sr q=>zE2 h x0 r sr fun F' A' W' H' ys vs p x r' z hp hk=>(q.ext x).newL r' hp z hk
/-- x = [elt for ..] -/
theorem zb96 {i : Nat} {x : Str} {pos' spos : Pos} (hN : X.N.Nodup) (hix : X.N[i]? = some x) (hx : Loc X.env.scope x) (hc : X.calm = true) (cs : zc3 X.N X.env.scope O Fv cap scope) (h : BI X S W tg iter (KC X O Fv cap scope S tg elt ifs fun ys W'=>D.nx (S.set i (some (.d (.list ys)))) W'))
  (hsw : swapsWith (.ListComp elt [⟨tg,iter,ifs,0⟩] scope pos) (some (.Name x pos')) spos.line X.env = pure true:=by rfl) (hs : ∀ x,hy8 iter X.env x = pure x:=by intro _; rfl)
  (hf : X.fn x = true \/ X.env.scope.names.lookup x = some .local:=by first | exact .inl rfl | exact .inr rfl | assumption) : BS X n S W (.Assign [.Name x pos'] (.ListComp elt [⟨tg,iter,ifs,0⟩] scope pos) spos) D :=
 .of (zU7 (g:=tUGc X (O++Fv) scope O.length tg) (tt:=tUTc X (O++Fv) scope ifs) (te:=tUEc X (O++Fv) scope elt) hN hix hx hc cs pi_U (fun cl C ex s H=>fun pins s' σ' H' v u Q I r ⟨t,h,_,q⟩=>h cl C ex s H pins s' σ' H' v u Q I r q) (fun cl C ex s H=>fun pins s' σ' H' Q I ⟨t,h,q⟩=>h cl C ex s H pins s' σ' H' Q I q)
  (fun cl C ex s H=>fun pins s' σ' H' Q I ⟨t,h,q⟩=>h cl C ex s H pins s' σ' H' Q I q) zb93 hsw hs hf) fun F A σ H E hn x0 r sr q=>zE2 h x0.am r sr fun F' A' W' H' ys vs p x r' z hp hk=>by
   obtain ⟨r2,y⟩:=r'.newF hp (.lst vs)
   exact q.nx _ _ _ _ _ _ ((x.trans y).ex1 hn) r2 ((sr.ext (x.trans y)).set (.dd (Rq.lst (.inl zc4) (Rqs.of (zf4 (fun _ _ t=>Rq.same y.same _ t) z)))) i) hk
end
def zE3 (N : List Str) (es : List El) : Sl:=es.map some++ky6 (N.length - es.length) none
theorem SR.start {K : ay2} {F : Hp} {A : List Addr} {N : List Str} {es : List El} {vs : List V} (p : Paired (ElR K F A) es vs) : SR K F A (zE3 N es) (start N vs):=by
 have hl:=zb6 p
 refine ⟨by simp [zE3,L2.start,hl],fun i e h=>?_⟩
 unfold zE3 at h
 unfold L2.start
 by_cases hi : i < es.length
 ·rw [ay8 (by simpa using hi),ay4] at h
  rw [ay8 (by rw [ay3,<- hl]; exact hi),ay4]
  cases q : es[i]? with
  | none=>rw [q] at h; cases h
  | some e' =>
   rw [q] at h
   cases h
   obtain ⟨v,h1,h2⟩:=zi5 p q
   exact ⟨v,by rw [h1]; rfl,h2⟩
 ·rw [dy1 (by simpa using hi),List.getElem?_replicate] at h
  split at h <;> cases h
/-- what stands in the objects are objects,too -/
def closed (W : Wl) : Prop:=∀ o∈W,o.below W.length
theorem RW.closed {K : ay2} {F : Hp} {A : List Addr} {W : Wl} {H : Hp} (r : RW K F A W H) : closed W:=fun o ho=>by
 have el : ∀ {e : El} {v : V},ElR K F A e v->e.below W.length:=fun {e v} z=>by
  cases e with
  | d x=>trivial
  | s ns=>trivial
  | x C=>trivial
  | p ks=>trivial
  | f a=>trivial
  | t xs =>
   obtain ⟨a,vs,_,_,p⟩:=z
   intro k hk
   obtain ⟨i,hi⟩:=gy0.mp hk
   obtain ⟨v,_,b,hb,_⟩:=zi5 p hi
   rw [<- r.len]
   exact (ay0.mp hb).1
  | o k =>
   obtain ⟨a,ha,_⟩:=z
   show k < W.length
   rw [<- r.len]
   exact (ay0.mp ha).1
 obtain ⟨k,hk⟩:=gy0.mp ho
 have hl : k < A.length:=by rw [r.len]; exact (ay0.mp hk).1
 obtain ⟨u,_,q⟩:=r.obj k A[k] o (by simp [hl]) hk
 cases o with
 | lst es =>
  obtain ⟨vs,_,p⟩:=q
  intro e he
  obtain ⟨i,hi⟩:=gy0.mp he
  obtain ⟨v,_,z⟩:=zi5 p hi
  exact el z
 | dK es =>
  obtain ⟨vs,_,p⟩:=q
  intro e he
  obtain ⟨i,hi⟩:=gy0.mp he
  obtain ⟨v,_,z⟩:=zi5 p hi
  exact el z.2
 | dT es =>
  obtain ⟨vs,_,p⟩:=q
  intro e he
  obtain ⟨i,hi⟩:=gy0.mp he
  obtain ⟨v,_,z⟩:=zi5 p hi
  exact el z.2
 | fT _ es =>
  obtain ⟨vs,_,p⟩:=q
  intro e he
  obtain ⟨i,hi⟩:=gy0.mp he
  obtain ⟨v,_,z⟩:=zi5 p hi
  exact el z.2
 | fK _ es =>
  obtain ⟨vs,_,p⟩:=q
  intro e he
  obtain ⟨i,hi⟩:=gy0.mp he
  obtain ⟨v,_,z⟩:=zi5 p hi
  exact el z.2
 | x _=>trivial
theorem closed.take {W V : Wl} (h : closed W) : ∀ o∈(W++V).take W.length,o.below W.length:=by
 rw [List.take_left]
 exact h
theorem closed.set {W : Wl} (h : closed W) (j : Nat) {o : OD} (ho : o.below W.length) : closed (W.set j o):=fun u hu=>by
 rw [ky8]
 rcases List.mem_or_eq_of_mem_set hu with hu | rfl
 ·exact h u hu
 ·exact ho
section
variable {X : Bc} {n : Nat} {S : Sl} {W : Wl} {D : DB}
/-- data are told; what was made is dropped -/
theorem zl4 {e : Expr} {pos : Pos} (h : BE X S W e fun y W2=>∃ d W0 V,y = .d d /\ W2 = W0++V /\ n = W0.length /\ closed W0 /\ D.rt (.d d) W0) : BS X n S W (.Return (some e) pos) D :=
 zG8 n (ay5 _) (h.mono fun y W2 ⟨d,W0,V,e1,e2,e3,hc,hk⟩=>by
  subst e1 e2 e3
  exact ⟨trivial,hc.take,by rw [List.take_left]; exact hk⟩)
/-- a list that was made is told,frozen; what else was made is dropped -/
theorem za71 {e : Expr} {pos : Pos} (h : BE X S W e fun y W2=>∃ ds W0 V,y = .o W0.length /\ W2 = W0++.lst (zb4 ds) :: V /\ n = W0.length /\ closed W0 /\ D.rt (.d (.list ds)) W0) : BS X n S W (.Return (some e) pos) D :=
 zO6 (h.mono fun y W2 ⟨ds,W0,V,e1,e2,e3,hc,hk⟩=>by
  subst e1 e2 e3
  exact ⟨_,ds,rfl,ay5 _,by simp,hc.take,by rw [List.take_left]; exact hk⟩)
end
theorem zp7 {P : dy7} {w : World} {K : ay2} {mg : Str->Option Value} {base : Heap} {x qual : Str} {st : Stmt} {f : Addr} {fd : ey8} {N ps : List Str} {j : Nat} {R : RB} (F : Fun K x qual st f fd) (S : zc0 N ps (za0 st)) (len : ∀ es W k,R es W k->es.length = ps.length)
  (hbody : ∀ (cdv : Value) (A : Around) (outer : List Env) (s : Shared) (H : Hp) (E : XK),zt1 j (A.deeper (envOfC qual (za0 st) s.heap.objs.size f cdv))->∀ (F0 : Hp) (A0 : List Addr) es W k,closed W->R es W k ->
   BSs ⟨(zN8 CX0 P w K mg base N qual (za0 st) f cdv A outer s H E).nox,F0,A0,fun _ _ _=>False⟩ W.length (zE3 N es) W (za5 st) { nx:=fun _ W'=>k (.d .none) W',rt:=k }) : zj8 P w K mg base CX0 (j + 1) f fd ps (spB K R) :=
 F.ok S (fun vs H Q E ⟨Fh,A,W,es,k,r,p,h,q⟩=>by rw [<- zb6 p]; exact len es W k h) fun cdv A outer s H vs Q E hr ⟨Fh,Ad,W,es,k,r,p,h,q⟩=>by
  refine ⟨_,hbody cdv A outer s H E hr Fh Ad es W k r.closed h,Fh,Ad,by rw [r.len]; exact ay5 _,⟨.refl,by rw [r.len]; exact ay5 _⟩,r,.start p,?_⟩
  have ext : ∀ {F' A'},Ex1 W.length Fh Ad F' A'->Ext Fh Ad F' A':=fun y=>⟨y.same,by have:=y.pre; rw [<- r.len,hy6] at this; exact this⟩
  exact ⟨fun F' A' W' H' S' σ' y r' sr' h'=>q F' A' W' H' _ _ (ext y) r' (.dd Rq.non) h',fun _ _ _ _ _ _ _ _ _ h=>h.elim,fun _ _ _ _ _ _ _ _ _ h=>h.elim,fun F' A' W' H' e v y r' z h'=>q F' A' W' H' e v (ext y) r' z h'⟩
section
variable {X : Bc} {n : Nat} {S : Sl} {W : Wl} {k : KB} {D : DB}
theorem bv (i : Nat) {x : Str} {pos : Pos} {e : El} (hs : S[i]? = some (some e)) (h : k e W) (hN : X.N[i]? = some x:=by rfl) (hv : Vis X.env.scope x:=by first | exact Or.inl rfl | exact Or.inr (Or.inl rfl) | exact Or.inr (Or.inr rfl)) (hd : (x == ("__debug__" : Str)) = false:=by decide)
  (hcd : (x == ("__classdict__" : Str)) = false:=by decide) : BE X S W (.Name x pos) k:=zd13 hN hv hs h hd hcd
theorem gS {x c : Str} {t : Tok} {pos : Pos} (hm : X.mg x = some (.str c t)) (h : k (.d (.str c)) W) (hg : Gl X x:=by rfl) (hd : (x == ("__debug__" : Str)) = false:=by decide) : BE X S W (.Name x pos) k:=zG6 (v:=.str c) hg hm ⟨t,rfl⟩ (fun _=>.str c) h hd
theorem gI {x : Str} {c : Int} {t : Tok} {pos : Pos} (hm : X.mg x = some (.int c t)) (h : k (.d (.int c)) W) (hg : Gl X x:=by rfl) (hd : (x == ("__debug__" : Str)) = false:=by decide) : BE X S W (.Name x pos) k:=zG6 (v:=.int c) hg hm ⟨t,rfl⟩ (fun _=>.int c) h hd
/-- a chain of comparisons -/
theorem zJ9 {a b c : Expr} {op op' : CmpOp} {pos : Pos} {k : TB}
  (h : BE X S W a fun x W1=>BE X S W1 b fun y W2=>OB X (fy7 op) x y W2 fun z W3=>∃ t,z = .d (.bool t) /\ if t = true then BE X S W3 c fun u W4=>OB X (fy7 op') y u W4 fun z W5=>∃ t,z = .d (.bool t) /\ k t W5 else k false W3)
  (hm : lastMarks [op,op'] [b,c] = false:=by with_unfolding_all rfl) : BT X S W (.Compare a [op,op'] [b,c] pos) k :=
 .of (za50 op_U op_U zi0 zi0 zi0 hm) fun F A σ H Q x0 r sr q =>
  h.use x0 r sr fun F1 A1 W1 H1 x vx e1 r1 z1 h1=>h1.use (x0.trans e1) r1 (sr.ext e1) fun F2 A2 W2 H2 y vy e2 r2 z2 h2=>h2 F2 A2 H2 _ vx vy r2 (z1.ext e2) z2 fun F3 A3 W3 H3 z vz e3 r3 z3 ⟨t,ht,h3⟩=>by
   subst ht
   obtain rfl:=Rq.zt7 z3
   refine ⟨t,rfl,?_⟩
   have x3:=(e1.trans e2).trans e3
   cases t with
   | true =>
    rw [if_pos rfl] at h3 ⊢
    exact h3.use (x0.trans x3) r3 (sr.ext x3) fun F4 A4 W4 H4 u vu e4 r4 z4 h4=>h4 F4 A4 H4 _ vy vu r4 (z2.ext (e3.trans e4)) z4 fun F5 A5 W5 H5 z vz e5 r5 z5 ⟨t,ht,h5⟩=>by
     subst ht
     obtain rfl:=Rq.zt7 z5
     exact ⟨t,rfl,q F5 A5 W5 H5 t ((x3.trans e4).trans e5) r5 h5⟩
   | false =>
    rw [if_neg (by decide)] at h3 ⊢
    exact ⟨false,rfl,q F3 A3 W3 H3 false x3 r3 h3⟩
theorem za72 {a b c : Expr} {op op' : CmpOp} {pos : Pos}
  (h : BE X S W a fun x W1=>BE X S W1 b fun y W2=>OB X (fy7 op) x y W2 fun z W3=>∃ t,z = .d (.bool t) /\ if t = true then BE X S W3 c fun u W4=>OB X (fy7 op') y u W4 k else k (.d (.bool false)) W3)
  (hm : lastMarks [op,op'] [b,c] = false:=by with_unfolding_all rfl) : BE X S W (.Compare a [op,op'] [b,c] pos) k :=
 .of (za49 op_U op_U zi0 zi0 zi0 hm) fun F A σ H Q x0 r sr q =>
  h.use x0 r sr fun F1 A1 W1 H1 x vx e1 r1 z1 h1=>h1.use (x0.trans e1) r1 (sr.ext e1) fun F2 A2 W2 H2 y vy e2 r2 z2 h2=>h2 F2 A2 H2 _ vx vy r2 (z1.ext e2) z2 fun F3 A3 W3 H3 z vz e3 r3 z3 ⟨t,ht,h3⟩=>by
   subst ht
   obtain rfl:=Rq.zt7 z3
   refine ⟨t,rfl,?_⟩
   have x3:=(e1.trans e2).trans e3
   cases t with
   | true =>
    rw [if_pos rfl] at h3 ⊢
    exact h3.use (x0.trans x3) r3 (sr.ext x3) fun F4 A4 W4 H4 u vu e4 r4 z4 h4=>h4 F4 A4 H4 _ vy vu r4 (z2.ext (e3.trans e4)) z4 (q.ext (x3.trans e4))
   | false =>
    rw [if_neg (by decide)] at h3 ⊢
    exact q F3 A3 W3 H3 _ _ x3 r3 (.dd (Rq.bl false)) h3
theorem zb97 : PIp X .Add (fun x y H Q=>∃ l b xs zs,x = .ref l /\ y = .ref b /\ H l = some (.lst xs) /\ Rd H b (.lst zs) /\ xs.length + zs.length <= by0 /\ Q (.ref l) (upd H l (.lst (xs++zs)))):=by
 intro pins s σ H x y v u Q I rx ry h
 obtain ⟨l,b,xs,zs,rfl,rfl,hH,hB,hz,q⟩:=h
 cases rx
 cases ry
 obtain ⟨z,its,n,r,hl,e⟩:=I.lstM hH
 obtain ⟨z2,its2,n2,r2,e2⟩:=hB.ok I.hok
 have hl2:=r2.length
 have hsz : its.toArray.size + its2.toArray.size <= by0:=by rw [by6,by6]; omega
 have hlong : ¬ (!its.toArray.isEmpty && ry8 (its.toArray.size + its2.toArray.size)) = true:=by
  rw [za54 hsz,Bool.and_false]
  exact cy3
 refine zO3 ⟨_,e,rfl⟩ ⟨_,e2,rfl⟩ ?_
 refine call_meets F.slot_list_iadd ⟨_,e,rfl⟩ F.entry_list_iadd (F.args_list_iadd_2 _ _)
  (AutoSeq1.list___iadd___list_list_0 l its.toArray n b its2.toArray n2 hlong (by rw [by6]; omega) (by omega)) ⟨e,e2,?_⟩
 refine ⟨.ref l,_,I.lset (its':=its++its2) hH e (by simp) (r.append r2) ?_,rfl,q⟩
 rw [cy5]
 omega
/-- x += ys of lists -/
theorem zd26 {j : Nat} {es : List El} {y : El} {ds : List PyData} {k : KB} (hj : W[j]? = some (.lst es)) (hy : y = .d (.list ds)) (hl : es.length + ds.length <= by0) (h : k (.o j) (W.set j (.lst (es++zb4 ds)))) : UB X .Add (.o j) y W k:=fun F A H vx vy Q r zx zy q=>by
 subst hy
 obtain ⟨a,ws,rfl,ha,hH,p⟩:=r.at zx hj
 obtain ⟨b,vs,rfl,hs,z⟩:=Rq.zt8 zy
 exact ⟨_,zb97,a,b,ws,vs,rfl,rfl,hH,r.sub.rd hs,by rw [<- zb6 p,<- zb6 z]; exact hl,q.put r ha (o:=.lst (es++zb4 ds)) ⟨_,rfl,zo1 p (zp5 z)⟩ zx h⟩
/-- the truth of a thing -/
def truD : PyData->Bool
 | .none=>false | .bool b=>b | .int i=>i != 0 | .str y=>(y.length : Int) != 0 | .list xs=>!xs.isEmpty | .tuple xs=>!xs.isEmpty | .dict xs=>!xs.isEmpty
theorem zW2 {e : Expr} {k : TB} (h : BE X S W e fun x W1=>∃ d,dat W1 x d /\ (∀ y,d = .str y->y.length <= by0) /\ k (truD d) W1) (he : ∀ whole,isTrue e X.env whole = (do let v <- whole; standAt e.pos; holding [v] (truthy v)):=by intro _; rfl) : BT X S W e k :=
 .of (za51 zi0 he) fun F A σ H Q x0 r sr q=>h.use x0 r sr fun F1 A1 W1 H1 x vx e1 r1 z1 ⟨d,hd,hy,h1⟩=>by
  refine ⟨truD d,?_,q F1 A1 W1 H1 _ e1 r1 h1⟩
  have z:=r1.dat z1 hd
  cases z with
  | non=>rfl
  | bl b=>rfl
  | int i=>rfl
  | str y=>exact ⟨hy y rfl,rfl⟩
  | @lst a vs ds hs t=>exact .inl ⟨vs,.inl hs,by have:=zb6 t.pd; cases vs <;> cases ds <;> simp_all [truD]⟩
  | @tup a vs ds hs t=>exact .inr (.inl ⟨vs,hs,by have:=zb6 t.pd; cases vs <;> cases ds <;> simp_all [truD]⟩)
  | @dct a kvs xs hs he=>exact .inr (.inr ⟨kvs,hs,by show (!xs.isEmpty) = _; rw [<- he]⟩)
theorem zs3 {ns : List Int} (h : k (.d (.int ns.length)) W) : CB X (.builtin "len") [.s ns] W k:=.of zm6 fun F A H Q vs r zs q=>by
 obtain ⟨v,rfl,z⟩:=zi8 zs
 obtain ⟨a,rfl,hs⟩:=z
 exact ⟨a,_,rfl,.inl (r.sub.seq hs),by rw [ay3]; exact q.same r (.dd (Rq.int _)) h⟩
theorem zW3 {ns : List Int} {i n : Int} (he : atI ns i = some n) (h : k (.d (.int n)) W) : IB X (.s ns) (.d (.int i)) W k:=.of zG3 fun F A H Q vx vy r zx zy q=>by
 obtain ⟨a,rfl,hs⟩:=zx
 obtain rfl:=Rq.zd4 zy
 refine ⟨a,_,i,.int n,rfl,rfl,r.sub.seq hs,?_,q.same r (.dd (Rq.int _)) h⟩
 unfold atI at he ⊢
 rw [ay3]
 cases e : ixN ns.length i with
 | none=>rw [e] at he; cases he
 | some j =>
  rw [e] at he
  simp only [Option.bind] at he ⊢
  rw [ay4,he]
  rfl
end
end L2
namespace L2
end L2
namespace L2
open PySem PySem.Spec PyProof.Rows
theorem zd2.at {P : dy7} {w : World} {H : Hp} {h : Heap} {a : Addr} {o : HO} (x : zd2 P w H h a o) : ∃ ob,h.get? a = some ob:=by
 cases o with
 | lst xs=>obtain ⟨_,_,_,_,e⟩:=x; exact ⟨_,e⟩
 | tup xs=>obtain ⟨_,_,_,o,e,_⟩:=x; exact ⟨_,e⟩
 | dK kvs=>obtain ⟨_,_,_,_,o,_,_,e,_⟩:=x; exact ⟨_,e⟩
 | dT kvs=>obtain ⟨_,_,_,_,o,_,_,e,_⟩:=x; exact ⟨_,e⟩
 | set S n=>obtain ⟨o,_,_,_,e,_⟩:=x; exact ⟨_,e⟩
 | ins C dx fs=>obtain ⟨_,_,_,e,_⟩:=x; exact ⟨_,e⟩
 | own y=>obtain ⟨_,e⟩:=x; exact ⟨_,e⟩
 | xd fs=>obtain ⟨_,⟨_,_,_,e,_⟩,_⟩:=x; exact ⟨_,e⟩
 | rng lo hi=>obtain ⟨_,_,_,e⟩:=x; exact ⟨_,e⟩
 | frz ob u=>obtain ⟨e,_⟩:=x; exact ⟨_,e⟩
 | tbl ps=>exact ⟨_,show h.get? a = some _ from x⟩
 | met f y=>exact ⟨_,show h.get? a = some _ from x⟩
 | ext φ=>obtain ⟨_,⟨_,e⟩,_⟩:=x; exact ⟨_,e⟩
/-- what B keeps: the old objects but the frames,and what is tracked -/
structure Kp (B : Heap) (fr : List Addr) (H' : Hp) (h0 h : Heap) : Prop where
 old : ∀ b o0 o,h0.get? b = some o0->b ∉ fr->h.get? b = some o->B.get? b = some o
 trk : ∀ b u o,H' b = some u->h.get? b = some o->B.get? b = some o
section
variable {P : dy7} {w : World} {B h0 h h'' : Heap} {fr : List Addr} {H H' : Hp}
theorem HOk.fly (x : HOk P w H' h) (k : Kp B fr H' h0 h) (st : B.StaysIn h'') : HOk P w H' h'':=fun a o e =>
 (x a o e).zN1 (fun b u hb q=>by
  rcases hb with rfl | hb
  ·exact st _ _ (k.trk _ o u e q)
  ·exact st _ _ (k.trk _ _ u hb q)) (fun _ q=>q) fun _ _ q=>q
theorem Kp.fly (k : Kp B fr H' h0 h) (x : HOk P w H' h) (st : B.StaysIn h'') (th : ∀ b o0,h0.get? b = some o0->∃ o,h.get? b = some o) : Kp B fr H' h0 h'':=by
 refine ⟨fun b o0 o q hb e=>?_,fun b u o q e=>?_⟩
 ·obtain ⟨o',e'⟩:=th b o0 q
  have hB:=k.old b o0 o' q hb e'
  have:=st _ _ hB
  rw [e] at this
  cases this
  exact hB
 ·obtain ⟨o',e'⟩:=(x b u q).at
  have hB:=k.trk b u o' q e'
  have:=st _ _ hB
  rw [e] at this
  cases this
  exact hB
theorem Un.fly (u : Un fr [] H H' h0 h) (k : Kp B fr H' h0 h) (st : B.StaysIn h'') (up : h.UpToSlots h'') (nf : ∀ b∈fr,∀ o,h.get? b = some o->∀ vs,o.data ≠ .fields vs) : Un fr [] H H' h0 h'' where
 keep:=fun b o q n hb he=>st _ _ (k.old b o o q hb (u.keep b o q n hb he))
 slot:=fun b o q n hb he=>by
  obtain ⟨sl,e⟩:=u.slot b o q n hb he
  obtain ⟨sl',e'⟩:=up b _ e (nf b hb _ e)
  exact ⟨sl',e'⟩
 free:=u.free
 there:=fun b o q he=>by
  obtain ⟨o',e⟩:=u.there b o q he
  by_cases hb : b∈fr
  ·obtain ⟨sl',e'⟩:=up b _ e (nf b hb _ e)
   exact ⟨_,e'⟩
  ·exact ⟨o',st _ _ (k.old b o o' q hb e)⟩
 tups:=u.tups
 frzs:=u.frzs
 tbls:=u.tbls
end
/-- an exception in flight,not yet noted here,noted by callees,or noted here -/
def Mk0 (e : Addr) (cls : Value) (h : Heap) : Prop:=∃ oe vs a0,h.get? e = some oe /\ oe.cls = cls /\ oe.data = .fields vs /\ vs[1]? = some .none /\ vs[0]? = some a0
structure InF (B : Heap) (l : List Env) (e : Addr) (cls : Value) (h : Heap) : Prop where
 st : B.StaysIn h
 ne : B.get? e = none
 ff : h.FunFrames B l
 tr : Mk0 e cls h \/ (∃ a0,h.TracedW B e cls a0) \/ ∃ a0 L env r,l = env :: r /\ env.frame = some L /\ h.TracedAtW B e cls a0 (rawInt L)
theorem InF.nf {B : Heap} {l : List Env} {e : Addr} {cls : Value} {h : Heap} (x : InF B l e cls h) : ∀ b∈frs l,∀ o,h.get? b = some o->∀ vs,o.data ≠ .fields vs:=fun b hb o e=>by
 obtain ⟨_,o',e',nf⟩:=x.ff.mem hb
 rw [e] at e'
 cases e'
 exact nf
theorem _root_.PySem.Heap.HeldW.inF {B : Heap} {env : Env} {r : List Env} {e L : Addr} {cls a0 : Value} {h : Heap} (hf : env.frame = some L) (x : Heap.HeldW B (env :: r) e cls a0 L h) : InF B (env :: r) e cls h:=⟨x.1,x.2.1,x.2.2.1,.inr (.inr ⟨a0,L,env,r,rfl,hf,x.2.2.2⟩)⟩
theorem _root_.PySem.Heap.FlyingW.inF {B : Heap} {l : List Env} {e : Addr} {cls a0 : Value} {h : Heap} (x : Heap.FlyingW B l e cls a0 h) : InF B l e cls h:=⟨x.1,x.2.1,x.2.2.1,.inr (.inl ⟨a0,x.2.2.2⟩)⟩
section
variable {M : Model} {A : Around} {E : Value->Shared->Prop} {s : Shared} {B : Heap} {env : Env} {outer : List Env} {L e : Addr} {cls : Value} {Q : Unit->Shared->Prop}
theorem zW4 (hfr : A.frames = some (env :: outer)) (hf : env.frame = some L) (x : InF B (env :: outer) e cls s.heap) (hQ : ∀ h' a0,Heap.HeldW B (env :: outer) e cls a0 L h'->s.heap.UpToSlots h'->Q () { s with heap:=h' }) :
  wpAny M A (noteFrame (.ref e) env) Q E s:=by
 rcases x.tr with ⟨oe,vs,a0,he,hc,hd,h1,h0⟩ | ⟨a0,ht⟩ | ⟨a0,L',env',r',hl,hf',ht⟩
 ·subst hc
  unfold noteFrame
  simp only [hf]
  refine ay1 (iy8 he hd h1 ?_)
  rw [if_neg (by decide)]
  exact wpAny_entryW hfr x.ff hf he x.st x.ne hd (Array.getElem?_eq_some_iff.mp h1).1 h0 fun h' ⟨x1,x2,x3,x4⟩=>hQ h' a0 ⟨x1,x.ne,x2,x3⟩ x4
 ·exact wpAny_looks_onW hfr hf ⟨x.st,x.ne,x.ff,ht⟩ fun h' hh up=>hQ h' a0 hh up
 ·cases hl
  rw [hf] at hf'
  cases hf'
  exact wpAny_noteFrame_againW hf ht (hQ s.heap a0 ⟨x.st,x.ne,x.ff,ht⟩ (.refl _))
theorem za73 (hfr : A.frames = some (env :: outer)) (hf : env.frame = some L) (x : InF B (env :: outer) e cls s.heap) (hQ : ∀ h' a0,Heap.FlyingW B outer e cls a0 h'->s.heap.UpToSlots h'->Q () { s with heap:=h' }) :
  wpAny M A (leaving env (.ref e)) Q E s:=by
 unfold leaving
 refine ay1 (zW4 hfr hf x fun h' a0 hh up=>?_)
 refine wpAny_landsW hh fun h'' hfl up'=>?_
 obtain ⟨k1,k2,⟨_,_,k3⟩,k4⟩:=hfl
 exact hQ h'' a0 ⟨k1,k2,k3,k4⟩ (up.trans up')
theorem zW5 {fl : Option Addr} {a0 f0 : Value} {l : List Env} (hkb : B.StaysIn s.heap) (hl : s.heap.FunFrames B l) (ht : s.heap.TracedAtW B e cls a0 f0)
  (h : ∀ h',B.StaysIn h'->h'.FunFrames B l->h'.TracedAtW B e cls a0 (fl.elim .none fun f=>rawInt f)->s.heap.UpToSlots h'->Q () { s with heap:=h' }) : wpAny M A (setFlight (.ref e) fl) Q E s:=by
 obtain ⟨oe,vs,T,oT,ts,he,hcls,hd,h1,hnT,hTe,hT,hdT,h3⟩:=ht
 have hsz3 : 3 < ts.size:=(Array.getElem?_eq_some_iff.mp h3).1
 have other : ∀ b,b ≠ T->(s.heap.update T (Obj.mapFields (·.setIfInBounds 3 (fl.elim fy3 fun f=>rawInt f)))).get? b = s.heap.get? b :=
  fun b hb=>ky4 _ _ (iy5 hb)
 have noRecord : ∀ b o,s.heap.get? b = some o->(∀ vs,o.data ≠ .fields vs)->b ≠ T:=fun b o hb hnf q=>by
  rw [q,hT] at hb; injection hb with hb; subst hb; exact hnf ts hdT
 unfold setFlight
 refine ay1 (iy8 he hd h1 ?_)
 rw [if_pos (show (fy8 T != fy3) = true from by simp)]
 refine wpAny_setField hT hdT hsz3 (h _ (fun b o hbo=>(other b fun q=>by rw [q,hnT] at hbo; cases hbo).trans (hkb b o hbo))
  (hl.of_keeps fun b o hb hnf=>⟨o,(other b (noRecord b o hb hnf)).trans hb,rfl⟩) ?_ fun b o hb hnf=>⟨o.slots,(other b (noRecord b o hb hnf)).trans hb⟩)
 exact ⟨oe,vs,T,_,_,(other e (iy5 hTe)).trans he,hcls,hd,h1,hnT,hTe,my9 _ hT (Obj.isFreed_of_fields (ny1 hdT _)),ny1 hdT _,by simp [hsz3]⟩
theorem zb98 {E' : Value->Shared->Prop} {a0 : Value} (hf : env.frame = some L) (x : Heap.HeldW B (env :: outer) e cls a0 L s.heap) (hQ : ∀ h',Heap.HeldW B (env :: outer) e cls a0 L h'->s.heap.UpToSlots h'->E' (.ref e) { s with heap:=h' }) :
  cameBackBy M A env E' (.ref e) s:=by
 obtain ⟨f1,f2,f3,f4⟩:=x
 obtain ⟨oe,vs,T,oT,ts,he,hcls,hd,h1,r⟩:=id f4
 show wpAny M A (do
  if (<- field (.ref e) 1) == .none then unsupported "frame.own-activation:exception-without-traceback"
  setFlight (.ref e) env.frame) (fun _ s''=>E' (.ref e) s'') E' s
 refine ay1 (iy8 he hd h1 ?_)
 rw [if_neg (by simp),hf]
 exact zW5 (fl:=some L) f1 f3 f4 fun h' k1 k2 k3 k4=>hQ h' ⟨k1,f2,k2,k3⟩ k4
end
/-- an exception of the class at C in a body -/
def XS (X : Cx) (C : Addr) (H' : Hp) (σ : St) (e : Value) (s' : Shared) : Prop:=∃ ea B pins H sr,e = .ref ea /\ Inv X pins σ H sr /\ s'.os = sr.os /\ AllBare s'.gens /\ Un (frs X.stack) [] H H' sr.heap s'.heap /\ HOk X.prog X.w H' s'.heap /\
 Kp B (frs X.stack) H' sr.heap s'.heap /\ InF B X.stack ea (.ref C) s'.heap
/-- how it lies behind a call -/
def CXe (P : dy7) (w : World) : CXT:=fun outer H s E e s'=>∃ ea C B a0 H',e = .ref ea /\ s'.os = s.os /\ AllBare s'.gens /\ Un (frs outer) [] H H' s.heap s'.heap /\ HOk P w H' s'.heap /\ Kp B (frs outer) H' s.heap s'.heap /\
 Heap.FlyingW B outer ea (.ref C) a0 s'.heap /\ E (.ref C) none H'
/-- a def's body -/
structure Body (X : Cx) : Prop where
 stk : X.stack = X.env :: X.outer
 frm : X.env.frame = some X.env.locals
 ex : X.ex = []
section
variable {X : Cx} {C : Addr} {H' : Hp} {σ : St} {e : Value} {s' : Shared}
theorem XS.step {ea : Addr} {B : Heap} {pins : List (Addr × Obj)} {H : Hp} {sr : Shared} {h'' : Heap} (I : Inv X pins σ H sr) (os : s'.os = sr.os) (bare : AllBare s'.gens) (un : Un (frs X.stack) [] H H' sr.heap s'.heap) (ok : HOk X.prog X.w H' s'.heap)
  (kp : Kp B (frs X.stack) H' sr.heap s'.heap) (x : InF B X.stack ea (.ref C) s'.heap) (x' : InF B X.stack ea (.ref C) h'') (up : s'.heap.UpToSlots h'') : XS X C H' σ (.ref ea) { s' with heap:=h'' } :=
 ⟨ea,B,pins,H,sr,rfl,I,os,bare,un.fly kp x'.st up x.nf,ok.fly kp x'.st,kp.fly ok x'.st fun b o0 q=>un.there b o0 q (by simp),x'⟩
theorem zW6 {Ex : Addr->Hp->St->Prop} {M : Model} (b : Body X) : PassesOwn M X.A X.env (fun e s'=>∃ C H' σ,XS X C H' σ e s' /\ Ex C H' σ):=by
 rintro e s' ⟨C,H',σ,⟨ea,B,pins,H,sr,rfl,I,os,bare,un,ok,kp,x⟩,he⟩
 have x1:=x
 have hfr:=I.ok.frames
 rw [b.stk] at x1 hfr
 refine zW4 hfr b.frm x1 fun h1 a0 hh up=>?_
 refine zb98 b.frm hh fun h2 hh2 up2=>?_
 have x2 : InF B X.stack ea (.ref C) h2:=by rw [b.stk]; exact hh2.inF b.frm
 exact ⟨C,H',σ,XS.step (s':=s') I os bare un ok kp x x2 (up.trans up2),he⟩
/-- it leaves the body -/
theorem XS.leave {M : Model} {E : XK} {E' : Value->Shared->Prop} (b : Body X) (h : XS X C H' σ e s') (he : E (.ref C) none H') :
  wpAny M X.A (leaving X.env e) (fun _ s''=>CXe X.prog X.w X.outer X.H₀ X.s₀ E e s'') E' s':=by
 obtain ⟨ea,B,pins,H,sr,rfl,I,os,bare,un,ok,kp,x⟩:=h
 have x1:=x
 have hfr:=I.ok.frames
 rw [b.stk] at x1 hfr
 refine za73 hfr b.frm x1 fun h' a0 hfl up=>?_
 have un2:=un.fly kp hfl.1 up x.nf
 have ok2:=ok.fly kp hfl.1
 have kp2:=kp.fly ok hfl.1 fun b o0 q=>un.there b o0 q (by simp)
 have hex : ∀ c : Addr,c ∉ X.ex:=fun c z=>by rw [b.ex] at z; simp at z
 have loc : ∀ c o,X.s₀.heap.get? c = some o->c ≠ X.env.locals:=fun c o q z=>by
  have h1:=cy1 q
  have h2:=I.ok.above
  rw [z] at h1
  exact absurd (by1 h1 h2) (ly8 _)
 have fr : ∀ c o,X.s₀.heap.get? c = some o->c ∉ frs X.outer->c ∉ frs X.stack:=fun c o q hc z=>by
  rw [b.stk] at z
  have z : c∈List.filterMap (fun e : Env=>e.frame) (X.env :: X.outer):=z
  rw [ky5,b.frm] at z
  rcases cy4.mp z with z | z
  ·exact loc c o q z
  ·exact hc z
 refine ⟨ea,C,B,a0,H',rfl,os.trans I.os,bare,⟨fun c o q n hc _=>?_,fun c o q n hc _=>?_,fun c o q n _=>?_,fun c o q _=>?_,fun c xs q=>un2.tups c xs (I.base.tups c xs q),fun c o u q=>un2.frzs c o u (I.base.frzs c o u q),fun c ps q=>?_⟩,ok2,⟨fun c o0 o q hc e=>?_,kp2.trk⟩,hfl,he⟩
 ·exact un2.keep c o (I.base.keep c o q n hc (hex c)) (I.base.free c o q n (hex c)) (fr c o q hc) (by simp)
 ·obtain ⟨sl,e1⟩:=I.base.slot c o q n hc (hex c)
  have h1 : c∈frs X.stack:=by
   rw [b.stk]
   show c∈List.filterMap (fun e : Env=>e.frame) (X.env :: X.outer)
   rw [ky5,b.frm]
   exact by8 _ hc
  obtain ⟨sl',e2⟩:=un2.slot c _ e1 (I.base.free c o q n (hex c)) h1 (by simp)
  exact ⟨sl',e2⟩
 ·obtain ⟨o',e1⟩:=I.base.there c o q (hex c)
  exact un2.free c o' e1 (I.base.free c o q n (hex c)) (by simp)
 ·obtain ⟨o',e1⟩:=I.base.there c o q (hex c)
  exact un2.there c o' e1 (by simp)
 ·obtain ⟨m1,e1⟩:=I.base.tbls c ps q
  obtain ⟨m2,e2⟩:=un2.tbls c _ e1
  exact ⟨m1++m2,by rw [e2,Array.append_assoc]⟩
 ·obtain ⟨o',e1⟩:=I.base.there c o0 q (hex c)
  exact kp2.old c o' o e1 (fr c o0 q hc) e
/-- it comes from a callee -/
theorem XS.came {pins : List (Addr × Obj)} {H : Hp} {s : Shared} {E : XK} (I : Inv X pins σ H s) (h : CXe X.prog X.w X.stack H s E e s') : ∃ C H',XS X C H' σ e s' /\ E (.ref C) none H':=by
 obtain ⟨ea,C,B,a0,H',rfl,os,bare,un,ok,kp,hfl,he⟩:=h
 exact ⟨C,H',⟨ea,B,pins,H,s,rfl,I,os,bare,un,ok,kp,hfl.inF⟩,he⟩
/-- it is made here -/
theorem XS.made {pins : List (Addr × Obj)} {H : Hp} {s : Shared} {ea : Addr} {h' : Heap} {args : List Value} (I : Inv X pins σ H s) (hm : Heap.MadeExcOf s.heap h' ea (.ref C) args) : XS X C H σ (.ref ea) { s with heap:=h' }:=by
 have hB : ∀ b o,s.heap.get? b = some o->b ∉ frs X.stack->(PySem.W.hideAll s.heap (frs X.stack)).get? b = some o:=fun b o q hb=>PySem.W.hideAll_get _ q hb
 obtain ⟨t,he,htn,ht⟩:=hm.there
 refine ⟨ea,PySem.W.hideAll s.heap (frs X.stack),pins,H,s,rfl,I,rfl,I.bare,Un.kept hm.keeps,I.hok.kept hm.keeps,⟨fun b o0 o q hb e=>?_,fun b u o q e=>?_⟩,⟨fun b o q=>hm.keeps _ _ (PySem.W.of_hideAll _ q),?_,?_,.inl ⟨_,_,_,he,rfl,rfl,rfl,rfl⟩⟩⟩
 ·have:=hm.keeps _ _ q
  have e : h'.get? b = some o:=e
  rw [e] at this
  cases this
  exact hB b _ q hb
 ·obtain ⟨o',e'⟩:=(I.hok b u q).at
  have:=hm.keeps _ _ e'
  have e : h'.get? b = some o:=e
  rw [e] at this
  cases this
  refine hB b _ e' fun z=>?_
  rw [I.zF9 b z] at q
  cases q
 ·cases q : (PySem.W.hideAll s.heap (frs X.stack)).get? ea with
  | none=>rfl
  | some o=>have:=PySem.W.of_hideAll _ q; rw [hm.new] at this; cases this
 ·have ff:=PySem.W.funFrames_hide (as:=frs X.stack) I.stack fun env he a ha=>py5.mpr ⟨env,he,ha⟩
  exact ff.of_keeps fun b o hb _=>⟨o,hm.keeps b o hb,rfl⟩
end
theorem zb99 {K : ay2} {h : Heap} {C : Addr} {bmB : List Value} {newId : String} (X : K.In h) (q : PySem.W.excIn K C bmB newId = true) :
  ∃ bm N nm qn bs hdct sn sub ab col dd k0 k1 k2 k3 k5 mN,h.get? C = some (excClassObj nm qn C N bs bm hdct sn sub ab col dd k0 k1 k2 k3 k5 newId) /\ h.Ns N mN /\ mN "__init__" = none /\ OwnTail h bmB bm:=by
 unfold PySem.W.excIn at q
 split at q
 ·rename_i dd cd sl ho
  split at q
  ·rename_i C' bm k0 k1 k2 k3 n k5 hm hs
   simp only [iy3,beq_iff_eq,Bool.not_eq_true'] at q
   obtain ⟨⟨⟨⟨⟨rfl,rfl⟩,hdel⟩,ht⟩,hok⟩,hni⟩:=q
   obtain ⟨nm,bs,mro,ns,qn,hd,sn,sub,ab,col,del⟩:=cd
   dsimp only at hm hdel hok hni
   subst hm hdel
   have hsl : sl = #[k0,k1,k2,k3,some (.builtin n),k5]:=by
    obtain ⟨l⟩:=sl
    simp only at hs
    rw [hs]
   subst hsl
   exact ⟨bm,ns,nm,qn,bs,hd,sn,sub,ab,col,dd,k0,k1,k2,k3,k5,_,X _ _ ho,.of_isNs (PySem.W.isNs_of_in X hok),PySem.W.nsMap_none_of_in X hok hni,PySem.W.tail_of_in X ht⟩
  ·cases q
 ·cases q
abbrev VEs : List Value:=[.type "ValueError",.type "Exception",.type "BaseException",.type "object"]
abbrev zd27 (K : ay2) (C : Addr) : Prop:=PySem.W.excIn K C VEs "ValueError.__new__" = true
theorem PSs.ze41 {X : Cx} {st : List Stmt} {t : TS} {E' : Value->Shared->Prop} (h : PSs (X.zI9 E') st t) (hE : ∀ e s',E' e s'->X.xe e s') : PSs X st t:=fun pins s σ H D I hw =>
 ly2 (h pins s σ H D (I.zI9 _) hw) (fun _ _ q=>q.zn9) hE
/-- an exception with the wished objects leaves as wished -/
def XOk (X : Bc) : Prop:=∀ F' A' W' H' S' σ' C e s',X.Am F' A'->RW X.K F' A' W' H'->SR X.K F' A' S' σ'->X.xk C S' W'->XS X C H' σ' e s'->X.xe e s'
section
variable {X : Bc} {n : Nat} {S : Sl} {W : Wl} {k : KB} {D : DB}
/-- raise C(..) -/
theorem za74 {x : Str} {C : Addr} {e : Expr} {es : List Expr} {np cpos pos : Pos} (xo : XOk X) (hc : X.calm = true) (hx : zd27 X.K C) (hm : X.mg x = some (.ref C)) (h : BA X S W (e :: es) fun as W1=>as.length <= by0 /\ X.xk C S W1)
  (hg : Gl X x:=by rfl) (hdb : (x == ("__debug__" : Str)) = false:=by decide) (he : ey1 (e :: es) X.env = (false,eval e X.env) :: ey1 es X.env:=by rfl) (hpl : (backTo cpos (ey1 es X.env)).any (·.1) = false:=by rfl) :
  BS X n S W (.Raise (some (.Call (.Name x np) (e :: es) [] cpos)) none pos) D:=by
 intro pins s σ H E I ⟨F,A,hn,x0,r,sr,q⟩
 obtain ⟨tl,N,nm,qn,bs,hdct,sn,sub,ab,col,dd,k0,k1,k2,k3,k5,mN,hC,hN,hni,T⟩:=zb99 I.ok.mod.kin hx
 refine wpAny_Raise_call_subT (C:=C) (nm:=nm) (q:=qn) (N:=N) (bs:=bs) (bm:=tl) (hdct:=hdct) (sn:=sn) (sub:=sub) (ab:=ab) (col:=col) (dd:=dd) (k0:=k0) (k1:=k1) (k2:=k2) (k3:=k3) (k5:=k5)
  PySem.F.excBase_ValueError (mN:=mN) (T.hasType PySem.F.excBase_ValueError.hasBase) (I.ok.hd hc) (by rw [he]; show (false || (backTo cpos (ey1 es X.env)).any (·.1)) = false; rw [hpl]; rfl) hni (zy0 I hg hm ⟨rfl,?_⟩ hdb)
 have hA:=h cpos pins s σ H (fun vs H1=>vs.length <= by0 /\ ∃ F' A' W',X.Am F' A' /\ RW X.K F' A' W' H1 /\ SR X.K F' A' S σ /\ X.xk C S W') I ⟨F,A,x0.am,r,sr,fun F' A' W' H1 es' vs e1 r1 z1 h1=>⟨by rw [<- zb6 z1]; exact h1.1,F',A',W',x0.am.trans e1,r1,sr.ext e1,h1.2⟩⟩
 rw [he] at hA ⊢
 refine Calls.evalArgs_plain (ly2 hA (fun vs s₂ ⟨xs,H1,I1,rv,hl,F',A',W',am,r1,sr1,hk⟩=>?_) fun _ _ y=>y)
 exact ⟨rfl,by rw [<- rv.length]; exact hl,I1.bk _ _ hC,hN.keeps I1.bk,T.keeps I1.bk,fun h' ea hm'=>xo F' A' W' H1 S σ C (.ref ea) _ am r1 sr1 hk (XS.made I1 hm')⟩
/-- a def that may raise -/
abbrev RX:=List El->Wl->KB->(Addr->Wl->Prop)->Prop
def spX (K : ay2) (R : RX) : Sp:=fun vs H Q E=>∃ F A W es k x,RW K F A W H /\ Paired (ElR K F A) es vs /\ R es W k x /\ zp4 K F A k Q /\ ∀ F' A' W' H' C,Ext F A F' A'->RW K F' A' W' H'->x C W'->E (.ref C) none H'
theorem zs8 {R : RX} {j : Nat} {f : Addr} {fd : ey8} {ps : List Str} {x : Str} {p pos : Pos} {e : Expr} {es : List Expr} (F : zj8 X.prog X.w X.K X.mg X.base (CXe X.prog X.w) j f fd ps (spX X.K R)) (xo : XOk X) (hr : zt1 j X.A) (hm : X.mg x = some (.ref f))
  (hk : cy8 X.K (.ref f) = true) (hb : Binds X.K fd ps []) (h : BA X S W (e :: es) fun as W1=>R as W1 k fun C W'=>X.xk C S W') (hg : Gl X x:=by rfl) (hdb : (x == ("__debug__" : Str)) = false:=by decide)
  (he : ey1 (e :: es) X.env = (false,eval e X.env) :: ey1 es X.env:=by rfl) (hpl : (backTo pos (ey1 es X.env)).any (·.1) = false:=by rfl) : BE X S W (.Call (.Name x p) (e :: es) [] pos) k:=by
 intro pins s σ H Q I ⟨Fh,A,x0,r,sr,q⟩
 refine wpAny_Call_Name_kw (zy0 I hg hm ?_ hdb)
 refine PySem.W.callWith_K (h₀:=X.base) I.ok.mod.kin hk (thn (h pos pins s σ H (fun vs H1=>∃ F1 A1 W1 as,X.Am F1 A1 /\ RW X.K F1 A1 W1 H1 /\ SR X.K F1 A1 S σ /\ Paired (ElR X.K F1 A1) as vs /\ R as W1 k (fun C W'=>X.xk C S W') /\ zp4 X.K F1 A1 k Q) I
  ⟨Fh,A,x0,r,sr,fun F1 A1 W1 H1 as vs e1 r1 z1 h1=>⟨F1,A1,W1,as,x0.trans e1,r1,sr.ext e1,z1,h1,q.ext e1⟩⟩) fun us s1 ⟨vs,H1,I1,rv,F1,A1,W1,as,am,r1,sr1,z1,h1,q1⟩=>⟨I1.kIn,?_⟩) he hpl
 have hsp : spX X.K R vs H1 Q (fun cls _ H'=>∃ C F' A' W',cls = .ref C /\ X.Am F' A' /\ RW X.K F' A' W' H' /\ SR X.K F' A' S σ /\ X.xk C S W') :=
  ⟨F1,A1,W1,as,k,_,r1,z1,h1,q1,fun F' A' W' H' C e1 r' hx=>⟨C,F',A',W',rfl,am.trans e1,r',sr1.ext e1,hx⟩⟩
 have hl : us.length = ps.length:=by rw [<- rv.length]; exact F.len _ _ _ _ hsp
 have hb1:=hb s1 us I1.kIn (by rw [hy4]; exact hl)
 rw [hy4] at hb1
 refine wpAny_call (codeAny_mono (F.run X.A X.stack s1 H1 ⟨us,[]⟩ us vs Q _ hr I1.env0 hb1 rv hsp) fun r s' hq=>?_)
 cases r with
 | error e =>
  have hq : CXe X.prog X.w X.stack H1 s1 (fun cls _ H'=>∃ C F' A' W',cls = .ref C /\ X.Am F' A' /\ RW X.K F' A' W' H' /\ SR X.K F' A' S σ /\ X.xk C S W') e s':=hq
  obtain ⟨C,H',xs,C',F',A',W',e1,am',r',sr',hx⟩:=XS.came I1 hq
  cases e1
  exact xo F' A' W' H' S σ C e s' am' r' sr' hx xs
 | ok fl =>
  cases fl with
  | ret u=>exact I1.after hq
  | next=>exact my6 hq
  | brk=>exact my6 hq
  | cont=>exact my6 hq
/-- a def that may raise,by its body -/
theorem fn_X {P : dy7} {w : World} {K : ay2} {mg : Str->Option Value} {base : Heap} {x qual : Str} {st : Stmt} {f : Addr} {fd : ey8} {N ps : List Str} {j : Nat} {R : RX} (F : Fun K x qual st f fd) (S : zc0 N ps (za0 st)) (len : ∀ es W k y,R es W k y->es.length = ps.length)
  (hbody : ∀ (X : Bc) (cdv : Value) (A : Around) (outer : List Env) (s : Shared) (H : Hp) (E : XK) (xe : Value->Shared->Prop) (F0 : Hp) (A0 : List Addr) es W k y,X = ⟨(zN8 (CXe P w) P w K mg base N qual (za0 st) f cdv A outer s H E).zI9 xe,F0,A0,fun C _ W'=>y C W'⟩ ->
   zt1 j (A.deeper (envOfC qual (za0 st) s.heap.objs.size f cdv))->PassesOwn (model P w) (A.deeper (envOfC qual (za0 st) s.heap.objs.size f cdv)) (envOfC qual (za0 st) s.heap.objs.size f cdv) xe->XOk X->closed W->R es W k y ->
   BSs X W.length (zE3 N es) W (za5 st) { nx:=fun _ W'=>k (.d .none) W',rt:=k }) : zj8 P w K mg base (CXe P w) (j + 1) f fd ps (spX K R):=by
 obtain ⟨oc,od,kV,doc,pm,an,cdv,ct,osl,rfl,lk,hcd⟩:=F.ex
 refine zc98 lk hcd S (fun vs H Q E ⟨Fh,A,W,es,k,y,r,p,h,q,qx⟩=>by rw [<- zb6 p]; exact len es W k y h) fun A outer s H vs Q E hr ⟨Fh,Ad,W,es,k,y,r,p,h,q,qx⟩=>?_
 have bd : Body (zN8 (CXe P w) P w K mg base N qual (za0 st) f cdv A outer s H E):=⟨rfl,rfl,rfl⟩
 have ext : ∀ {F' A'},Ex1 W.length Fh Ad F' A'->Ext Fh Ad F' A':=fun y=>⟨y.same,by have:=y.pre; rw [<- r.len,hy6] at this; exact this⟩
 refine ⟨_,PSs.ze41 (E':=fun e s'=>∃ C H' σ,XS (zN8 (CXe P w) P w K mg base N qual (za0 st) f cdv A outer s H E) C H' σ e s' /\ E (.ref C) none H') (hbody ⟨_,Fh,Ad,fun C _ W'=>y C W'⟩ cdv A outer s H E _ Fh Ad es W k y rfl hr (zW6 (X:=zN8 (CXe P w) P w K mg base N qual (za0 st) f cdv A outer s H E) bd) ?_ r.closed h) ?_,Fh,Ad,by rw [r.len]; exact ay5 _,⟨.refl,by rw [r.len]; exact ay5 _⟩,r,.start p,?_⟩
 ·exact fun F' A' W' H' S' σ' C e s' am r' sr' hy ⟨ea,B,pins,H1,sr1,he,I,rest⟩=>⟨C,H',σ',⟨ea,B,pins,H1,sr1,he,I.zn9,rest⟩,qx F' A' W' H' C am r' hy⟩
 ·exact fun e s' ⟨C,H',σ,xs,he⟩=>XS.leave bd xs he
 ·exact ⟨fun F' A' W' H' S' σ' y r' sr' h'=>q F' A' W' H' _ _ (ext y) r' (.dd Rq.non) h',fun _ _ _ _ _ _ _ _ _ h=>h.elim,fun _ _ _ _ _ _ _ _ _ h=>h.elim,fun F' A' W' H' e v y r' z h'=>q F' A' W' H' e v (ext y) r' z h'⟩
end
end L2
namespace K1
open PySem L2
def LET : Str := "abcdefghijklmnopqrstuvwxyz"
def isNm (x : Str) : Bool:=(decide (1 <= x.length) && decide (x.length <= 8)) && x.cps.toList.all fun c=>decide (97 <= c) && decide (c <= 122)
theorem zH0 : LET.length = 26:=by decide +kernel
theorem zz8 (i : Nat) (h : i < 26) : LET.cps[i]? = some (97 + i):=by
 have : ∀ j : Fin 26,LET.cps[j.1]? = some (97 + j.1):=by decide +kernel
 exact this ⟨i,h⟩
theorem zd28 (c : Nat) : (!(sy1 LET ⟨#[c]⟩ 0 LET.length 1).isEmpty) = (decide (97 <= c) && decide (c <= 122)):=by
 have sub1 : ∀ i,Builtin.Str.subAt LET ⟨#[c]⟩ i = true ↔ LET.cps[i]? = some c:=fun i=>by
  unfold Builtin.Str.subAt
  show (LET.cps.extract i (i + 1) == #[c]) = true ↔ _
  rw [beq_iff_eq]
  have hs : LET.cps.size = 26:=zH0
  by_cases hi : i < 26
  ·rw [zz8 i hi]
   have : LET.cps.extract i (i + 1) = #[97 + i]:=by
    apply Array.ext
    ·simp [hs]; omega
    ·intro j h1 h2
     have hj : j = 0:=by simp at h2; omega
     subst hj
     have:=zz8 i hi
     rw [Array.getElem_extract]
     simp
     rw [Array.getElem?_eq_getElem (by omega)] at this
     simpa using this
   rw [this]
   simp
  ·constructor
   ·intro e
    have:=congrArg Array.size e
    simp [hs] at this
    omega
   ·intro e
    rw [Array.getElem?_eq_none (by omega)] at e
    cases e
 rcases PySem.StrLaws.occ_head LET ⟨#[c]⟩ 1 (ay5 _) with ⟨h0,hn⟩ | ⟨i,r,h0,hi,_⟩
 ·rw [h0]
  by_cases hc : 97 <= c /\ c <= 122
  ·exfalso
   refine hn (c - 97) ⟨?_,(sub1 _).mpr ?_⟩
   ·rw [zH0]; show c - 97 + 1 <= 26; omega
   ·rw [zz8 _ (by omega)]; congr 1; omega
  ·have : (decide (97 <= c) && decide (c <= 122)) = false:=by
    by_cases h1 : 97 <= c
    ·have : ¬ c <= 122:=fun h2=>hc ⟨h1,h2⟩
     simp [this]
    ·simp [h1]
   rw [this]
   rfl
 ·rw [h0]
  have e:=(sub1 i).mp hi.2
  have hlt : i < 26:=by
   have:=hi.1
   rw [zH0] at this
   have : i + 1 <= 26:=this
   omega
  rw [zz8 i hlt] at e
  have e : 97 + i = c:=jy1 e
  have h1 : 97 <= c:=by omega
  have h2 : c <= 122:=by omega
  simp [h1,h2]
abbrev cs (x : Str) : List Nat:=x.cps.toList
theorem zK0 (x : Str) : (cs x).length = x.length:=hy9
theorem zd29 (x y : Str) : cs (x++y) = cs x++cs y:=by
 show (x.cps++y.cps).toList = _
 simp
theorem zb44 {x : Str} : isNm x = true ↔ 1 <= (cs x).length /\ (cs x).length <= 8 /\ ∀ c∈cs x,97 <= c /\ c <= 122:=by
 unfold isNm
 rw [<- zK0]
 show ((decide (1 <= (cs x).length) && decide ((cs x).length <= 8)) && (cs x).all fun c=>decide (97 <= c) && decide (c <= 122)) = true ↔ _
 generalize cs x = l
 simp [and_assoc]
structure za6 where
 tk : Bool
 x : Str
 y : Str
 w : Str
 deriving DecidableEq
def za6.kd (d : za6) : Str:=if d.tk then "take" else "send"
structure za6.Ok (d : za6) : Prop where
 x : isNm d.x = true
 y : isNm d.y = true
 w : isNm d.w = true
 ne : d.x ≠ d.y
theorem zd30 (d : za6) : d.kd = "send" \/ d.kd = "take" := by
 unfold za6.kd
 split
 ·exact .inr rfl
 ·exact .inl rfl
theorem zd31 {d e : za6} (h : d.kd = e.kd) : d.tk = e.tk:=by
 unfold za6.kd at h
 have : ("take" : Str) ≠ "send" := by decide +kernel
 cases hd : d.tk <;> cases he : e.tk <;> simp only [hd,he] at h ⊢ <;> first | rfl | exact absurd h this | exact absurd h.symm this
def dP (d : za6) : PyData:=.tuple [.str d.kd,.str d.x,.str d.y,.str d.w]
def rP (ds : List za6) : PyData:=.tuple (ds.map dP)
theorem zh0 {x : Str} (h : isNm x = true) : ry9 x = true:=by
 have h3:=(zb44.mp h).2.2
 show x.cps.all (· < 0x110000) = true
 rw [Array.all_eq_true_iff_forall_mem]
 intro c hc
 have:=h3 c (by simpa using hc)
 simp
 omega
theorem za75 (d : za6) : ry9 d.kd = true:=by
 rcases zd30 d with h | h <;> rw [h] <;> decide +kernel
theorem ze42 {d : za6} (h : d.Ok) : (dP d).canLay0 = true /\ (dP d).depth <= 2:=by
 constructor
 ·simp [dP,iy4,ey2,zh0 h.x,zh0 h.y,zh0 h.w,za75]
 ·simp [dP,qy3,fy9]
theorem zb45 : ∀ {ds : List za6},(∀ d∈ds,d.Ok)->ey2 (ds.map dP) = true /\ fy9 (ds.map dP) <= 2
 | [],_=>⟨rfl,by simp [fy9]⟩
 | d :: ds,h=>by
  obtain ⟨h1,h2⟩:=ze42 (h d by5)
  obtain ⟨h3,h4⟩:=zb45 fun e he=>h e (by8 _ he)
  constructor
  ·simp [ey2,h1,h3]
  ·simp only [fy4,fy9]
   omega
theorem zc00 {ds : List za6} (h : ∀ d∈ds,d.Ok) : Dat (rP ds):=by
 obtain ⟨h1,h2⟩:=zb45 h
 constructor
 ·simp [rP,iy4,h1]
 ·simp only [rP,qy3]
  omega
theorem ze43 (d e : za6) : ey0 (dP d) (dP e) = decide (d = e):=by
 obtain ⟨dt,dx,dy,dw⟩:=d
 obtain ⟨et,ex,ey,ew⟩:=e
 simp only [dP,ey0,jy4,Bool.and_true]
 rw [gy4]
 simp only [iy3,beq_iff_eq,decide_eq_true_eq,za6.mk.injEq]
 constructor
 ·rintro ⟨h1,h2,h3,h4⟩
  exact ⟨zd31 (d:=⟨dt,dx,dy,dw⟩) (e:=⟨et,ex,ey,ew⟩) h1,h2,h3,h4⟩
 ·rintro ⟨rfl,rfl,rfl,rfl⟩
  exact ⟨rfl,rfl,rfl,rfl⟩
theorem zb46 : ∀ (ds es : List za6),jy4 (ds.map dP) (es.map dP) = decide (ds = es)
 | [],[]=>by simp [jy4]
 | [],_ :: _=>by simp [jy4]
 | _ :: _,[]=>by simp [jy4]
 | d :: ds,e :: es=>by
  simp only [fy4,jy4,ze43,zb46 ds es]
  rw [gy4]
  simp
theorem zd32 (ds es : List za6) : ey0 (rP ds) (rP es) = decide (ds = es):=by
 simp only [rP,ey0,zb46]
theorem zz9 {α : Type} (xs : List α) (k : Nat) : zx0 xs (some (k : Int)) none = xs.drop k:=by
 unfold zx0
 have e1 : HT.sIx xs.length 0 (some (k : Int)) = min k xs.length:=HT.zT7 xs.length 0 k
 have e2 : HT.sIx xs.length xs.length none = xs.length:=rfl
 rw [e1,e2]
 by_cases h : k <= xs.length
 ·rw [qy1 h,jy0 (by rw [ky1]; exact ay5 _)]
 ·rw [List.drop_eq_nil_of_le (show xs.length <= k by omega),List.drop_eq_nil_of_le (by omega)]
  simp
theorem zW7 {α : Type} (xs : List α) (k : Nat) : zx0 xs none (some (k : Int)) = xs.take k:=by
 unfold zx0
 have e1 : HT.sIx xs.length 0 none = 0:=rfl
 have e2 : HT.sIx xs.length xs.length (some (k : Int)) = min k xs.length:=HT.zT7 xs.length xs.length k
 rw [e1,e2,List.drop_zero,Nat.sub_zero]
 by_cases h : k <= xs.length
 ·rw [qy1 h]
 ·rw [jy0 (by omega),jy0 (by omega)]
theorem zb2 {α : Type} {xs : List α} {k : Nat} {x : α} (h : xs[k]? = some x) : atI xs (k : Int) = some x:=by
 have hk:=(ay0.mp h).1
 unfold atI ixN
 rw [if_pos (by omega),if_pos (by omega)]
 simpa using h
theorem zK1 : ∀ (a b : List Str),jy4 (a.map .str) (b.map .str) = decide (a = b)
 | [],[]=>by simp [jy4]
 | [],_ :: _=>by simp [jy4]
 | _ :: _,[]=>by simp [jy4]
 | d :: ds,e :: es=>by
  simp only [fy4,jy4,zK1 ds es,ey0]
  rw [gy4]
  simp
theorem zK2 : ∀ {ns : List Str},(∀ x∈ns,ry9 x = true)->ey2 (ns.map .str) = true /\ fy9 (ns.map .str) <= 1
 | [],_=>⟨rfl,by simp [fy9]⟩
 | x :: r,h=>by
  obtain ⟨h1,h2⟩:=zK2 fun y hy=>h y (by8 _ hy)
  refine ⟨by simp [ey2,iy4,h1,h x by5],?_⟩
  simp only [fy4,fy9,qy3]
  omega
theorem zK3 {ns : List Str} (h : ∀ x∈ns,ry9 x = true) : Dat (.list (ns.map .str)):=by
 obtain ⟨h1,h2⟩:=zK2 h
 exact ⟨by simp [iy4,h1],by simp only [qy3]; omega⟩
end K1
namespace L2
open PySem PySem.Spec PyProof.Rows
section
variable {κ : Type} [DecidableEq κ]
def zs9 (kvs : List (κ × V)) (k : κ) : Option V:=(kvs.find? fun kv=>decide (kv.1 = k)).map (·.2)
/-- in its place,or at the end -/
def putK (kvs : List (κ × V)) (k : κ) (v : V) : List (κ × V) :=
 if (kvs.any fun kv=>decide (kv.1 = k)) = true then kvs.map (fun kv=>if kv.1 = k then (kv.1,v) else kv) else kvs++[(k,v)]
theorem zp8 {p : κ × V} {r : List (κ × V)} {k : κ} (e : p.1 = k) : zs9 (p :: r) k = some p.2:=by simp [zs9,my4,e]
theorem zp9 {p : κ × V} {r : List (κ × V)} {k : κ} (e : ¬ p.1 = k) : zs9 (p :: r) k = zs9 r k:=by simp [zs9,my4,e]
theorem zA0 (k : κ) : ∀ kvs : List (κ × V),(kvs.any fun kv=>decide (kv.1 = k)) = (zs9 kvs k).isSome
 | []=>rfl
 | p :: r=>by
  rw [qy7]
  by_cases e : p.1 = k
  ·simp only [zp8 e,decide_eq_true e,Bool.true_or,Option.isSome_some]
  ·rw [zp9 e,decide_eq_false e,Bool.false_or]; exact zA0 k r
theorem zu5 (kvs : List (κ × V)) (k : κ) (v : V) : (putK kvs k v).length <= kvs.length + 1:=by
 unfold putK
 split
 ·rw [ay3]; omega
 ·rw [cy5,ry2,List.length_nil]; omega
theorem za76 {kvs : List (κ × V)} {k : κ} (v : V) (h : zs9 kvs k = none) : putK kvs k v = kvs++[(k,v)]:=by
 unfold putK
 rw [zA0,h]
 exact if_neg (by decide)
theorem zx8.zW8 {o : Option V} {u : Option Value} (r : zx8 o u) : o.isSome = u.isSome:=by
 cases o with
 | none=>cases u with
  | none=>rfl
  | some _=>exact (show False from r).elim
 | some _=>cases u with
  | none=>exact (show False from r).elim
  | some _=>rfl
theorem zx8.getD {o : Option V} {u : Option Value} {d : V} {d' : Value} (r : zx8 o u) (rd : RelV d d') : RelV (o.getD d) (u.getD d'):=by
 cases o with
 | none=>cases u with
  | none=>exact rd
  | some _=>exact (show False from r).elim
 | some _=>cases u with
  | none=>exact (show False from r).elim
  | some _=>exact r
/-- raw tables of the same keys -/
theorem KV.val {kvs : List (κ × V)} {vs : List (κ × Value)} (r : KV kvs vs) (k : κ) : zx8 (zs9 kvs k) (valueAt vs k):=by
 unfold KV at r
 induction r with
 | nil=>exact qy6
 | @cons p q ps qs h t ih =>
  obtain ⟨h1,h2⟩:=h
  by_cases e : p.1 = k
  ·have e' : q.1 = k:=h1.symm.trans e
   have b : valueAt (q :: qs) k = some q.2:=by simp [valueAt,my4,e']
   rw [zp8 e,b]; exact h2
  ·have e' : ¬ q.1 = k:=fun z=>e (h1.trans z)
   have b : valueAt (q :: qs) k = valueAt qs k:=by simp [valueAt,my4,e']
   rw [zp9 e,b]; exact ih
theorem KV.any {kvs : List (κ × V)} {vs : List (κ × Value)} (r : KV kvs vs) (k : κ) : (kvs.any fun kv=>decide (kv.1 = k)) = vs.any fun kv=>decide (kv.1 = k):=by
 unfold KV at r
 induction r with
 | nil=>rfl
 | cons h t ih=>rw [qy7,qy7,ih,h.1]
theorem KV.repl {kvs : List (κ × V)} {vs : List (κ × Value)} (r : KV kvs vs) (k : κ) {y : V} {u : Value} (ry : RelV y u) :
  KV (kvs.map fun kv=>if kv.1 = k then (kv.1,y) else kv) (vs.map fun kv=>if kv.1 = k then (kv.1,u) else kv):=by
 unfold KV at r ⊢
 induction r with
 | nil=>exact .nil
 | @cons p q ps qs h t ih =>
  rw [fy4,fy4]
  refine .cons ?_ ih
  obtain ⟨h1,h2⟩:=h
  by_cases e : p.1 = k
  ·rw [if_pos e,if_pos (h1.symm.trans e)]; exact ⟨h1,ry⟩
  ·rw [if_neg e,if_neg (fun z=>e (h1.trans z))]; exact ⟨h1,h2⟩
theorem KV.put {kvs : List (κ × V)} {vs : List (κ × Value)} (r : KV kvs vs) (k : κ) {y : V} {u : Value} (ry : RelV y u) : KV (putK kvs k y) (stored vs k u):=by
 unfold putK stored
 rw [r.any k]
 by_cases e : (vs.any fun kv=>decide (kv.1 = k)) = true
 ·rw [if_pos e,if_pos e]; exact r.repl k ry
 ·rw [if_neg e,if_neg e]; exact Paired.snoc r ⟨rfl,ry⟩
theorem KV.length {kvs : List (κ × V)} {vs : List (κ × Value)} (r : KV kvs vs) : kvs.length = vs.length:=Paired.length r
end
theorem zd33 {P : dy7} {w : World} {k : Key} {u : Value} (r : RelV (kV k) u) : (ze3 P w).is k u = true:=by
 cases k with
 | inl i=>obtain ⟨t,e⟩:=(show ∃ t,u = Value.int i t from r); subst e; exact zF7 P w i t
 | inr x=>obtain ⟨t,e⟩:=(show ∃ t,u = Value.str x t from r); subst e; exact zF8 P w x t
theorem zu6 {P : dy7} {w : World} : ∀ {ks : List Key} {us : List Value},Vals (ks.map kV) us->ItemsAre (ze3 P w) ks us
 | [],_,r=>by rw [List.map_nil] at r; cases r; exact .nil
 | k :: ks,_,r=>by
  rw [fy4] at r
  cases r with
  | cons h t=>exact .cons (zd33 h) (zu6 t)
/-- raw entries of a dict with tuple keys -/
abbrev KT (H : Hp) : List (List Key × V)->List (List Key × Addr × Value)->Prop:=Paired fun p q=>p.1 = q.1 /\ H q.2.1 = some (.tup (p.1.map kV)) /\ RelV p.2 q.2.2
theorem KT.val {H : Hp} {kvs : List (List Key × V)} {xs : List (List Key × Addr × Value)} (r : KT H kvs xs) (k : List Key) : zx8 (zs9 kvs k) ((atKey xs k).map (·.2)):=by
 induction r with
 | nil=>exact qy6
 | @cons p q ps qs h t ih =>
  obtain ⟨h1,_,h2⟩:=h
  by_cases e : p.1 = k
  ·have e' : q.1 = k:=h1.symm.trans e
   have b : atKey (q :: qs) k = some q.2:=by simp [atKey,my4,e']
   rw [zp8 e,b]; exact h2
  ·have e' : ¬ q.1 = k:=fun z=>e (h1.trans z)
   have b : atKey (q :: qs) k = atKey qs k:=by simp [atKey,my4,e']
   rw [zp9 e,b]; exact ih
theorem KT.repl {H : Hp} {kvs : List (List Key × V)} {xs : List (List Key × Addr × Value)} (r : KT H kvs xs) (k : List Key) {y : V} {u : Value} (ry : RelV y u) :
  KT H (kvs.map fun kv=>if kv.1 = k then (kv.1,y) else kv) (xs.map (putAt k u)):=by
 induction r with
 | nil=>exact .nil
 | @cons p q ps qs h t ih =>
  rw [fy4,fy4]
  refine .cons ?_ ih
  obtain ⟨h1,h2,h3⟩:=h
  unfold putAt
  by_cases e : p.1 = k
  ·rw [if_pos e,if_pos (h1.symm.trans e)]; exact ⟨h1,h2,ry⟩
  ·rw [if_neg e,if_neg (fun z=>e (h1.trans z))]; exact ⟨h1,h2,h3⟩
theorem KT.put {H : Hp} {kvs : List (List Key × V)} {xs : List (List Key × Addr × Value)} (r : KT H kvs xs) (k : List Key) {b : Addr} {y : V} {u : Value} (hb : H b = some (.tup (k.map kV))) (ry : RelV y u) :
  KT H (putK kvs k y) (storedH xs k b u):=by
 have e : (kvs.any fun kv=>decide (kv.1 = k)) = (atKey xs k).isSome:=by
  rw [zA0,(r.val k).zW8,Option.isSome_map]
 unfold putK storedH
 rw [e]
 by_cases q : (atKey xs k).isSome = true
 ·rw [if_pos q,if_pos q]; exact r.repl k ry
 ·rw [if_neg q,if_neg q]; exact Paired.snoc r ⟨rfl,hb,ry⟩
theorem KT.keeps {H H' : Hp} {kvs : List (List Key × V)} {xs : List (List Key × Addr × Value)} (r : KT H kvs xs) (ht : ∀ b ys,H b = some (.tup ys)->H' b = some (.tup ys)) : KT H' kvs xs :=
 Paired.mapP r fun _ _ z=>⟨z.1,ht _ _ z.2.1,z.2.2⟩
section
variable {P : dy7} {w : World} {H : Hp} {h : Heap} {a : Addr}
theorem zd34 {u : HO} (ok : HOk P w H h) (e : Rd H a u) : zd2 P w H h a u:=e.ok ok
theorem ze45 {kvs : List (Key × V)} (ok : HOk P w H h) (e : Rd H a (.dK kvs)) : kvs.length <= by0 /\ (a == ly1) = false /\ ∃ vs,KV kvs vs /\ h.DictOf (ze3 P w) a vs :=
 show zd2 P w H h a (.dK kvs) from zd34 ok e
theorem ze46 {kvs : List (Key × V)} (ok : HOk P w H h) (e : H a = some (.dK kvs)) : kvs.length <= by0 /\ (a == ly1) = false /\ ∃ vs,KV kvs vs /\ h.DictOf (ze3 P w) a vs:=ze45 ok (.inl e)
/-- a tracked tuple of ints and texts is a key -/
theorem zb47 {ks : List Key} (ok : HOk P w H h) (e : H a = some (.tup (ks.map kV))) : (tupleKind (ze3 P w)).is h ks a:=by
 obtain ⟨_,its,r,o,h1,h2,n,h3⟩:=(show zd2 P w H h a (.tup (ks.map kV)) from ok a _ e)
 exact ⟨o,its.toArray,n,h1,h2,h3,by simpa using zu6 r⟩
theorem ze47 {kvs : List (List Key × V)} (ok : HOk P w H h) (e : Rd H a (.dT kvs)) : kvs.length <= by0 /\ (a == ly1) = false /\
  ∃ xs,KT H kvs xs /\ h.DictOfH (tupleKind (ze3 P w)) a xs:=by
 obtain ⟨z,y,xs,r,o,es,ep,h1,h2,h3,h4,h5⟩:=(show zd2 P w H h a (.dT kvs) from zd34 ok e)
 refine ⟨z,y,xs,r,o,es,ep,h1,h2,h3,h4,fun x hx=>?_,h5⟩
 have all : ∀ {l : List (List Key × V)} {m : List (List Key × Addr × Value)},KT H l m->∀ x∈m,(tupleKind (ze3 P w)).is h x.1 x.2.1:=by
  intro l m q
  induction q with
  | nil=>intro x hx; exact nomatch hx
  | @cons p q ps qs hq t ih =>
   intro x hx
   rcases cy4.mp hx with e | hx
   ·subst e
    exact zb47 ok (by rw [<- hq.1]; exact hq.2.1)
   ·exact ih x hx
 exact all r x hx
theorem zd35 {kvs : List (List Key × V)} (ok : HOk P w H h) (e : H a = some (.dT kvs)) : kvs.length <= by0 /\ (a == ly1) = false /\
  ∃ xs,KT H kvs xs /\ h.DictOfH (tupleKind (ze3 P w)) a xs:=ze47 ok (.inl e)
end
section
variable {X : Cx} {pins : List (Addr × Obj)} {σ : St} {H : Hp} {s : Shared} {a : Addr} {y v : V} {u r : Value} {o : Option V} {A : Around} {E : Value->Shared->Prop}
/-- a dict's object is replaced -/
theorem zW9 {h' : Heap} {t' : Nat} {ob : HO} (I : Inv X pins σ H s) (mu : Mut (H a)) (hs : hy0 a s.heap h') (he : ∃ q,h'.get? a = some q) (new : zd2 X.prog X.w (upd H a ob) h' a ob) :
  Inv X pins σ (upd H a ob) { s with heap:=h',toks:=t' } :=
 I.write (x:=a) (e:=a) mu (.inl rfl) (fun b q hb z=>(hs.2 b hb).trans z) he new
theorem zd36 {P : dy7} {w : World} {H' : Hp} {h' : Heap} {kvs : List (Key × V)} {vs : List (Key × Value)} (z : kvs.length <= by0) (hd : (a == ly1) = false) (rel : KV kvs vs) (dd : h'.DictOf (ze3 P w) a vs) :
  zd2 P w H' h' a (.dK kvs):=⟨z,hd,vs,rel,dd⟩
end
theorem za77 {P : dy7} {w : World} {H : Hp} (h : Heap) (hb : ly1 < h.objs.size) : zd2 P w H (h.push { cls:=.type "dict",data:=.dict #[] }) h.objs.size (.dT []) :=
 ⟨dy8 _,beq_eq_false_iff_ne.mpr (iy5 (cy7 hb)),[],.nil,_,#[],0,by2 _ rfl,⟨rfl,rfl,rfl⟩,rfl,rfl,List.nodup_nil⟩
/-- {},to be a dict of the kind that is wanted -/
def zd37 : TE:=fun _ H Q=>∀ p,H p = none->Q (.ref p) (upd H p (.dT []))
section
variable {X : Cx} {pos : Pos}
theorem za78 : PE X (.Dict [] [] pos) zd37:=fun pins s σ H Q I h =>
 wpAny_Dict_empty ⟨.ref s.heap.objs.size,_,I.laid (a:=s.heap.objs.size) (o:=.dT []) (t':=s.toks) (fun _ _ q=>ay6 _ q) (ay5 _) (za77 s.heap I.big),rfl,h _ (I.hok.fresh (ay5 _))⟩
end
theorem zo5 {α : Type} {l : List α} {k : α} (h : l.Nodup) (hk : k ∉ l) : (l++[k]).Nodup:=List.nodup_append.mpr ⟨h,by simp,fun x hx y hy e=>hk (by cases cy9.mp hy; exact e ▸ hx)⟩
section
variable {prog : dy7} {w : World} {K : Type} [DecidableEq K] {knd : HeapKind prog w K} {A : Around} {E : Value->Shared->Prop} {s : Shared}
/-- a new pair at the end -/
theorem zO8 {h : Heap} {d a : Addr} {xs : List (K × Addr × Value)} {k : K} {v : Value} (hm : h.DictOfH knd d xs) (hkey : knd.is h k a) (hk : atKey xs k = none) (hk' : k ∉ xs.map (·.1)) :
  (h.update d (Obj.mapDictKeys (·.push ⟨knd.hash k,.ref a,v⟩))).DictOfH knd d (storedH xs k a v):=by
 obtain ⟨ob,ents,n,g1,g2,g3,g4,g5,g6⟩:=hm
 have all : ∀ x∈xs++[(k,a,v)],knd.is h x.1 x.2.1:=fun x hx=>(by9.mp hx).elim (g5 x) fun z=>by cases cy9.mp z; exact hkey
 rw [storedH_new hk]
 refine ⟨_,_,n + 1,my9 _ g1 (Obj.isFreed_of_dict (Obj.data_mapDictKeys g3 _)),g2.mapDictKeys _,Obj.data_mapDictKeys g3 _,by simp [g4,entryOfKey],fun x hx=>knd.keeps (all x hx) g1 g3 (oy7 ..),?_⟩
 rw [fy1]
 exact zo5 g6 hk'
theorem zo6 {d a : Addr} {xs : List (K × Addr × Value)} {k : K} {v : Value} {Q : Value->Shared->Prop} (hu : knd.room A) (hkey : knd.is s.heap k a) (hm : s.heap.DictOfH knd d xs) (hsz : xs.length <= by0)
  (h1 : ∀ p,atKey xs k = some p->Q p.2 { s with toks:=s.toks + knd.draws k })
  (h2 : atKey xs k = none->∀ h',h'.DictOfH knd d (storedH xs k a v)->hy0 d s.heap h'->Q v { s with heap:=h',toks:=s.toks + knd.draws k }) :
  wpAny (model prog w) A (dictSetDefault d (.ref a) v) Q E s:=by
 have hm0:=hm
 obtain ⟨ob,ents,n,g1,g2,g3,g4,g5,g6⟩:=hm
 let s1 : Shared:={ s with toks:=s.toks + knd.draws k }
 unfold dictSetDefault
 refine jy3 (ay1 (knd.pyHash hu hkey (ay1 (wpAny_dictFind_heap (s:=s1) hu hkey g1 g3 g4 g5 g6 (fun no=>?_) fun j p hj=>?_))))
 ·have none_:=atKey_none_of_get no
  have few : ents.size <= by0:=by have:=size_of_entries g4; omega
  exact ay1 (wpAny_rule (ay1 (wpAny_updateDictKeys (hz:=few) (s:=s1) g1 g3 (ay9 (h2 none_ _ (zO8 hm0 hkey none_ (not_mem_keys_of_get no)) (oy7 ..))))))
 ·refine ay1 (wpAny_dictEntries (s:=s1) g1 g3 ?_)
  rw [entry_at g4 j,hj]
  exact ay1 (wpAny_rule (ay9 (h1 p (atKey_of_get g6 hj))))
theorem zr1 (knd : HeapKind prog w K) (d a : Addr) (hd : (d == ly1) = false) (dflt : Value) :
  MeetsIn prog w (Builtin.«dict.setdefault» ⟨[.ref d,.ref a,dflt],[]⟩) (fun A R s=>knd.room A.in1 /\ ∃ k xs,knd.is s.heap k a /\ s.heap.DictOfH knd d xs /\ xs.length <= by0 /\
   (∀ p,atKey xs k = some p->R (.ok (.ret p.2)) { s with toks:=s.toks + knd.draws k }) /\
   (atKey xs k = none->∀ h',h'.DictOfH knd d (storedH xs k a dflt)->hy0 d s.heap h'->R (.ok (.ret dflt)) { s with heap:=h',toks:=s.toks + knd.draws k })) :=
 .of_wp fun A R s ⟨hu,k,xs,hkey,hm,hz,h1,h2⟩=>by
  unfold Builtin.«dict.setdefault»
  refine ay1 ?_
  unfold Builtin.Dict.keyAndDefault
  refine ay1 (wpAny_notOrdered_dict hm.typeIs ?_)
  show wpAny _ _ (pure (d,fy8 a,some dflt)) _ _ s
  refine ay9 ?_
  show wpAny _ _ (if (d == ly1) = true then _ else (dictSetDefault d (.ref a) dflt >>= _)) _ _ s
  rw [if_neg (by rw [hd]; exact cy3)]
  exact ay1 (zo6 hu hkey hm hz (fun p hp=>ay9 ⟨p.2,rfl,h1 p hp⟩) fun hn h' hm' hs'=>ay9 ⟨dflt,rfl,h2 hn h' hm' hs'⟩)
end
section
variable {X : Cx}
theorem zd38 {pins : List (Addr × Obj)} {σ : St} {H : Hp} {s : Shared} {b : Addr} {ks : List Key} (I : Inv X pins σ H s) (e : SqT X.K H b (ks.map kV)) : (tupleKind (ze3 X.prog X.w)).is s.heap ks b:=by
 obtain ⟨its,r,⟨o,h1,h2,n,h3⟩,_⟩:=I.tuple e
 exact ⟨o,its.toArray,n,h1,h2,h3,by simpa using zu6 r⟩
theorem za79 (hu : X.A.units + 1 < cLine) : MtR X "dict.get" (fun x ys H Q=>∃ a kvs k b d,x = .ref a /\ ys = [.ref b,d] /\ H a = some (.dT kvs) /\ SqT X.K H b (k.map kV) /\ Q ((zs9 kvs k).getD d) H):=by
 intro pins s σ H x ys v us Q I rx rs h
 obtain ⟨a,kvs,k,b,d,rfl,rfl,e,eb,q⟩:=h
 obtain ⟨u,r,rfl,ru,rd⟩:=rs.two
 cases (show v = fy8 a from rx)
 cases (show u = fy8 b from ru)
 obtain ⟨z,hd,xs,rel,dd⟩:=zd35 I.hok e
 exact call_meetsIn PySem.F.slot_dict_get dd.typeIs PySem.F.entry_dict_get (PySem.F.args_dict_get_3 _ _ _) (meetsH_dict_get_default (tupleKind (ze3 X.prog X.w)) a b hd r) ⟨tupleKind_room_in1 hu,k,xs,zd38 I eb,dd,_,H,I.tok _,(rel.val k).getD rd,q⟩
theorem zO9 (hu : X.A.units + 1 < cLine) : MtR X "dict.setdefault" (fun x ys H Q=>∃ a kvs k b d,x = .ref a /\ ys = [.ref b,d] /\ H a = some (.dT kvs) /\ H b = some (.tup (k.map kV)) /\
  (∀ v,zs9 kvs k = some v->Q v H) /\ (zs9 kvs k = none->kvs.length < by0 /\ Q d (upd H a (.dT (putK kvs k d))))):=by
 intro pins s σ H x ys v us Q I rx rs h
 obtain ⟨a,kvs,k,b,d,rfl,rfl,e,eb,q1,q2⟩:=h
 obtain ⟨u,r,rfl,ru,rd⟩:=rs.two
 cases (show v = fy8 a from rx)
 cases (show u = fy8 b from ru)
 obtain ⟨z,hd,xs,rel,dd⟩:=zd35 I.hok e
 have hz : xs.length <= by0:=by rw [<- Paired.length rel]; exact z
 refine call_meetsIn jy6 dd.typeIs PySem.F.entry_dict_setdefault (PySem.F.args_dict_setdefault_3 _ _ _) (zr1 (tupleKind (ze3 X.prog X.w)) a b hd r) ⟨tupleKind_room_in1 hu,k,xs,zb47 I.hok eb,dd,hz,fun p hp=>?_,fun hn h' dd' hs=>?_⟩
 ·have rv:=rel.val k
  rw [hp] at rv
  cases hv : zs9 kvs k with
  | none =>
   rw [hv] at rv
   cases zx8.none_of rv
  | some v =>
   rw [hv] at rv
   obtain ⟨w',hw,rw'⟩:=zx8.some_of rv
   cases hw
   exact ⟨v,H,I.tok _,rw',q1 v hv⟩
 ·have hnv : zs9 kvs k = none:=by
   have rv:=rel.val k
   rw [hn] at rv
   cases hv : zs9 kvs k with
   | none=>rfl
   | some v =>
    rw [hv] at rv
    obtain ⟨w',hw,_⟩:=zx8.some_of rv
    cases hw
  obtain ⟨hl,q⟩:=q2 hnv
  have hl' : (putK kvs k d).length <= by0:=by have:=zu5 kvs k d; omega
  refine ⟨d,_,?_,rd,q⟩
  obtain ⟨q',es,ep,hq,h2,h3,h4,_,h5⟩:=dd'
  refine zW9 I (by rw [e]; exact qy6) hs ⟨q',hq⟩ ⟨hl',hd,_,(rel.put k eb rd).keeps fun c ys ec=>?_,q',es,ep,hq,h2,h3,h4,h5⟩
  rw [zb3 (zN0 ec e (fun z=>nomatch z))]
  exact ec
end
def keyD : Key->PyData
 | .inl i=>.int i
 | .inr x=>.str x
abbrev tupK (ks : List Key) : PyData:=.tuple (ks.map keyD)
theorem zA1 {K : ay2} {F : Hp} : ∀ {ks : List Key} {vs : List V},Paired (fun d v=>Rq K F v d) (ks.map keyD) vs->vs = ks.map kV
 | [],_,.nil=>rfl
 | .inl i :: ks,_,.cons h t=>by rw [Rq.zd4 h,zA1 t]; rfl
 | .inr x :: ks,_,.cons h t=>by rw [Rq.zg1 h,zA1 t]; rfl
theorem Rq.zd39 {K : ay2} {F : Hp} {ks : List Key} {v : V} (r : Rq K F v (tupK ks)) : ∃ b,v = .ref b /\ SqT K F b (ks.map kV):=by
 obtain ⟨b,vs,rfl,h,p⟩:=Rq.zi7 r
 cases zA1 p
 exact ⟨b,rfl,h⟩
def zP0 (kvs : List (List Key × El)) (k : List Key) : Option El:=(kvs.find? fun kv=>decide (kv.1 = k)).map (·.2)
abbrev PKV (K : ay2) (F : Hp) (A : List Addr) : List (List Key × El)->List (List Key × V)->Prop:=Paired fun p q=>p.1 = q.1 /\ ElR K F A p.2 q.2
section
variable {K : ay2} {F : Hp} {A : List Addr}
theorem zA2 {k : List Key} : ∀ {kvs : List (List Key × El)} {vs : List (List Key × V)},PKV K F A kvs vs->(zP0 kvs k = none /\ zs9 vs k = none) \/ ∃ e v,zP0 kvs k = some e /\ zs9 vs k = some v /\ ElR K F A e v
 | [],_,.nil=>.inl ⟨rfl,rfl⟩
 | (a,e) :: kvs,_,.cons (b:=(b,v)) ⟨hk,he⟩ t=>by
  have hk : a = b:=hk
  subst hk
  by_cases h : a = k
  ·refine .inr ⟨e,v,?_,?_,he⟩
   ·simp [zP0,h]
   ·exact zp8 h
  ·have e1 : zP0 ((a,e) :: kvs) k = zP0 kvs k:=by simp [zP0,h]
   rw [e1,zp9 (show ¬ (a,v).1 = k from h)]
   exact zA2 t
theorem za81 {kvs : List (List Key × El)} {vs : List (List Key × V)} (h : PKV K F A kvs vs) (k : List Key) {e : El} {v : V} (he : ElR K F A e v) : PKV K F A (kvs++[(k,e)]) (vs++[(k,v)]):=zo1 h (.cons ⟨rfl,he⟩ .nil)
end
section
variable {X : Bc} {S : Sl} {W : Wl} {k : KB}
theorem RW.atT {F : Hp} {A : List Addr} {H : Hp} (r : RW X.K F A W H) {j : Nat} {v : V} (z : ElR X.K F A (.o j) v) {kvs : List (List Key × El)} (hj : W[j]? = some (.dT kvs)) : ∃ a vs,v = .ref a /\ A[j]? = some a /\ H a = some (.dT vs) /\ PKV X.K F A kvs vs:=by
 obtain ⟨a,ha,rfl⟩:=z
 obtain ⟨h,e,vs,rfl,p⟩:=r.obj j a _ ha hj
 exact ⟨a,vs,rfl,ha,e,p⟩
/-- a key is made -/
theorem zc01 {es : List Expr} {x1} {pos : Pos} (h : BA X S W es fun as W1=>∃ ks,as = zb4 (ks.map keyD) /\ ks.length <= by0 /\ k (.p ks) W1) : BE X S W (.Tuple es x1 pos) k :=
 .of (zT5 zR2) fun F A σ H Q x0 r sr q=>h.use x0 r sr fun F1 A1 W1 H1 as vs e1 r1 z1 ⟨ks,hd,hl,h1⟩=>by
  subst hd
  cases zA1 (zi1 z1)
  refine ⟨by rw [ay3]; exact hl,fun p hp=>?_⟩
  obtain ⟨r',x⟩:=r1.newF hp (.tup (ks.map kV))
  exact (q.ext e1) _ _ _ _ (.p ks) _ x r' ⟨p,rfl,zc4⟩ h1
/-- {} -/
theorem zK4 {pos : Pos} (h : k (.o W.length) (W++[.dT []])) : BE X S W (.Dict [] [] pos) k :=
 .of za78 fun F A σ H Q x0 r sr q=>fun p hp=>q.newO r hp (o:=.dT []) ⟨[],rfl,.nil⟩ h
/-- d.get(key,y) -/
theorem za82 {j : Nat} {kvs : List (List Key × El)} {ks : List Key} {y : El} (hu : X.A.units + 64 < cLine) (hj : W[j]? = some (.dT kvs)) (h : k ((zP0 kvs ks).getD y) W) : MB X "dict" "dict.get" (.o j) [.d (tupK ks),y] W k:=.of (za79 (by omega)) fun F A H Q v vs r zx z q=>by
 obtain ⟨a,ws,rfl,ha,hH,p⟩:=r.atT zx hj
 obtain ⟨u,u',rfl,zu,zu'⟩:=zu3 z
 obtain ⟨b,rfl,hb⟩:=Rq.zd39 zu
 refine ⟨a,ws,ks,b,u',rfl,rfl,hH,r.sub.zw8 hb,?_⟩
 rcases zA2 (k:=ks) p with ⟨e1,e2⟩ | ⟨e,v,e1,e2,he⟩
 ·rw [e1] at h
  rw [e2]
  exact q.same r zu' h
 ·rw [e1] at h
  rw [e2]
  exact q.same r he h
/-- d.setdefault(key,y) -/
theorem zx4 {j : Nat} {kvs : List (List Key × El)} {ks : List Key} {y : El} (hu : X.A.units + 64 < cLine) (hj : W[j]? = some (.dT kvs)) (h1 : ∀ e,zP0 kvs ks = some e->k e W) (h2 : zP0 kvs ks = none->kvs.length < by0 /\ k y (W.set j (.dT (kvs++[(ks,y)])))) :
  MB X "dict" "dict.setdefault" (.o j) [.p ks,y] W k:=.of (zO9 (by omega)) fun F A H Q v vs r zx z q=>by
 obtain ⟨a,ws,rfl,ha,hH,p⟩:=r.atT zx hj
 obtain ⟨u,u',rfl,zu,zu'⟩:=zu3 z
 obtain ⟨b,rfl,hb⟩:=zu
 refine ⟨a,ws,ks,b,u',rfl,rfl,hH,r.sub _ _ hb,fun v hv=>?_,fun hv=>?_⟩
 ·rcases zA2 (k:=ks) p with ⟨e1,e2⟩ | ⟨e,v',e1,e2,he⟩
  ·rw [hv] at e2
   cases e2
  ·rw [hv] at e2
   cases e2
   exact q.same r he (h1 e e1)
 ·rcases zA2 (k:=ks) p with ⟨e1,e2⟩ | ⟨e,v',e1,e2,he⟩
  ·obtain ⟨hl,hk⟩:=h2 e1
   refine ⟨by rw [<- zb6 p]; exact hl,?_⟩
   rw [za76 u' e2]
   exact q.put r ha (o:=.dT (kvs++[(ks,y)])) ⟨_,rfl,za81 p ks zu'⟩ zu' hk
  ·rw [hv] at e2
   cases e2
end
def tUGs (X : Bc) (es : List Expr) : TGs:=fun vs σ H Q=>∃ t,PGs X es t /\ t vs σ H Q
section
variable {X : Bc} {S : Sl} {W : Wl} {k : KB}
theorem zd40 {es : List Expr} : PGs X es (tUGs X es):=fun pins s σ H vs us Q I r ⟨t,h,q⟩=>h pins s σ H vs us Q I r q
def BGs (X : Bc) (S : Sl) (W : Wl) (es : List Expr) (xs : List El) (k : Sl->Wl->Prop) : Prop:=∀ F A σ H vs (Q : St->Hp->Prop),X.Am F A->RW X.K F A W H->SR X.K F A S σ->Paired (ElR X.K F A) xs vs ->
 (∀ F' A' W' H' S' σ',Ext F A F' A'->RW X.K F' A' W' H'->SR X.K F' A' S' σ'->k S' W'->Q σ' H')->tUGs X es vs σ H Q
theorem zc02 {k : Sl->Wl->Prop} (h : k S W) : BGs X S W [] [] k:=fun F A σ H vs Q x0 r sr z q=>by
 cases z
 exact ⟨gNil,zS2,rfl,q F A W H S σ .refl r sr h⟩
theorem zK5 {t : Expr} {ts : List Expr} {e : El} {xs : List El} {k : Sl->Wl->Prop} (h : BG X S W t e fun S' W'=>BGs X S' W' ts xs k)
  (hs : (ky0 (t :: ts) X.env).map (·.2) = assign t X.env :: (ky0 ts X.env).map (·.2):=by rfl) : BGs X S W (t :: ts) (e :: xs) k:=fun F A σ H vs Q x0 r sr z q=>by
 cases z with
 | @cons _ v _ vs z zs =>
  exact ⟨zb67 (tUG X t) (tUGs X ts),zJ0 pg_U zd40 hs,v,vs,rfl,h F A σ H v _ x0 r sr z fun F' A' W' H' S' σ' e1 r' sr' h' =>
   h' F' A' σ' H' vs Q (x0.trans e1) r' sr' (zf4 (fun _ _ y=>y.ext e1) zs) fun F2 A2 W2 H2 S2 σ2 e2 r2 sr2 h2=>q F2 A2 W2 H2 S2 σ2 (e1.trans e2) r2 sr2 h2⟩
theorem zc03 {es : List Expr} {c : Nat} {pos : Pos} {ds : List PyData} {k : Sl->Wl->Prop} (hc : X.calm = true) (h : BGs X S W es (zb4 ds) k)
  (hn : (ky0 es X.env).length = ds.length:=by rfl) (hst : (ky0 es X.env).findIdx? (·.1) = none:=by rfl) : BG X S W (.Tuple es c pos) (.d (.tuple ds)) k :=
 fun F A σ H v Q x0 r sr z q=>by
  obtain ⟨a,vs,rfl,hs,p⟩:=Rq.zi7 z
  exact ⟨_,zS3 hc zd40 hn hst,a,vs,rfl,r.sub.zw8 hs,(zb6 p).symm,h F A σ H vs Q x0 r sr (zp5 p) q⟩
theorem zX0 {i j : Int} (hc : X.calm = true) (h : k (.d (.int (if j > i then j else i))) W) : CB X (.builtin "max") [.d (.int i),.d (.int j)] W k:=.of (zT1 hc) fun F A H Q vs r zs q=>by
 obtain ⟨u,u',rfl,zu,zu'⟩:=zu3 zs
 obtain rfl:=Rq.zd4 zu
 obtain rfl:=Rq.zd4 zu'
 exact ⟨i,j,rfl,q.same r (.dd (Rq.int _)) h⟩
theorem zc04 {i j : Int} (hc : X.calm = true) (h : k (.d (.int (if j < i then j else i))) W) : CB X (.builtin "min") [.d (.int i),.d (.int j)] W k:=.of (zT2 hc) fun F A H Q vs r zs q=>by
 obtain ⟨u,u',rfl,zu,zu'⟩:=zu3 zs
 obtain rfl:=Rq.zd4 zu
 obtain rfl:=Rq.zd4 zu'
 exact ⟨i,j,rfl,q.same r (.dd (Rq.int _)) h⟩
theorem zc05 {z : Str} {n : Nat} (h1 : 1 <= n) (h2 : n <= 1000) (hz : z.length <= 1000) (h : ∀ y,(n ≠ 1->z.length ≠ 0->y = repS z n)->(n = 1->y = z)->(z.length = 0->y = z)->k (.d (.str y)) W) : OB X (jy5 .Mult) (.d (.str z)) (.d (.int n)) W k:=.of zb81 fun F A H Q vx vy r zx zy q=>by
 obtain rfl:=Rq.zg1 zx
 obtain rfl:=Rq.zd4 zy
 refine ⟨z,n,rfl,rfl,h1,h2,hz,fun a b=>?_,fun a=>?_,fun a=>?_⟩
 ·exact q.same r (.dd (Rq.str _)) (h _ (fun _ _=>rfl) (fun e=>absurd e a) fun e=>absurd e b)
 ·exact q.same r (.dd (Rq.str _)) (h z (fun e=>absurd a e) (fun _=>rfl) fun _=>rfl)
 ·exact q.same r (.dd (Rq.str _)) (h z (fun _ e=>absurd a e) (fun _=>rfl) fun _=>rfl)
end
section
variable {prog : dy7} {w : World} {A : Around} {E : Value->Shared->Prop} {s : Shared}
theorem zP1 {it t : Addr} {i : Nat} {xs : Array Value} {x : Value} {Q : Value->Shared->Prop} (st : s.heap.IsTupleIter it t i) (tp : s.heap.IsTuple t xs) (hx : xs[i]? = some x)
  (q : ∀ g,g.IsTupleIter it t (i + 1)->hy0 it s.heap g->Q x { s with heap:=g }) : wpAny (model prog w) A (ny4 (.ref it)) Q E s:=by
 have ty:=st.typeIs
 obtain ⟨oi,gi,ci,di⟩:=st
 obtain ⟨ot,gt,ct,nt,dt⟩:=tp
 unfold Builtin.SmallTypes.nextOf
 refine ay1 (hy3 (name:=py9 "__next__") ty ky3 (hy5 ky3 ty PySem.F.entry_tuple_iterator_next ?_ (PySem.F.args_tuple_iterator_next_1 _)))
 show wpAny _ _ (field (.ref it) 0 >>= _) _ _ s
 refine ay1 (iy8 gi di (x:=.ref t) rfl ?_)
 show wpAny _ _ (if (fy8 t == fy3) = true then _ else _) _ _ s
 rw [if_neg (show ¬ ((fy8 t == fy3) = true) by simp)]
 show wpAny _ _ (field (.ref it) 1 >>= _) _ _ s
 refine ay1 (iy8 gi di (x:=.int i 0) rfl ?_)
 show wpAny _ _ (seqItems? (.ref t) >>= _) _ _ s
 refine ay1 (wpAny_seqItems gt dt ?_)
 simp only [hy1,hx]
 exact ay1 (wpAny_setField gi di (by simp) (ay9 ⟨x,rfl,ay9 (q _ ⟨_,my9 _ gi (Obj.isFreed_of_fields (ny1 di _)),(Obj.cls_mapFields ..).trans ci,by
  rw [ny1 di]; simp [rawInt]⟩ (oy7 ..))⟩))
theorem zP2 {e it t : Addr} {i : Nat} {xs : Array Value} {x old : Value} {Q : Option Value->Shared->Prop} (he : IsEnum s.heap e it i old) (st : s.heap.IsTupleIter it t i) (tp : s.heap.IsTuple t xs) (hx : xs[i]? = some x) (hne : e ≠ it)
  (q : ∀ g,IsEnumOut g e it ((i : Int) + 1) x s.heap.objs.size->g.IsTupleIter it t (i + 1)->g.get? s.heap.objs.size = some { cls:=.type "tuple",data:=.seq #[.int i s.toks,x] } ->
   (∀ b o,b ≠ e->b ≠ it->s.heap.get? b = some o->g.get? b = some o)->Q (some (.ref s.heap.objs.size)) { s with heap:=g,toks:=s.toks + 1 }) : wpAny (model prog w) A (pyNext (.ref e)) Q E s:=by
 obtain ⟨hp,gn,dw,tk,os⟩:=s
 have ty : Shared.TypeIs ⟨hp,gn,dw,tk,os⟩ (.ref e) "enumerate" := ⟨_,he,rfl⟩
 have hel : e < hp.objs.size:=cy1 he
 unfold pyNext
 refine ay1 (wpAny_attempt (hy3 (name:=py9 "__next__") ty my5 (hy5 my5 ty PySem.F.entry_enumerate_next ?_ (PySem.F.args_enumerate_next_1 _))))
 show wpAny _ _ (field (.ref e) 2 >>= _) _ _ _
 refine ay1 (iy8 he rfl (x:=.ref it) rfl (ay1 (zP1 st tp hx fun g1 st1 sb1=>?_)))
 have sb1 : hy0 it hp g1:=sb1
 have e1 : IsEnum g1 e it i old:=(sb1.2 e hne).trans he
 show wpAny _ _ (field (.ref e) 3 >>= _) _ _ ⟨g1,gn,dw,tk,os⟩
 refine ay1 (iy8 e1 rfl (x:=rawInt i) rfl ?_)
 show wpAny _ _ (field (.ref e) 4 >>= _) _ _ ⟨g1,gn,dw,tk,os⟩
 refine ay1 (iy8 e1 rfl (x:=.none) rfl ?_)
 show wpAny _ _ (mkInt i >>= _) _ _ ⟨g1,gn,dw,tk,os⟩
 refine ay1 (wpAny_mkInt ?_)
 show wpAny _ _ (setField (.ref e) 3 (rawInt ((i : Int) + 1)) >>= _) _ _ ⟨g1,gn,dw,tk + 1,os⟩
 refine ay1 (py6 e1 (by simp) fun g2 (e2 : IsEnum g2 e it ((i : Int) + 1) old) (sb2 : hy0 e g1 g2)=>?_)
 show wpAny _ _ (setField (.ref e) 4 .none >>= _) _ _ ⟨g2,gn,dw,tk + 1,os⟩
 refine ay1 (py6 e2 (by simp) fun g3 (e3 : IsEnum g3 e it ((i : Int) + 1) old) (sb3 : hy0 e g2 g3)=>?_)
 show wpAny _ _ (newTuple [.int i tk,x] >>= _) _ _ ⟨g3,gn,dw,tk + 1,os⟩
 refine ay1 (wpAny_newTuple ?_)
 have z3 : g3.objs.size = hp.objs.size:=by rw [sb3.1,sb2.1,sb1.1]
 let tO : Obj:={ cls:=.type "tuple",data:=.seq #[.int i tk,x] }
 have e4 : IsEnum (g3.push tO) e it ((i : Int) + 1) old:=ay6 _ e3
 have t4 : (g3.push tO).get? hp.objs.size = some tO:=by rw [<- z3]; exact by2 _ rfl
 have k4 : ∀ b o,b ≠ e->b ≠ it->hp.get? b = some o->(g3.push tO).get? b = some o:=fun b o be bi hb=>ay6 _ ((sb3.2 b be).trans ((sb2.2 b be).trans ((sb1.2 b bi).trans hb)))
 have s4 : (g3.push tO).IsTupleIter it t (i + 1):=by
  obtain ⟨o,g,r⟩:=st1
  exact ⟨o,ay6 _ ((sb3.2 it (iy5 hne)).trans ((sb2.2 it (iy5 hne)).trans g)),r⟩
 show wpAny _ _ (ry7 (.ref e) >>= _) _ _ ⟨g3.push tO,gn,dw,tk + 1,os⟩
 rw [z3]
 generalize g3.push tO = g4 at e4 t4 k4 s4
 have ft : ∀ {g g' : Heap},hy0 e g g'->∀ b o,b ≠ e->g.get? b = some o->g'.get? b = some o:=fun sb b o be hb=>(sb.2 b be).trans hb
 refine ay1 ?_
 unfold Builtin.SmallTypes.ownedTupleIsFree
 refine ay1 (iy8 e4 rfl (x:=.none) rfl (ay9 ?_))
 simp only [if_true]
 refine ay1 (wpAny_rule (ay1 (iy8 e4 rfl (x:=old) rfl (ay1 (py6 e4 (by simp) fun g5 (e5 : IsEnum g5 e it ((i : Int) + 1) x) (sb5 : hy0 e g4 g5)=>?_)))))
 show wpAny _ _ (ry1 (.ref e) (.ref hp.objs.size) >>= _) _ _ ⟨g5,gn,dw,tk + 1,os⟩
 refine ay1 ?_
 unfold Builtin.SmallTypes.ownedTupleHandOut
 refine ay1 (py6 e5 (by simp) fun g6 (e6 : IsEnumOut g6 e it ((i : Int) + 1) x hp.objs.size) (sb6 : hy0 e g5 g6)=>?_)
 refine py6 e6 (by simp) fun g7 (e7 : IsEnumOut g7 e it ((i : Int) + 1) x hp.objs.size) (sb7 : hy0 e g6 g7)=>?_
 have all : ∀ b o,b ≠ e->g4.get? b = some o->g7.get? b = some o:=fun b o be hb=>ft sb7 b o be (ft sb6 b o be (ft sb5 b o be hb))
 refine ay1 (wpAny_letGo (ay9 ⟨_,rfl,ay9 (q g7 e7 ?_ (all _ _ (my1 hel) t4) fun b o be bi hb=>all b o be (k4 b o be bi hb))⟩))
 obtain ⟨o,g,r⟩:=s4
 exact ⟨o,all it o (iy5 hne) g,r⟩
theorem zA3 {it t : Addr} {i : Nat} {xs : Array Value} {Q : Value->Shared->Prop} (hh : A.handled = none) (st : s.heap.IsTupleIter it t i) (tp : s.heap.IsTuple t xs) (hx : xs[i]? = none)
  (q : ∀ g x,Heap.ExtBut it s.heap g->(∃ o,g.get? x = some o /\ o.cls = .type "StopIteration")->E (.ref x) { s with heap:=g }) : wpAny (model prog w) A (ny4 (.ref it)) Q E s:=by
 have ty:=st.typeIs
 obtain ⟨oi,gi,ci,di⟩:=st
 obtain ⟨ot,gt,ct,nt,dt⟩:=tp
 unfold Builtin.SmallTypes.nextOf
 refine ay1 (hy3 (name:=py9 "__next__") ty ky3 (hy5 ky3 ty PySem.F.entry_tuple_iterator_next ?_ (PySem.F.args_tuple_iterator_next_1 _)))
 show wpAny _ _ (field (.ref it) 0 >>= _) _ _ s
 refine ay1 (iy8 gi di (x:=.ref t) rfl ?_)
 show wpAny _ _ (if (fy8 t == fy3) = true then _ else _) _ _ s
 rw [if_neg (show ¬ ((fy8 t == fy3) = true) by simp)]
 show wpAny _ _ (field (.ref it) 1 >>= _) _ _ s
 refine ay1 (iy8 gi di (x:=.int i 0) rfl ?_)
 show wpAny _ _ (seqItems? (.ref t) >>= _) _ _ s
 refine ay1 (wpAny_seqItems gt dt ?_)
 simp only [hy1,hx]
 refine ay1 (wpAny_rule (ay1 (wpAny_setField gi di (by simp) ?_)))
 show wpAny _ _ (newExc (.type "StopIteration") [] >>= _) _ _ _
 refine ay1 ?_
 simp only [newExc,newTuple]
 refine ay1 (gy3 (ay1 (m:=firstArgMember _ _) (wpAny_of_eq (a:=fy3) (by first | rfl | (simp only [firstArgMember]; rfl)) (gy3 ?_ (by size_fits)))) (by size_fits))
 simp only [raiseNew]
 refine ay1 (wpAny_handled ?_)
 first | rw [show A.in1.handled = none from hh] | rw [hh]
 exact ay1 (ay9 (wpAny_throw (q _ _ (((oy7 ..).extBut.push _).push _) ⟨_,by2 _ rfl,rfl⟩)))
theorem zX1 {e it t : Addr} {i : Nat} {xs : Array Value} {old : Value} {Q : Option Value->Shared->Prop} (hh : A.handled = none) (he : IsEnum s.heap e it i old) (st : s.heap.IsTupleIter it t i) (tp : s.heap.IsTuple t xs) (hx : xs[i]? = none)
  (q : ∀ g,Heap.ExtBut it s.heap g->Q none { s with heap:=g }) : wpAny (model prog w) A (pyNext (.ref e)) Q E s:=by
 have ty : s.TypeIs (.ref e) "enumerate" := ⟨_,he,rfl⟩
 unfold pyNext
 refine ay1 (wpAny_attempt (hy3 (name:=py9 "__next__") ty my5 (hy5 my5 ty PySem.F.entry_enumerate_next ?_ (PySem.F.args_enumerate_next_1 _))))
 show wpAny _ _ (field (.ref e) 2 >>= _) _ _ _
 refine ay1 (iy8 he rfl (x:=.ref it) rfl (ay1 (zA3 hh st tp hx fun g x eb ⟨o,ho,hc⟩=>?_)))
 exact ay1 (wpAny_isInstance (T := "StopIteration") (b:=true) ⟨o,ho,hc⟩ isSubtype_stop (ay9 (q _ eb)))
end
open AutoSeq1 (wpAny_loadPart') in
/-- enumerate(t) -/
theorem zH1 (t : Addr) (o : Obj) (xs : Array Value) (n : Nat) (hc : o.cls = .type "tuple") (hd : o.data = .seq xs n) :
  Meets (Builtin.«enumerate.__new__» ⟨[.type "enumerate",.ref t],[]⟩) (fun _ R s=>s.heap.get? t = some o /\
   R (.ok (.ret (.ref (s.heap.push { cls:=.type "tuple_iterator",data:=.fields #[.ref t,.int 0 0] }).objs.size)))
    { s with heap:=(s.heap.push { cls:=.type "tuple_iterator",data:=.fields #[.ref t,.int 0 0] }).push { cls:=.type "enumerate",data:=.fields #[.none,.bool false,.ref s.heap.objs.size,rawInt 0,.none,.none] } }) :=
 .of_wp fun prog w A R s h=>by
  obtain ⟨hp,g,d,tk,os⟩:=s
  obtain ⟨ht,h⟩:=h
  have hsub:=sub_enumerate
  have tp : Heap.IsTuple (Shared.heap ⟨hp,g,d,tk,os⟩) t xs:=⟨o,ht,hc,n,hd⟩
  wp_walk using jy2 ht
  refine wpAny_stack_any fun st=>ay9 ?_
  split
  ·rename_i c _ _ _ _ _
   cases (c == Value.type "enumerate")
   ·wp_walk using jy2 ht,py4 tp
    exact ⟨_,rfl,h⟩
   ·wp_walk using jy2 ht,py4 tp
    exact ⟨_,rfl,h⟩
  ·wp_walk using jy2 ht,py4 tp
   exact ⟨_,rfl,h⟩
section
variable {prog : dy7} {w : World} {A : Around} {E : Value->Shared->Prop} {s : Shared}
abbrev itO (t : Addr) : Obj:={ cls:=.type "tuple_iterator",data:=.fields #[.ref t,.int 0 0] }
abbrev enO (it : Addr) : Obj:={ cls:=.type "enumerate",data:=.fields #[.none,.bool false,.ref it,rawInt 0,.none,.none] }
theorem zP3 {t : Addr} {xs : Array Value} {Q : Value->Shared->Prop} (tp : s.heap.IsTuple t xs)
  (h : IsEnum ((s.heap.push (itO t)).push (enO s.heap.objs.size)) (s.heap.objs.size + 1) s.heap.objs.size 0 .none->Q (.ref (s.heap.objs.size + 1)) { s with heap:=(s.heap.push (itO t)).push (enO s.heap.objs.size) }) :
  wpAny (model prog w) A (call (.type "enumerate") [.ref t]) Q E s:=by
 obtain ⟨o,ht,hc,n,hd⟩:=tp
 have z : (s.heap.push (itO t)).objs.size = s.heap.objs.size + 1:=ry0 ..
 have made:=by2 (s.heap.push (itO t)) (o:=enO s.heap.objs.size) rfl
 rw [z] at made
 refine callType_new PySem.F.called_enumerate (by decide) (PySem.F.typeCall_enumerate_1 _) (PySem.F.newCall_enumerate_1 _) (fun obj=>PySem.F.args_object_init_2 obj _) PySem.F.entry_enumerate_new (zH1 t o xs n hc hd) ⟨ht,?_⟩
 show _ /\ _
 rw [z]
 exact ⟨⟨_,made,rfl⟩,h made⟩
end
/-- (0,x0),(1,x1),.. of a tuple -/
def Ite (K : ay2) (a : Addr) : It :=
 ⟨fun i H=>∃ xs x,SqT K H a xs /\ xs[i]? = some x,fun i H y H'=>∃ p x,y = .ref p /\ H p = none /\ H' = upd H p (.tup [.int i,x]) /\ ∀ xs,SqT K H a xs->xs[i]? = some x,fun i H=>∃ xs,SqT K H a xs /\ xs.length <= i⟩
theorem zP4 {P : dy7} {w : World} {K : ay2} {elts : List Expr} {c : Nat} {tp : Pos} (a e it : Addr) (hne : e ≠ it) :
  Turn P w K (.Tuple elts c tp) (Ite K a) [e,it] e (fun i h=>(∃ old,IsEnum h e it i old) /\ h.IsTupleIter it a i) where
 mem:=by simp
 obj:=fun i h ⟨⟨old,he⟩,o,g,_,d⟩ b hb=>by
  rcases cy4.mp hb with rfl | hb
  ·exact ⟨_,he,fun v z=>by cases z⟩
  ·cases cy9.mp hb
   exact ⟨o,g,fun v z=>by rw [d] at z; cases z⟩
 keep:=fun i h h' ⟨⟨old,he⟩,o,g,r⟩ k=>⟨⟨old,k e (by simp) _ he⟩,o,k it (by simp) o g,r⟩
 item:=by
  intro X hP hw hK hc i pins s σ H E I hf ⟨⟨old,he⟩,st⟩ hg
  subst hP hw hK
  obtain ⟨xs,x,hq,hx⟩:=hg
  obtain ⟨its,rv,p,hz⟩:=I.tuple hq
  obtain ⟨u,hu,ru⟩:=rv.get hx
  have fe:=hf e (by simp)
  have fi:=hf it (by simp)
  have nn : H s.heap.objs.size = none:=I.hok.fresh (ay5 _)
  refine zP2 he st (show s.heap.IsTuple a its.toArray from p) (x:=u) (by simpa using hu) hne fun g eo st' t' kp=>?_
  refine ⟨_,rfl,wpAny_letOwnedTupleGo_enum eo fun g2 e2 sb=>?_⟩
  have sb : hy0 e g g2:=sb
  have hel : s.heap.objs.size ≠ e:=my1 (cy1 he)
  have k2 : ∀ b o,b ≠ e->b ≠ it->s.heap.get? b = some o->g2.get? b = some o:=fun b o be bi hb=>(sb.2 b be).trans (kp b o be bi hb)
  have tracked : ∀ b u,H b = some u->b ≠ e /\ b ≠ it:=fun b u hb=>⟨zb1 hb fe.1,zb1 hb fi.1⟩
  have t2 : g2.get? s.heap.objs.size = some { cls:=.type "tuple",data:=.seq #[.int i s.toks,u] }:=(sb.2 _ hel).trans t'
  have st2 : g2.IsTupleIter it a (i + 1):=by
   obtain ⟨o,go,r⟩:=st'
   exact ⟨o,(sb.2 it (iy5 hne)).trans go,r⟩
  refine ⟨.ref s.heap.objs.size,upd H s.heap.objs.size (.tup [.int i,x]),I.za43 (ch:=[e,it]) rfl ⟨fun b o q n hb hx=>?_,fun b o q n hb hx=>?_,fun b o q n hx=>?_,fun b o q hx=>?_,fun b ys q=>?_,fun b o v q=>?_,fun b ps q=>?_⟩ (fun b v q=>?_) I.bare (fun b hb=>?_),rfl,⟨_,x,rfl,nn,rfl,fun ys hy=>by rw [I.zC4 hy hq]; exact hx⟩,⟨⟨u,e2⟩,st2⟩,fun b hb=>?_⟩
  ·exact k2 b o (fun z=>hx (by simp [z])) (fun z=>hx (by simp [z])) q
  ·exact ⟨o.slots,k2 b o (fun z=>hx (by simp [z])) (fun z=>hx (by simp [z])) q⟩
  ·rw [zb3 (cy7 (cy1 q))]
   exact n
  ·exact ⟨o,k2 b o (fun z=>hx (by simp [z])) (fun z=>hx (by simp [z])) q⟩
  ·rw [zb3 (zb1 q nn)]; exact q
  ·rw [zb3 (zb1 q nn)]; exact q
  ·exact ⟨#[],by rw [zb3 (zb1 q nn),Array.append_empty]; exact q⟩
  ·by_cases hb : b = s.heap.objs.size
   ·subst hb
    rw [zc4] at q
    cases q
    exact ⟨by show 2 <= by0; decide,[.int i s.toks,u],.cons ⟨_,rfl⟩ (.cons ru .nil),_,t2,rfl,_,rfl⟩
   ·rw [zb3 hb] at q
    refine (I.hok b v q).zN1 (fun c w' hc z=>?_) (fun c z=>by rw [zb3 (zb1 z nn)]; exact z) fun c ys z=>by rw [zb3 (zb1 z nn)]; exact z
    rcases hc with rfl | hc
    ·exact k2 c w' (tracked c v q).1 (tracked c v q).2 z
    ·exact k2 c w' (tracked c _ hc).1 (tracked c _ hc).2 z
  ·rcases cy4.mp hb with rfl | hb
   ·exact ⟨fe.2.2.2.1,fe.2.1,fe.2.2.2.2⟩
   ·cases cy9.mp hb
    exact ⟨fi.2.2.2.1,fi.2.1,fi.2.2.2.2⟩
  ·have hb1:=(hf b hb).1
   have : b ≠ s.heap.objs.size:=by
    rcases cy4.mp hb with rfl | hb
    ·exact iy5 hel
    ·cases cy9.mp hb
     obtain ⟨o,go,_⟩:=st
     exact cy7 (cy1 go)
   rw [zb3 this]
   exact hb1
 done:=by
  intro X hP hw hK hc i pins s σ H E I hf ⟨⟨old,he⟩,st⟩ hg
  subst hP hw hK
  obtain ⟨xs,hq,hx⟩:=hg
  obtain ⟨its,rv,p,hz⟩:=I.tuple hq
  obtain ⟨f0,f1,f2,f3,f4,f5⟩:=hf it (by simp)
  have hl:=rv.length
  exact zX1 (I.ok.hd hc) he st (show s.heap.IsTuple a its.toArray from p) (by simp; omega) fun g eb=>⟨rfl,I.turned (t':=s.toks) (fun b o hb e=>eb b o hb e) f0 f1 f3 f4 f5⟩
 self:=fun _ _ _ _ _ ⟨⟨old,he⟩,_⟩ h=>wpAny_pyIter_enum he h
section
variable {X : Cx}
def zd41 (K : ay2) (ta : TA) : TI:=fun σ H R=>ta σ H fun vs H1=>∃ a xs,vs = [.ref a] /\ SqT K H1 a xs /\ R (Ite K a) H1
theorem za83 {elts : List Expr} {c : Nat} {tp : Pos} {a : Expr} {ta : TA} {p pos : Pos} (hg : Gl X "enumerate") (hm : X.mg "enumerate" = none) (ha : PA X [a] ta) (hs : ey1 [a] X.env = [(false,eval a X.env)]:=by rfl) : PI X (.Tuple elts c tp) (.Call (.Name "enumerate" p) [a] [] pos) (zd41 X.K ta):=by
 intro pins s σ H R I h
 refine Call_ (zw4 I hg hm boot_enumerate (my3 (thn (ha pos pins s σ H _ I h) fun us s1 ⟨vs,H1,I1,r1,q1⟩=>?_) hs rfl))
 obtain ⟨b,xs,rfl,hq,q⟩:=q1
 cases r1 with
 | cons r rr =>
  cases rr
  cases r
  obtain ⟨its,rv,tp,hz⟩:=I1.tuple hq
  refine zP3 (show s1.heap.IsTuple b its.toArray from tp) fun he=>?_
  refine wpAny_pyIter_enum he ?_
  have kp : ∀ c o,s1.heap.get? c = some o->((s1.heap.push (itO b)).push (enO s1.heap.objs.size)).get? c = some o:=fun c o z=>ay6 _ (ay6 _ z)
  refine ⟨s1.heap.objs.size + 1,[s1.heap.objs.size + 1,s1.heap.objs.size],_,_,H1,rfl,I1.kept (t':=s1.toks) kp,zP4 b _ _ (Nat.succ_ne_self _),⟨⟨.none,he⟩,_,ay6 _ (by2 _ rfl),rfl,rfl⟩,fun c hc=>?_,q⟩
  have hc : s1.heap.objs.size <= c:=by
   rcases cy4.mp hc with z | z
   ·rw [z]; exact sy6 _
   ·rw [cy9.mp z]; exact ay5 _
  exact I1.fpOk hc (I1.hok.fresh hc)
end
section
variable {X : Bc} {n : Nat} {S : Sl} {W : Wl} {D : DB}
/-- for i,x in enumerate(t) -/
theorem zX2 {elts : List Expr} {c : Nat} {tp : Pos} {a : Expr} {p ipos : Pos} {body : List Stmt} {pos : Pos} (hp : PassesOwn (model X.prog X.w) X.A X.env X.xe) (hc : X.calm = true) (hg : Gl X "enumerate") (hm : X.mg "enumerate" = none)
  (h : BA X S W [a] fun as W1=>∃ (ds : List PyData) (mb : Nat) (P : Nat->Sl->Wl->Prop),as = [.d (.tuple ds)] /\ n <= mb /\ mb <= W1.length /\ P 0 S W1 /\
   (∀ i d S' W',ds[i]? = some d->P i S' W'->BG X S' W' (.Tuple elts c tp) (.d (.tuple [.int i,d])) fun S2 W2=>BSs X mb S2 W2 body { D with nx:=P (i + 1),ct:=P (i + 1),bk:=D.nx }) /\ ∀ S' W',P ds.length S' W'->D.nx S' W')
  (hst : ey1 [a] X.env = [(false,eval a X.env)]:=by rfl)
  (hs : ∀ x,hy8 (.Call (.Name "enumerate" p) [a] [] ipos) X.env x = pure x:=by intro _; rfl) : BS X n S W (.For (.Tuple elts c tp) (.Call (.Name "enumerate" p) [a] [] ipos) body [] pos) D :=
 .of (zJ1 hp hc (za83 hg hm zR2 hst) pg_U zE1 hs) fun F A σ H E hn x0 r sr q=>h.use x0.am r sr fun F1 A1 W1 H1 as vs e1 r1 z1 ⟨ds,mb,P,hd,hnm,hmb,p0,hstep,hdone⟩=>by
  subst hd
  obtain ⟨v,rfl,zv⟩:=zi8 z1
  obtain ⟨b,ws,rfl,hv,z⟩:=Rq.zi7 zv
  have hl : ∀ {F' A' W' H'},Ex1 mb F1 A1 F' A'->RW X.K F' A' W' H'->SqT X.K H' b ws:=fun x r'=>r'.sub.zw8 (x.same.zw8 hv)
  have hmA : mb <= A1.length:=by rw [r1.len]; exact hmb
  refine ⟨b,ws,rfl,r1.sub.zw8 hv,fun i μ σ' H'=>μ = ds.length - i /\ i <= ds.length /\ ∃ F' A' S' W',Ex1 mb F1 A1 F' A' /\ RW X.K F' A' W' H' /\ SR X.K F' A' S' σ' /\ P i S' W',⟨ds.length,by simp,dy8 _,F1,A1,S,W1,.refl hmA,r1,sr.ext e1,p0⟩,?_⟩
  rintro i μ σ' H' ⟨rfl,hi,F',A',S',W',x,r',sr',pp⟩
  have hwl : ds.length = ws.length:=zb6 z
  by_cases hlt : i < ds.length
  ·refine .inr ⟨⟨ws,ws[i],hl x r',by simp⟩,fun σ2 H2=>∃ F2 A2 S2 W2,Ex1 mb F1 A1 F2 A2 /\ RW X.K F2 A2 W2 H2 /\ SR X.K F2 A2 S2 σ2 /\ P (i + 1) S2 W2,fun σ2 H2 p2=>⟨ds.length - (i + 1),by omega,rfl,hlt,p2⟩,fun v H'' hy=>?_⟩
   obtain ⟨t,y,rfl,hn',rfl,hget⟩:=hy
   obtain ⟨d,hd',zd⟩:=zi6 z (hget ws (hl x r'))
   obtain ⟨r2,e2⟩:=r'.newF hn' (.tup [.int i,y])
   have zt : ElR X.K (upd F' t (.tup [.int i,y])) A' (.d (.tuple [.int i,d])) (.ref t):=.dd (Rq.tup (SqT.of zc4) (.cons (Rq.int i) (.cons (Rq.same e2.same _ (Rq.same x.same _ zd)) .nil)))
   have x2 : Ex1 mb F1 A1 (upd F' t (.tup [.int i,y])) A':=x.trans hmA (e2.ex1 x.len)
   refine hstep i d S' W' hd' pp _ A' σ' _ _ _ ((x0.ext e1).up hnm |>.ex1 hmA x2).am r2 (sr'.ext e2) zt fun F3 A3 W3 H3 S3 σ3 x3 r3 sr3 h3=>?_
   have x13 : Ex1 mb F1 A1 F3 A3:=x2.trans hmA (x3.ex1 x2.len)
   have q2:=q.ext hn ((e1.ex1 hn).trans hn (x13.le hnm))
   exact h3.use x13.len (((x0.ext e1).up hnm).ex1 hmA x13) r3 sr3 ⟨fun F4 A4 W4 H4 S4 σ4 x4 r4 sr4 h4=>⟨F4,A4,S4,W4,x13.trans hmA x4,r4,sr4,h4⟩,fun F4 A4 W4 H4 S4 σ4 x4=>q2.nx F4 A4 W4 H4 S4 σ4 (x4.le hnm),fun F4 A4 W4 H4 S4 σ4 x4 r4 sr4 h4=>⟨F4,A4,S4,W4,x13.trans hmA x4,r4,sr4,h4⟩,fun F4 A4 W4 H4 e v x4=>q2.rt F4 A4 W4 H4 e v (x4.le hnm)⟩
  ·have hie : i = ds.length:=by omega
   subst hie
   exact .inl ⟨⟨ws,hl x r',by omega⟩,(q.ext hn (e1.ex1 hn)).nx F' A' W' H' S' σ' (x.le hnm) r' sr' (hdone S' W' pp)⟩
end
end L2
namespace L2
open PySem PySem.Spec PyProof.Rows PySem.SeqAt PySem.MeetsSeq
theorem zA4 (l : Addr) (items : Array Value) (n : Nat) (x : Value) (e : Value->Bool) (j : Nat) (hj : j < items.size) (hit : e items[j] = true) (hs1 : items.size <= by0) (k : Nat) :
  ∀ i : Nat,j - i = k->i <= j->(∀ m (hm : m < items.size),i <= m->m < j->e items[m] = false)->Meets (Builtin.«list.remove.loop» ⟨[.ref l,x,rawInt i],[]⟩)
   (fun A R s=>s.heap.get? l = some { cls:=.type "list",dict:=none,data:=.seq items n,slots:=#[] } /\ (∀ y,y∈items->EqAt A.in1 s y x (e y)) /\ R (.ok (.ret .none)) { s with heap:=s.heap.update l (ly3 fun xs=>xs.eraseIdxIfInBounds j) }):=by
 induction k with
 | zero =>
  intro i hk hij hno prog w A R s h
  obtain ⟨hp,g,d,tk,os⟩:=s
  obtain ⟨hl,he,h⟩:=h
  obtain rfl : i = j:=by omega
  wp_walk using jy2 hl
  have hi : items[((i : Nat) : Int).toNat]? = some items[i]:=by simp [hj]
  rw [hi]
  refine ay1 (he _ (Array.getElem_mem hj) prog w _ _ ?_)
  rw [hit]
  have hz' : (items.eraseIdxIfInBounds i).size <= by0 + 1:=cy6 (size_erased items _) (Nat.le_succ_of_le hs1)
  wp_walk using (wpAny_updateSeq hl rfl (hz:=hs1) (_hz':=hz')),jy2 hl
  simpa using h
 | succ k ih =>
  intro i hk hij hno prog w A R s h
  obtain ⟨hp,g,d,tk,os⟩:=s
  obtain ⟨hl,he,h⟩:=h
  have hlt : i < items.size:=by omega
  wp_walk using jy2 hl
  have hi : items[((i : Nat) : Int).toNat]? = some items[i]:=by simp [hlt]
  have hc : ((i : Int) + 1) = ((i + 1 : Nat) : Int):=by push_cast; rfl
  rw [hi]
  refine ay1 (he _ (Array.getElem_mem hlt) prog w _ _ ?_)
  rw [hno i hlt (ay5 _) (by omega)]
  wp_walk
  rw [hc]
  exact ⟨plainId_quiet plain_remove_loop _,ky9 entry_remove_loop (by
   rw [ly7 plain_remove_loop _]
   exact ih (i + 1) (by omega) (by omega) (fun m hm h1 h2=>hno m hm (by omega) h2) prog w A R _ ⟨hl,he,h⟩)⟩
theorem zA5 (l : Addr) (items : Array Value) (n : Nat) (x : Value) (e : Value->Bool) (j : Nat) (hj : j < items.size) (hit : e items[j] = true) (hs1 : items.size <= by0) (hno : ∀ m (hm : m < items.size),m < j->e items[m] = false) :
  Meets (Builtin.«list.remove» ⟨[.ref l,x],[]⟩)
   (fun A R s=>s.heap.get? l = some { cls:=.type "list",dict:=none,data:=.seq items n,slots:=#[] } /\ (∀ y,y∈items->EqAt A.in1 s y x (e y)) /\ R (.ok (.ret .none)) { s with heap:=s.heap.update l (ly3 fun xs=>xs.eraseIdxIfInBounds j) }):=by
 intro prog w A R s h
 obtain ⟨hp,g,d,tk,os⟩:=s
 obtain ⟨hl,he,h⟩:=h
 wp_walk using jy2 hl
 exact ⟨plainId_quiet plain_remove_loop _,ky9 entry_remove_loop (by
  rw [ly7 plain_remove_loop _]
  exact zA4 l items n x e j hj hit hs1 _ 0 rfl (dy8 _) (fun m hm _ h2=>hno m hm h2) prog w A R _ ⟨hl,he,h⟩)⟩
section
variable {X : Bc} {S : Sl} {W : Wl} {k : KB}
theorem zA6 {α β : Type} {F : α->β->Prop} : ∀ {l : List α} {m : List β} (i : Nat),Paired F l m->Paired F (l.eraseIdx i) (m.eraseIdx i)
 | _,_,_,.nil=>.nil
 | _,_,0,.cons _ t=>t
 | _,_,i + 1,.cons r t=>.cons r (zA6 i t)
theorem zP5 (hu : X.A.units + 100 < cLine) : MtR X "list.remove" (fun x vs H Q=>∃ l xs y ds d m,x = .ref l /\ vs = [y] /\ H l = some (.lst xs) /\ Paired (fun d v=>Rq X.K H v d) ds xs /\ Rq X.K H y d /\ ey2 ds = true /\ Dat d /\ ds.findIdx? (fun z=>ey0 z d) = some m /\ xs.length <= by0 /\ Q .non (upd H l (.lst (xs.eraseIdx m)))):=by
 intro pins s σ H x vs v us Q I rx rv h
 obtain ⟨l,xs,y,ds,d,m,rfl,rfl,hH,pd,rd,hc,hd,hm,hz,q⟩:=h
 cases rx
 obtain ⟨u,rfl,ru⟩:=rv.one
 obtain ⟨z,its,n,r,hl,e⟩:=I.lstM hH
 obtain ⟨as,ra⟩:=Rqs.reads I ds hc (Rqs.of pd) r
 obtain ⟨bs,rb⟩:=Rq.reads I d hd.lay rd ru
 have hlen : its.length = ds.length:=r.length.symm.trans (zb6 pd).symm
 rw [List.findIdx?_eq_some_iff_getElem] at hm
 obtain ⟨hm1,hm2,hm3⟩:=hm
 have rdm : ∀ (i : Nat) (h1 : i < its.length) (h2 : i < ds.length),readOf s.heap its[i] = ds[i]:=fun i h1 h2=>by
  have:=readsAll_map ds _ _ hc ra
  have e2:=congrArg (fun l=>l[i]?) this
  simp [h1,h2] at e2
  exact e2
 have hsz : its.length <= by0:=by rw [<- r.length]; exact hz
 refine call_meets PySem.F.slot_list_remove ⟨_,e,rfl⟩ PySem.F.entry_list_remove (PySem.F.args_list_remove_2 _ _) (zA5 l its.toArray n u (fun y=>ey0 (readOf s.heap y) d) m (by rw [by6]; omega) ?_ (by rw [by6]; exact hsz) ?_) ⟨e,?_,?_⟩
 ·have:=rdm m (by omega) hm1
  simp [this]
  exact hm2
 ·intro i h1 h2
  have h1 : i < its.length:=by simpa using h1
  have:=rdm i h1 (by omega)
  simp [this]
  simpa using hm3 i h2
 ·refine items_eqAt (by simpa using ra) rb hc hd.lay ?_
  have h1:=hd.dep
  have h2 : min (fy9 ds) d.depth <= 64:=cy6 (ry3 _ _) h1
  omega
 ·have he : (its.toArray.eraseIdxIfInBounds m) = (its.eraseIdx m).toArray:=by
   apply Array.toList_inj.mp
   simp [Array.toList_eraseIdxIfInBounds]
  have hr : Vals (xs.eraseIdx m) (its.eraseIdx m):=by
   have : Paired RelV xs its:=r
   exact zA6 m this
  refine ⟨.non,_,I.lset (its':=its.eraseIdx m) hH e ?_ hr ?_,rfl,q⟩
  ·show its.toArray.eraseIdxIfInBounds m = (its.eraseIdx m).toArray
   rw [List.eraseIdxIfInBounds_toArray]
  ·have:=zt4 xs m
   omega
theorem zH2 (ds : List PyData) (m : Nat) : (zb4 ds).eraseIdx m = zb4 (ds.eraseIdx m):=by
 unfold zb4
 induction ds generalizing m with
 | nil=>rfl
 | cons d ds ih=>cases m with
  | zero=>rfl
  | succ m=>simp [ih]
theorem zE4 {j m : Nat} {ds : List PyData} {d : PyData} (hu : X.A.units + 100 < cLine) (hj : W[j]? = some (.lst (zb4 ds))) (hc : ey2 ds = true) (hd : Dat d) (hm : ds.findIdx? (fun z=>ey0 z d) = some m) (hl : ds.length <= by0) (h : k (.d .none) (W.set j (.lst (zb4 (ds.eraseIdx m))))) :
  MB X "list" "list.remove" (.o j) [.d d] W k:=.of (zP5 hu) fun F A H Q v vs r zx z q=>by
 obtain ⟨a,ws,rfl,ha,hH,p⟩:=r.at zx hj
 obtain ⟨u,rfl,zu⟩:=zi8 z
 refine ⟨a,ws,u,ds,d,m,rfl,rfl,hH,zf4 (fun _ _ t=>Rq.same r.sub _ t) (zi1 p),Rq.same r.sub _ zu,hc,hd,hm,by rw [<- zb6 p]; simpa [zb4] using hl,?_⟩
 refine q.put r ha (o:=.lst (zb4 (ds.eraseIdx m))) ⟨_,rfl,?_⟩ (.dd Rq.non) h
 rw [<- zH2]
 exact zA6 m p
theorem zd42 (neg : Bool) (hu : X.A.units + 100 < cLine) : OpR X (fy7 (if neg then .NotIn else .In)) (fun x y H Q=>∃ d ds,Rq X.K H x d /\ (Rq X.K H y (.list ds) \/ Rq X.K H y (.tuple ds)) /\ Dat d /\ ey2 ds = true /\ Q (.bl (if neg then !(ds.any fun z=>ey0 z d) else ds.any fun z=>ey0 z d)) H):=by
 intro pins s σ H x y v u Q I rx ry h
 obtain ⟨d,ds,rd,re,hd,hc,q⟩:=h
 obtain ⟨as,h1⟩:=Rq.reads I d hd.lay rd rx
 have hdep : X.A.units + 1 + min (fy9 ds) d.depth < cLine:=by
  have h1:=hd.dep
  have h2 : min (fy9 ds) d.depth <= 64:=cy6 (ry3 _ _) h1
  omega
 rcases re with re | re
 ·obtain ⟨bs,h2⟩:=Rq.reads I (.list ds) (by simpa [iy4] using hc) re ry
  cases neg with
  | false=>exact SeqAt.in_list_reads h2 h1 hc hd.lay hdep ⟨.bl _,H,I,rfl,q⟩
  | true=>exact SeqAt.notIn_list_reads h2 h1 hc hd.lay hdep ⟨.bl _,H,I,rfl,q⟩
 ·obtain ⟨bs,h2⟩:=Rq.reads I (.tuple ds) (by simpa [iy4] using hc) re ry
  cases neg with
  | false=>exact SeqAt.in_tuple_reads h2 h1 hc hd.lay hdep ⟨.bl _,H,I,rfl,q⟩
  | true=>exact SeqAt.notIn_tuple_reads h2 h1 hc hd.lay hdep ⟨.bl _,H,I,rfl,q⟩
theorem zX3 (neg : Bool) {d : PyData} {y : El} {ds : List PyData} (hu : X.A.units + 100 < cLine) (hy : zD6 W y ds \/ y = .d (.tuple ds)) (hd : Dat d) (hc : ey2 ds = true) (h : k (.d (.bool (if neg then !(ds.any fun z=>ey0 z d) else ds.any fun z=>ey0 z d))) W) : OB X (fy7 (if neg then .NotIn else .In)) (.d d) y W k :=
 .of (zd42 neg hu) fun F A H Q vx vy r zx zy q=>by
  refine ⟨d,ds,Rq.same r.sub _ zx,?_,hd,hc,q.same r (.dd (Rq.bl _)) h⟩
  rcases hy with hy | rfl
  ·exact .inl (r.dat zy (.inr ⟨ds,rfl,hy⟩))
  ·exact .inr (Rq.same r.sub _ zy)
end
end L2
namespace L2
open PySem PySem.Spec PyProof.Rows
open Sem (wp)
end L2
namespace L2
open PySem PySem.Spec PyProof.Rows
def leS (a b : Str) : Prop:=¬ b.cps.toList < a.cps.toList
theorem za84 {a b : Str} (h1 : leS a b) (h2 : leS b a) : a = b:=by
 have h3 : a.cps.toList <= b.cps.toList:=List.not_lt.mp h1
 have h4 : b.cps.toList <= a.cps.toList:=List.not_lt.mp h2
 have e:=List.le_antisymm h3 h4
 cases a; cases b
 simp at e
 simp [e]
section
variable {P : dy7} {w : World} {A : Around} {R : Result->Shared->Prop} {I : Addr} {fp wr : List Addr} {G : Array GenState->Array GenState->Prop} {St : Nat->Shared->Prop} {xs : List Str}
theorem zX4 {n : Nat} {P1 P2 : Nat->Value->Prop} (W : WalksS P w A I fp wr G n P1 St) (h : ∀ i v,P1 i v->P2 i v) : WalksS P w A I fp wr G n P2 St :=
 ⟨W.sub,W.grefl,W.gtrans,W.frame,fun i s' Q' E' hi st q=>W.item i s' Q' E' hi st fun v s2 hv=>q v s2 (h i v hv),W.done,W.self⟩
end
section
variable {P : dy7} {w : World} {A : Around} {E : Value->Shared->Prop} {s : Shared} {it a tp : Addr} {es : Array (Int × Value)} {ep n i : Nat} {t : SetTable}
theorem zP6 {α : Type} {R : α->Shared->Prop} {E' : Value->Shared->Prop} (hh : A.handled = none) (h : ∀ h' e,(∀ b o,s.heap.get? b = some o->h'.get? b = some o)->Shared.TypeIs { s with heap:=h' } e "StopIteration" -> E' e { s with heap:=h' }) :
  wpAny (model P w) A (newExc (.type "StopIteration") [] >>= fun e=>(raiseNew e : Sem α)) R E' s:=by
 refine ay1 ?_
 simp only [newExc,newTuple]
 refine ay1 (gy3 ?_ (by size_fits))
 refine ay1 (m:=firstArgMember _ _) (wpAny_of_eq (a:=fy3) (by first | rfl | (simp only [firstArgMember]; rfl)) ?_)
 refine gy3 ?_ (by size_fits)
 refine wpAny_raiseNew_none hh (h _ _ (fun b o q=>ay6 _ (ay6 _ q)) ⟨_,by2 _ rfl,rfl⟩)
end
/-- a dict of texts: what is at a key -/
def valK (kvs : List (Key × El)) (k : Key) : Option El:=(kvs.find? fun kv=>decide (kv.1 = k)).map (·.2)
/-- the entries of a dict -/
def rawD (h : Heap) (d : Addr) (es : Array DictEntry) (ep : Nat) : Prop:=∃ o,h.get? d = some o /\ o.ExactDict /\ o.data = .dict es ep
section
variable {X : Cx} {tg : Expr}
/-- frozen -/
theorem Inv.frz {pins : List (Addr × Obj)} {σ : St} {H : Hp} {s : Shared} {d : Addr} {kvs : List (List Key × V)} (I : Inv X pins σ H s) (e : H d = some (.dT kvs)) : ∃ o,KeysIn H o (kvs.map (·.1)) /\ Inv X pins σ (upd H d (.frz o (.dT kvs))) s:=by
 obtain ⟨z,hs,xs,pr,o,es,ep,h1,h2,h3,h4,h5⟩:=I.hok d _ e
 refine ⟨o,⟨es,ep,h2,h3,?_,fun i k hk=>?_⟩,?_⟩
 ·have:=congrArg List.length h4
  rw [ay3,hy9] at this
  rw [this,ay3]
  exact pr.length.symm
 ·rw [ay4] at hk
  cases hi : kvs[i]? with
  | none=>rw [hi] at hk; cases hk
  | some p =>
   rw [hi] at hk
   cases hk
   obtain ⟨q,hq,e1,e2,e3⟩:=zi5 pr hi
   refine ⟨entryOfKey (tupleKind (ze3 X.prog X.w)) q,q.2.1,?_,rfl,e2⟩
   rw [<- ny0,h4,ay4,hq]
   rfl
 ·have ht : ∀ b ys,H b = some (.tup ys)->upd H d (.frz o (.dT kvs)) b = some (.tup ys):=fun b ys hb=>by
   rw [zb3 (zN0 hb e (by simp))]; exact hb
  refine I.write (x:=d) (e:=d) (h':=s.heap) (t':=s.toks) (o:=.frz o (.dT kvs)) (by rw [e]; trivial) (.inl rfl) (fun _ _ _ q=>q) ⟨o,h1⟩ ⟨h1,?_⟩
  exact zd2.zN1 (I.hok d _ e) (fun _ _ _ q=>q) (fun b hb=>by rw [zb3 (zN0 hb e (by simp))]; exact hb) ht
/-- .. and free again -/
theorem Inv.zE5 {pins : List (Addr × Obj)} {σ : St} {H : Hp} {s : Shared} {d : Addr} {o : Obj} {u : HO} (I : Inv X pins σ H s) (e : H d = some (.frz o u)) (h0 : ∀ o' u',X.H₀ d ≠ some (.frz o' u')) : Inv X pins σ (upd H d u) s:=by
 have hn : ∀ b,H b = none->upd H d u b = none:=fun b hb=>by rw [zb3 (fun z=>by subst z; rw [e] at hb; cases hb)]; exact hb
 have hne : ∀ b v,H b = some v->v ≠ .frz o u->upd H d u b = some v:=fun b v hb hv=>by rw [zb3 (zN0 hb e hv)]; exact hb
 refine ⟨I.ok,I.os,I.bare,⟨I.base.keep,I.base.slot,fun b ob q n hx=>hn b (I.base.free b ob q n hx),I.base.there,fun b xs q=>hne b _ (I.base.tups b xs q) (by simp),fun b ob u' q=>?_,fun b ps q=>?_⟩,I.loc,I.cell,hn _ I.free,fun x c h=>hn _ (I.freeC x c h),fun p hp=>?_,fun b v q=>?_,I.len⟩
 ·have hb : b ≠ d:=fun z=>by subst z; exact h0 _ _ q
  rw [zb3 hb]
  exact I.base.frzs b ob u' q
 ·obtain ⟨more,z⟩:=I.base.tbls b ps q
  exact ⟨more,hne b _ z (by simp)⟩
 ·obtain ⟨a1,a2,a3⟩:=I.pin p hp
  exact ⟨a1,hn _ a2,a3⟩
 ·have st : ∀ {c v},zd2 X.prog X.w H s.heap c v->zd2 X.prog X.w (upd H d u) s.heap c v:=fun {c v} x =>
   x.zN1 (fun _ _ _ q=>q) (fun b' hb=>hne _ _ hb (by simp)) fun b' ys hb=>hne _ _ hb (by simp)
  by_cases hb : b = d
  ·subst hb
   rw [zc4] at q
   cases q
   exact st (show zd2 X.prog X.w H s.heap b (.frz o u) from I.hok b _ e).2
  ·rw [zb3 hb] at q
   exact st (I.hok b v q)
end
theorem RW.zX5 {K : ay2} {A : List Addr} {W : Wl} {H : Hp} : ∀ (l : List (Addr × List V)) {F : Hp},RW K F A W H->(∀ p∈l,H p.1 = some (.tup p.2))->∃ F',zo0 F F' /\ (∀ p∈l,F' p.1 = some (.tup p.2)) /\ RW K F' A W H
 | [],F,r,_=>⟨F,.refl _,(fun p hp=>absurd hp (by simp)),r⟩
 | p :: l,F,r,h=>by
  obtain ⟨F1,s1,e1,r1⟩:=r.grew (.refl H) (h p by5)
  obtain ⟨F2,s2,e2,r2⟩:=RW.zX5 l r1 fun q hq=>h q (by8 _ hq)
  exact ⟨F2,s1.trans s2,fun q hq=>(cy4.mp hq).elim (fun z=>by subst z; exact s2 _ _ e1) (e2 q),r2⟩
end L2
namespace L2
open PySem PySem.Spec PyProof.Rows
open PySem.W
def Pm (n : Nat) (p : Array Nat) : Prop:=p.Perm (ey5 n).toArray
theorem Pm.lt {n : Nat} {p : Array Nat} (h : Pm n p) (hn : 0 < n) (x : Nat) : Array.getD p x 0 < n:=by
 unfold Array.getD
 split
 ·rename_i hx
  have : p[x]∈p:=Array.getElem_mem hx
  have:=h.mem_iff.mp this
  simpa using this
 ·exact hn
theorem Pm.rev {n : Nat} {p : Array Nat} (h : Pm n p) (i j : Nat) : Pm n (kas_rev p i j):=(mirror_perm p i j _).trans h
section
variable {prog : dy7} {w : World} {A : Around} {E : Value->Shared->Prop} {s : Shared} {a : Addr} {vs : List Value} {n : Nat}
theorem zc06 (vs : List Value) : (Array.map (fun x : Keyed=>x.snd) (vs.toArray.zip vs.toArray)).toList = vs:=by
 simp only [List.zip_toArray,List.map_toArray]
 exact List.map_snd_zip (ay5 _)
end
end L2
namespace L2
open PySem PySem.Spec PyProof.Rows
/-- d[k] = e,in a dict of few words -/
def putG {κ : Type} [DecidableEq κ] (kvs : List (κ × El)) (k : κ) (e : El) : List (κ × El):=if (kvs.any fun kv=>decide (kv.1 = k)) = true then kvs.map (fun kv=>if kv.1 = k then (kv.1,e) else kv) else kvs++[(k,e)]
section
variable {K : ay2} {F : Hp} {A : List Addr} {κ : Type} [DecidableEq κ]
theorem zb48 {k : κ} : ∀ {kvs : List (κ × El)} {vs : List (κ × V)},Paired (fun p q=>p.1 = q.1 /\ ElR K F A p.2 q.2) kvs vs->(kvs.any fun kv=>decide (kv.1 = k)) = (vs.any fun kv=>decide (kv.1 = k))
 | [],_,.nil=>rfl
 | p :: kvs,_,.cons h t=>by
  simp only [qy7]
  rw [zb48 t,h.1]
theorem zb49 {k : κ} {e : El} {v : V} (he : ElR K F A e v) : ∀ {kvs : List (κ × El)} {vs : List (κ × V)},Paired (fun p q=>p.1 = q.1 /\ ElR K F A p.2 q.2) kvs vs->Paired (fun p q=>p.1 = q.1 /\ ElR K F A p.2 q.2) (kvs.map fun kv=>if kv.1 = k then (kv.1,e) else kv) (vs.map fun kv=>if kv.1 = k then (kv.1,v) else kv)
 | [],_,.nil=>.nil
 | p :: kvs,_,.cons (b:=q) h t=>by
  refine .cons ?_ (zb49 he t)
  by_cases hk : p.1 = k
  ·have hq : q.1 = k:=h.1 ▸ hk
   simp only [hk,hq,if_true]
   exact ⟨trivial,he⟩
  ·have hq : ¬ q.1 = k:=h.1 ▸ hk
   simp only [hk,hq,if_false]
   exact h
theorem zd43 {k : κ} {e : El} {v : V} (he : ElR K F A e v) {kvs : List (κ × El)} {vs : List (κ × V)} (h : Paired (fun p q=>p.1 = q.1 /\ ElR K F A p.2 q.2) kvs vs) : Paired (fun p q=>p.1 = q.1 /\ ElR K F A p.2 q.2) (putG kvs k e) (putK vs k v):=by
 unfold putG putK
 rw [zb48 h]
 split
 ·exact zb49 he h
 ·exact zo1 h (.cons ⟨rfl,he⟩ .nil)
end
def ofT : Sum PyData Nat->El
 | .inl d=>.d d
 | .inr k=>.o k
theorem zX6 {K : ay2} {F : Hp} {A : List Addr} : ∀ {xs : List (Sum PyData Nat)} {vs : List V},Paired (TiR K F A) xs vs->Paired (ElR K F A) (xs.map ofT) vs
 | [],_,.nil=>.nil
 | .inl d :: xs,_,.cons h t=>.cons (.dd h) (zX6 t)
 | .inr k :: xs,_,.cons h t=>.cons h (zX6 t)
theorem zX7 {K : ay2} {F : Hp} {A : List Addr} : ∀ {xs : List (Sum PyData Nat)} {vs : List V},Paired (ElR K F A) (xs.map ofT) vs->Paired (TiR K F A) xs vs
 | [],_,.nil=>.nil
 | .inl d :: xs,_,.cons h t=>.cons h (zX7 t)
 | .inr k :: xs,_,.cons h t=>.cons h (zX7 t)
section
variable {X : Bc} {S : Sl} {W : Wl} {k : KB}
theorem za85 {pos : Pos} (h : k (.o W.length) (W++[.dK []])) : BE X S W (.Dict [] [] pos) k :=
 .of za61 fun F A σ H Q x0 r sr q=>fun p hp=>q.newO r hp (o:=.dK []) ⟨[],rfl,.nil⟩ h
/-- a tuple of data and of things that are changed -/
theorem zX8 {es : List Expr} {x1} {pos : Pos} (h : BA X S W es fun as W1=>∃ xs,as = xs.map ofT /\ xs.length <= by0 /\ k (.t xs) W1) : BE X S W (.Tuple es x1 pos) k :=
 .of (zT5 zR2) fun F A σ H Q x0 r sr q=>h.use x0 r sr fun F1 A1 W1 H1 as vs e1 r1 z1 ⟨xs,hd,hl,h1⟩=>by
  subst hd
  have z2:=zX7 z1
  refine ⟨by rw [<- zb6 z2]; exact hl,fun p hp=>?_⟩
  obtain ⟨r',x⟩:=r1.newF hp (.tup vs)
  exact (q.ext e1) _ _ _ _ (.t xs) _ x r' ⟨p,vs,rfl,zc4,zf4 (fun _ _ z=>z.ext x) z2⟩ h1
theorem zA7 {es : List Expr} {is : List Nat} {c : Nat} {pos : Pos} {xs : List (Sum PyData Nat)} {k : Sl->Wl->Prop} (hc : X.calm = true) (hm : Nms X es is) (hl : is.length = xs.length) (h : k (zr9 S is (xs.map ofT)) W)
  (hn : (ky0 es X.env).length = is.length:=by rfl) (hst : (ky0 es X.env).findIdx? (·.1) = none:=by rfl) : BG X S W (.Tuple es c pos) (.t xs) k :=
 fun F A σ H v Q x0 r sr z q=>by
  obtain ⟨a,vs,rfl,hs,p⟩:=z
  exact ⟨_,zS3 hc hm.pgs hn hst,a,vs,rfl,SqT.of (r.sub _ _ hs),by rw [<- zb6 p,hl],zz6 (by rw [hl,zb6 p]) (q F A W H _ _ .refl r (sr.zr9 (zX6 p)) h)⟩
end
end L2
namespace L2
open PySem PySem.Spec PyProof.Rows
open PySem.W
/-- the tree,where the answers are those of lt -/
def Lr {α : Type} (n : Nat) (lt : Nat->Nat->Bool) : KasT α->(α->Prop)->Prop
 | .ret a,P=>P a
 | .ask i j k,P=>i < n /\ j < n /\ i ≠ j /\ Lr n lt (k (lt i j)) P
theorem Lr.mono {α : Type} {n : Nat} {lt : Nat->Nat->Bool} : ∀ {t : KasT α} {P Q : α->Prop},Lr n lt t P->(∀ a,P a->Q a)->Lr n lt t Q
 | .ret a,P,Q,h,f=>f a h
 | .ask i j k,P,Q,h,f=>⟨h.1,h.2.1,h.2.2.1,h.2.2.2.mono f⟩
theorem Lr.bind {α β : Type} {n : Nat} {lt : Nat->Nat->Bool} {f : α->KasT β} {Q : β->Prop} : ∀ {t : KasT α},Lr n lt t (fun a=>Lr n lt (f a) Q)->Lr n lt (KasT.bind t f) Q
 | .ret a,h=>h
 | .ask i j k,h=>⟨h.1,h.2.1,h.2.2.1,h.2.2.2.bind⟩
theorem Lr.wp {α : Type} {n : Nat} {lt : Nat->Nat->Bool} {cmp : Nat->Nat->(Bool->Shared->Prop)->Shared->Prop} {s : Shared} (hc : ∀ i j C,i < n->j < n->i ≠ j->C (lt i j) s->cmp i j C s) : ∀ {t : KasT α} {G : α->Shared->Prop},Lr n lt t (fun a=>G a s)->KasT.kasWp cmp t G s
 | .ret a,G,h=>h
 | .ask i j k,G,h=>by
  rw [KasT.kasWp.eq_2]
  exact hc i j _ h.1 h.2.1 h.2.2.1 (h.2.2.2.wp hc)
section
variable {n : Nat} {lt : Nat->Nat->Bool} {p : Array Nat}
abbrev gp (p : Array Nat) (x : Nat) : Nat:=Array.getD p x 0
theorem zj9 (p : Array Nat) (x : Nat) : gp p x = (p[x]?).getD 0:=by simp [gp,Array.getD_eq_getD_getElem?]
theorem Pm.size (h : Pm n p) : p.size = n:=by
 have:=h.size_eq
 simpa using this
theorem Pm.inj (h : Pm n p) {x y : Nat} (hx : x < n) (hy : y < n) (e : gp p x = gp p y) : x = y:=by
 have hz:=h.size
 have nd : p.toList.Nodup:=(Array.perm_iff_toList_perm.mp h).nodup_iff.mpr (by simpa using List.nodup_range)
 have e1 : ∀ z (hz' : z < n),gp p z = p.toList[z]'(by simpa [hz] using hz'):=fun z hz'=>by simp [gp,Array.getD,hz,hz']
 rw [e1 x hx,e1 y hy] at e
 exact (py0 nd).mp e
theorem zb50 (h : Pm n p) {m : Nat} (hm : m <= n) (x : Nat) : gp (kas_rev p 0 m) x = if x < m then gp p (m - 1 - x) else gp p x:=by
 rw [zj9,zj9,zj9]
 unfold kas_rev
 rw [getElem?_mirror_all (by rw [h.size]; exact hm)]
 by_cases hx : x < m
 ·rw [if_pos ⟨dy8 _,hx⟩,if_pos hx,show 0 + m - 1 - x = m - 1 - x by omega]
 ·rw [if_neg (fun z=>hx z.2),if_neg hx]
end
section
variable {prog : dy7} {w : World} {A : Around} {E : Value->Shared->Prop} {s : Shared} {a : Addr} {vs : List Value} {n : Nat}
theorem zX9 (vs : List Value) : (ey5 vs.length).map (fun i=>vs.getD i fy3) = vs:=by
 refine my2 fun i=>?_
 rw [ay4]
 by_cases h : i < vs.length
 ·rw [oy8 h,ay7 h]
  simp [sy4,h]
 ·rw [ly0 (by simpa using h),ly0 (by omega)]
  rfl
end
def ltS (a b : Str) : Bool:=decide (a.cps.toList < b.cps.toList)
theorem za86 {a b : Str} (h : ltS a b = true) : ltS b a = false:=by
 unfold ltS at *
 exact decide_eq_false fun z=>List.lt_asymm (of_decide_eq_true h) z
theorem zY0 {a b c : Str} (h : ltS a b = true) (h' : ltS b c = true) : ltS a c = true:=by
 unfold ltS at *
 exact decide_eq_true (List.lt_trans (of_decide_eq_true h) (of_decide_eq_true h'))
theorem zc07 {a b : Str} (h : a ≠ b) (h' : ltS a b = false) : ltS b a = true:=by
 unfold ltS at *
 have h1 : b.cps.toList <= a.cps.toList:=List.not_lt.mp (of_decide_eq_false h')
 by_cases h2 : b.cps.toList < a.cps.toList
 ·exact decide_eq_true h2
 ·exact absurd (za84 (a:=a) (b:=b) h2 (of_decide_eq_false h')) h
theorem zc08 (a : Str) : ltS a a = false:=by
 cases h : ltS a a with
 | false=>rfl
 | true=>rw [za86 h] at h; cases h
section
variable {α : Type}
theorem zP7 [Inhabited α] {L : List α} {q : List Nat} (h : q.Perm (ey5 L.length)) : (q.map fun i=>L.getD i default).Perm L:=by
 have e : (ey5 L.length).map (fun i=>L.getD i default) = L:=by
  refine my2 fun i=>?_
  rw [ay4]
  by_cases hi : i < L.length
  ·rw [oy8 hi,ay7 hi]
   simp [sy4,hi]
  ·rw [ly0 (by simpa using hi),ly0 (by omega)]
   rfl
 exact (h.map _).trans (.of_eq e)
end
instance : Inhabited PyData:=⟨.none⟩
section
variable {X : Bc} {S : Sl} {W : Wl} {k : KB}
theorem RW.grown {K : ay2} {F : Hp} {A : List Addr} {W : Wl} {H H1 : Hp} (r : RW K F A W H) (s : zo0 H H1) : RW K F A W H1:=⟨r.sub.trans s,r.len,r.nd,r.out,fun k a o hk ho=>by
 obtain ⟨u,e,q⟩:=r.obj k a o hk ho
 exact ⟨u,s _ _ e,q⟩⟩
end
end L2
namespace L2
open PySem PySem.Spec PyProof.Rows
section
variable {X : Bc} {S : Sl} {W : Wl} {k : KB}
theorem ib_L {y : El} {ds : List PyData} {i : Int} {d : PyData} (h : zD6 W y ds) (hi : atI ds i = some d) (hk : k (.d d) W) : IB X y (.d (.int i)) W k:=by
 rcases h with rfl | ⟨j,rfl,hj⟩
 ·exact zu1 hi hk
 ·refine zu2 hj (e:=.d d) ?_ hk
  unfold atI at hi ⊢
  rw [show (zb4 ds).length = ds.length by simp [zb4]]
  obtain ⟨m,h1,h2⟩:=Option.bind_eq_some_iff.mp hi
  rw [h1]
  show (zb4 ds)[m]? = some (.d d)
  simp [zb4,h2]
theorem lb_L {y : El} {ds : List PyData} {lo hi : Option Int} (h : zD6 W y ds) (hk : k (.d (.list (zx0 ds lo hi))) W) : LB X y lo hi W k:=by
 rcases h with rfl | ⟨j,rfl,hj⟩
 ·exact zb39 hk
 ·exact zb40 hj hk
theorem zY1 {a : Expr} {pos : Pos} (h : BE X S W a fun x W1=>∃ i,x = .d (.int i) /\ k (.d (.int (-i))) W1) : BE X S W (.UnaryOp .USub a pos) k :=
 .of (ze24 zc91 zi0) fun F A σ H Q x0 r sr q=>h.use x0 r sr fun F1 A1 W1 H1 x vx e1 r1 z1 ⟨i,hi,h1⟩=>by
  subst hi
  obtain rfl:=Rq.zd4 z1
  exact ⟨i,rfl,(q.ext e1).same r1 (.dd (Rq.int _)) h1⟩
end
end L2
namespace L2
open PySem PySem.Spec PyProof.Rows
open PySem.W
section
variable {P : dy7} {w : World} {A : Around} {E : Value->Shared->Prop} {s : Shared} {it d : Addr} {i ep : Nat} {es : Array DictEntry}
theorem zK6 {Q : Option Value->Shared->Prop} {en : DictEntry} (hit : s.heap.IsValIter it d i es.size ep) (hm : rawD s.heap d es ep) (hx : es[i]? = some en)
  (hQ : ∀ h',h'.IsValIter it d (i + 1) es.size ep->hy0 it s.heap h'->Q (some en.val) { s with heap:=h' }) : wpAny (model P w) A (pyNext (.ref it)) Q E s:=by
 obtain ⟨o,c1,c2,c3⟩:=id hit
 obtain ⟨b,b1,b2,b3⟩:=hm
 have ty:=hit.typeIs
 unfold pyNext
 refine ay1 (wpAny_attempt (hy3 (name:=py9 "__next__") ty iy9 (hy5 iy9 ty F.entry_dict_valueiterator_next ?_ (F.args_dict_valueiterator_next_1 _))))
 refine ay1 (ay9 (ay1 (ay1 ?_)))
 first | refine ay1 (ly5 ty (ay9 ?_)) | refine ay1 (oy1 ty (ay9 ?_))
 refine ay1 (wpAny_fieldsOf c1 c3 ?_)
 have own : py7 "dict_valueiterator" = false:=by decide
 simp only [own,ny2,if_false]
 show wpAny _ _ (if (fy8 d == fy3) = true then _ else _) _ _ s
 rw [if_neg (show ¬ ((fy8 d == fy3) = true) from cy3)]
 refine ay1 (ay9 (ay1 (wpAny_dictEntries b1 b3 ?_)))
 rw [if_neg (by simp)]
 refine ay1 (ay9 (ay1 (wpAny_dictEpoch b1 b3 ?_)))
 rw [if_neg (by simp)]
 refine ay9 ?_
 simp only [show ¬ ((i : Int) < 0) from by omega,if_false,hy1,hx]
 refine ay1 ?_
 first | refine ay1 (ly5 ty (ay9 ?_)) | refine ay1 (oy1 ty (ay9 ?_))
 refine ay1 (wpAny_isOneOf_valiter ty ?_)
 show wpAny _ _ (setField (.ref it) 1 (rawInt ((i : Int) + 1)) >>= _) _ _ s
 refine ay1 (wpAny_setField c1 c3 (by simp) ?_)
 have hit' : (s.heap.update it (Obj.mapFields (·.setIfInBounds 1 (rawInt ((i : Int) + 1))))).IsValIter it d (i + 1) es.size ep :=
  ⟨_,my9 _ c1 (Obj.isFreed_of_fields (ny1 c3 _)),(Obj.cls_mapFields ..).trans c2,by rw [ny1 c3]; simp [rawInt]⟩
 have ty' : Shared.TypeIs { s with heap:=s.heap.update it (Obj.mapFields (·.setIfInBounds 1 (rawInt ((i : Int) + 1)))) } (.ref it) "dict_valueiterator" := hit'.typeIs
 refine ay1 (jy3 (ay1 (wpAny_isOneOf_valiter ty' (ay1 (wpAny_isOneOf_valiter ty' ?_)))))
 show wpAny _ _ (pure en.val) _ _ _
 exact ay9 (ay9 ⟨_,rfl,ay9 (hQ _ hit' (oy7 ..))⟩)
theorem zY2 {Q : Option Value->Shared->Prop} (hh : A.handled = none) (hit : s.heap.IsValIter it d i es.size ep) (hm : rawD s.heap d es ep) (hx : es.size <= i)
  (hQ : ∀ h',Heap.ExtBut it s.heap h'->Q none { s with heap:=h' }) : wpAny (model P w) A (pyNext (.ref it)) Q E s:=by
 obtain ⟨o,c1,c2,c3⟩:=id hit
 obtain ⟨b,b1,b2,b3⟩:=hm
 have ty:=hit.typeIs
 unfold pyNext
 refine ay1 (wpAny_attempt (hy3 (name:=py9 "__next__") ty iy9 (hy5 iy9 ty F.entry_dict_valueiterator_next ?_ (F.args_dict_valueiterator_next_1 _))))
 refine ay1 (ay9 (ay1 (ay1 ?_)))
 first | refine ay1 (ly5 ty (ay9 ?_)) | refine ay1 (oy1 ty (ay9 ?_))
 refine ay1 (wpAny_fieldsOf c1 c3 ?_)
 have own : py7 "dict_valueiterator" = false:=by decide
 simp only [own,ny2,if_false]
 show wpAny _ _ (if (fy8 d == fy3) = true then _ else _) _ _ s
 rw [if_neg (show ¬ ((fy8 d == fy3) = true) from cy3)]
 refine ay1 (ay9 (ay1 (wpAny_dictEntries b1 b3 ?_)))
 rw [if_neg (by simp)]
 refine ay1 (ay9 (ay1 (wpAny_dictEpoch b1 b3 ?_)))
 rw [if_neg (by simp)]
 refine ay9 ?_
 simp only [show ¬ ((i : Int) < 0) from by omega,if_false,hy1,Array.getElem?_eq_none hx]
 refine ay1 ?_
 first | refine ay1 (ly5 ty (ay9 ?_)) | refine ay1 (oy1 ty (ay9 ?_))
 show wpAny _ _ (setField (.ref it) 0 .none >>= _) _ _ s
 refine ay1 (wpAny_setField c1 c3 (by simp) ?_)
 refine zP6 (by simpa using hh) fun h' e k te=>?_
 refine ay1 (wpAny_isInstance te isSubtype_stop ?_)
 exact ay9 (hQ _ fun b' o' hb q=>k _ _ ((ky4 _ _ (iy5 hb)).trans q))
theorem zK7 {v : Addr} {Q : Value->Shared->Prop} (hv : s.heap.IsValuesView v d) (hm : rawD s.heap d es ep)
  (hQ : Q (.ref s.heap.objs.size) { s with heap:=s.heap.push { cls:=.type "dict_valueiterator",data:=.fields #[.ref d,.int 0 0,.int es.size 0,.int ep 0] } }) : wpAny (model P w) A (pyIter (.ref v)) Q E s:=by
 obtain ⟨vo,v1,v2,v3⟩:=id hv
 obtain ⟨b,b1,b2,b3⟩:=hm
 refine wpAny_pyIter_slot hv.typeIs F.slot_dict_values_iter (hy5 F.slot_dict_values_iter hv.typeIs F.entry_dict_values_iter ?_ (F.args_dict_values_iter_1 _))
 unfold Builtin.«dict_values.__iter__»
 refine ay1 (ay9 (ay1 ?_))
 unfold Builtin.Dict_items.dictOf
 refine ay1 (iy8 v1 v3 (x:=.ref d) rfl (ay9 (ay1 ?_)))
 unfold Builtin.Dict_items.newIterator
 refine ay1 (wpAny_dictEntries b1 b3 (ay1 (wpAny_dictEpoch b1 b3 ?_)))
 have own : py7 "dict_valueiterator" = false:=by decide
 simp only [own,ny2,if_false]
 refine gy3 (ay9 ⟨_,rfl, "dict_valueiterator",_,⟨_,by2 _ rfl,rfl⟩,iy9.lookup,?_⟩)
 simpa [rawInt] using hQ
end
def zo2 (v d : Addr) : HO:=.ext fun h=>h.IsValuesView v d
def ItV (d : Addr) (o : Obj) : It:=⟨fun i H=>∃ vs,H d = some (.frz o (.dT vs)) /\ i < vs.length,fun i H x H'=>H' = H /\ ∀ vs,H d = some (.frz o (.dT vs))->∃ p,vs[i]? = some p /\ x = p.2,fun i H=>∃ vs,H d = some (.frz o (.dT vs)) /\ vs.length <= i⟩
/-- the entries of a known dict -/
theorem zl5 {P : dy7} {w : World} {H : Hp} {h : Heap} {d : Addr} {o : Obj} {vs : List (List Key × V)} (x : zd2 P w H h d (.frz o (.dT vs))) : h.get? d = some o /\ (d == ly1) = false /\ ∃ es ep,o.ExactDict /\ o.data = .dict es ep /\ es.size = vs.length /\ ∀ (i : Nat) p,vs[i]? = some p->∃ en,es[i]? = some en /\ RelV p.2 en.val:=by
 obtain ⟨hg,_,hs,xs,pr,o',es,ep,h1,h2,h3,h4,h5⟩:=x
 rw [hg] at h1
 cases h1
 refine ⟨hg,hs,es,ep,h2,h3,by rw [size_of_entries h4,pr.length],fun i p hp=>?_⟩
 obtain ⟨q,hq,_,_,e3⟩:=zi5 pr hp
 exact ⟨_,by rw [entry_at h4,hq]; rfl,e3⟩
theorem zY3 {P : dy7} {w : World} {K : ay2} {tg : Expr} {d : Addr} {o : Obj} {es : Array DictEntry} {ep : Nat} (it : Addr) (hd : o.data = .dict es ep) :
  Turn P w K tg (ItV d o) [it] it (fun i h=>h.IsValIter it d i es.size ep) where
 mem:=by simp
 obj:=fun i h st b hb=>by
  have e : b = it:=by simpa using hb
  subst e
  obtain ⟨o,e,c,d⟩:=st
  exact ⟨o,e,fun v z=>by rw [d] at z; cases z⟩
 keep:=fun i h h' st k=>by
  obtain ⟨o,e,r⟩:=st
  exact ⟨o,k it (by simp) o e,r⟩
 item:=by
  intro X hP hw hK hcm i pins s σ H E I hf st hg
  subst hP hw hK
  obtain ⟨f0,f1,f2,f3,f4,f5⟩:=hf it (by simp)
  obtain ⟨vs,hu,hi⟩:=hg
  obtain ⟨hget,hs,es',ep',g1,g2,g3,g4⟩:=zl5 (show zd2 X.prog X.w H s.heap d (.frz o (.dT vs)) from I.hok d _ hu)
  rw [hd] at g2
  cases g2
  obtain ⟨en,hen,rv⟩:=g4 i vs[i] (ay7 hi)
  refine zK6 st ⟨o,hget,g1,hd⟩ hen fun h' hit' hs'=>?_
  have I1 : Inv X pins σ H { s with heap:=h' }:=I.turned (t':=s.toks) (fun b o hb e=>hs'.extBut b o hb e) f0 f1 f3 f4 f5
  obtain ⟨o',e,c,dd⟩:=id hit'
  exact ⟨_,rfl,zN3 (s:={ s with heap:=h' }) e c dd (by decide) ⟨vs[i].2,H,I1,rv,⟨rfl,fun vs' hv'=>by
   rw [hu] at hv'
   cases hv'
   exact ⟨_,ay7 hi,rfl⟩⟩,hit',fun b hb=>(hf b hb).1⟩⟩
 done:=by
  intro X hP hw hK hcm i pins s σ H E I hf st hg
  subst hP hw hK
  obtain ⟨f0,f1,f2,f3,f4,f5⟩:=hf it (by simp)
  obtain ⟨vs,hu,hi⟩:=hg
  obtain ⟨hget,hs,es',ep',g1,g2,g3,g4⟩:=zl5 (show zd2 X.prog X.w H s.heap d (.frz o (.dT vs)) from I.hok d _ hu)
  rw [hd] at g2
  cases g2
  exact zY2 (I.ok.hd hcm) st ⟨o,hget,g1,hd⟩ (by omega) fun h' eb=>⟨rfl,I.turned (t':=s.toks) (fun b o hb e=>eb b o hb e) f0 f1 f3 f4 f5⟩
 self:=fun _ _ _ _ _ st h=>wpAny_pyIter_valiter st h
section
variable {X : Cx} {tg : Expr}
/-- d.values(),d known -/
theorem zc09 {o : Expr} {to : TE} {apos cpos : Pos} (ho : PE X o to) (hbase : attributeBase o "values" X.env (eval o X.env) = eval o X.env:=by rfl) (hline : (apos.endLine == cpos.line) = true:=by rfl) :
  PE X (.Call (.Attribute o "values" apos) [] [] cpos) (fun σ H Q=>to σ H fun x H1=>∃ d ob vs,x = .ref d /\ H1 d = some (.frz ob (.dT vs)) /\ ∀ v,H1 v = none->Q (.ref v) (upd H1 v (zo2 v d))):=by
 intro pins s σ H Q I h
 refine wpAny_Call_method0_late hbase hline (thn (ho pins s σ H _ I h) fun v s1 ⟨x,H1,I1,r1,d,ob,vs,hx,hd,q⟩=>?_)
 subst hx
 cases r1
 obtain ⟨hget,hs,es,ep,g1,g2,_⟩:=zl5 (show zd2 X.prog X.w H1 s1.heap d (.frz ob (.dT vs)) from I1.hok d _ hd)
 have ty : s1.TypeIs (.ref d) "dict" := ⟨ob,hget,g1.1⟩
 refine ⟨"dict", "dict.values",jy9,oy2,PySem.F.type_dict_values,ty,fun a e=>by cases e; exact ⟨ob,hget,g1.2.1⟩,Calls.callWith_builtin rfl (PySem.evalArgs_none ?_)⟩
 refine hy5 oy2 ty PySem.F.entry_dict_values ?_ (PySem.F.args_dict_values_1 _)
 refine ay1 ?_
 unfold Builtin.Dict.noArgs
 refine ay1 (wpAny_notOrdered_dict ty ?_)
 show wpAny _ _ (pure d) _ _ s1
 refine ay9 ?_
 show wpAny _ _ (qy4 d >>= _) _ _ s1
 unfold Builtin.Dict.showsAll
 rw [if_neg (by rw [hs]; exact cy3)]
 refine ay1 (ay9 (ay1 (gy3 (ay9 ⟨_,rfl,?_⟩))))
 refine ⟨.ref s1.heap.objs.size,_,I1.laid (t':=s1.toks) (o:=zo2 s1.heap.objs.size d) (fun b u q=>ay6 _ q) (ay5 _) ?_,rfl,q _ (I1.hok.fresh (ay5 _))⟩
 exact ⟨⟨_,by2 _ rfl,rfl,rfl⟩,⟨_,by2 _ rfl⟩,fun h1 h2 ⟨o,a,b,c⟩ k=>⟨o,k o a,b,c⟩⟩
theorem zc10 {l : Expr} {tl : TE} (hl : PE X l tl) : PI X tg l (fun σ H R=>tl σ H fun v H1=>∃ vw d o vs,v = .ref vw /\ H1 vw = some (zo2 vw d) /\ H1 d = some (.frz o (.dT vs)) /\ R (ItV d o) H1):=by
 intro pins s σ H R I h
 refine thn (hl pins s σ H _ I h) fun v s1 ⟨y,H1,I1,r1,vw,d,o,vs,hy,hv,hd,q⟩=>?_
 subst hy
 cases r1
 obtain ⟨hvw,_,_⟩:=(show zd2 X.prog X.w H1 s1.heap vw (zo2 vw d) from I1.hok vw _ hv)
 obtain ⟨hget,hs,es,ep,g1,g2,_⟩:=zl5 (show zd2 X.prog X.w H1 s1.heap d (.frz o (.dT vs)) from I1.hok d _ hd)
 refine zK7 hvw ⟨o,hget,g1,g2⟩ ?_
 refine ⟨s1.heap.objs.size,[s1.heap.objs.size],_,_,H1,rfl,I1.kept (t':=s1.toks) fun b o e=>ay6 _ e,zY3 _ g2,⟨_,by2 _ rfl,rfl,rfl⟩,fun b hb=>?_,q⟩
 have e : b = s1.heap.objs.size:=by simpa using hb
 subst e
 exact I1.fpOk (ay5 _) (I1.hok.fresh (ay5 _))
end
section
variable {X : Bc} {W : Wl} {k : KB}
/-- a proper part of a tuple,as a key -/
theorem zc11 {ds : List PyData} {lo hi : Option Int} {ks : List Key} (hk : zx0 ds lo hi = ks.map keyD) (hl : ks.length < ds.length) (h : k (.p ks) W) : LB X (.d (.tuple ds)) lo hi W k:=.of zb30 fun F A H Q vx r zx q=>by
 obtain ⟨a,vs,rfl,hs,z⟩:=Rq.zi7 zx
 refine ⟨a,vs,rfl,r.sub.zw8 hs,fun hw=>?_,fun p hp=>?_⟩
 ·have h1:=congrArg List.length hk
  rw [ay3] at h1
  unfold zx0 at h1
  rw [zb6 z,hw.1,hw.2] at h1
  simp at h1
  have:=zb6 z
  omega
 ·have z':=zD5 z lo hi
  rw [hk] at z'
  have ev : zO1 vs lo hi = ks.map kV:=by
   have : ∀ {ks : List Key} {vs : List V},Paired (fun d v=>Rq X.K F v d) (ks.map keyD) vs->vs = ks.map kV:=by
    intro ks
    induction ks with
    | nil=>intro vs h; cases h; rfl
    | cons a ks ih =>
     intro vs h
     cases h with
     | cons x t =>
      rw [ih t,fy4]
      congr 1
      cases a with
      | inl i=>exact Rq.zd4 x
      | inr y=>exact Rq.zg1 x
   exact this z'
  rw [ev]
  obtain ⟨r',x⟩:=r.newF hp (.tup (ks.map kV))
  exact q _ _ _ _ (.p ks) _ x r' ⟨p,rfl,zc4⟩ h
end
end L2
namespace L2
open PySem PySem.Spec PyProof.Rows PySem.SeqAt PySem.MeetsSeq
end L2
namespace L2
open PySem PySem.Spec PyProof.Rows
theorem zY4 {α β : Type} {F : α->β->Prop} : ∀ {l : List α} {m : List β},l.length = m.length->(∀ (i : Nat) a b,l[i]? = some a->m[i]? = some b->F a b)->Paired F l m
 | [],[],_,_=>.nil
 | [],_ :: _,h,_=>by simp at h
 | _ :: _,[],h,_=>by simp at h
 | a :: l,b :: m,h,q=>.cons (q 0 a b rfl rfl) (zY4 (by simpa using h) fun i x y hx hy=>q (i + 1) x y (by simpa using hx) (by simpa using hy))
def ltL : List Str->List Str->Bool
 | x :: xs,y :: ys=>if x = y then ltL xs ys else ltS x y
 | _,_=>false
theorem zH3 : ∀ xs : List Str,ltL xs xs = false
 | []=>rfl
 | x :: xs=>by simp [ltL,zH3 xs]
theorem zq0 : ∀ {a b c : List Str},a.length = b.length->b.length = c.length->ltL a b = true->ltL b c = true->ltL a c = true
 | [],_,_,_,_,h,_=>by simp [ltL] at h
 | x :: a,[],_,h1,_,_,_=>by simp at h1
 | x :: a,y :: b,[],_,h2,_,_=>by simp at h2
 | x :: a,y :: b,z :: c,h1,h2,h,h'=>by
  have h1 : a.length = b.length:=by simpa using h1
  have h2 : b.length = c.length:=by simpa using h2
  unfold ltL at h h' ⊢
  by_cases e : x = y
  ·rw [if_pos e] at h
   by_cases e' : y = z
   ·rw [if_pos e'] at h'; rw [if_pos (e.trans e')]; exact zq0 h1 h2 h h'
   ·rw [if_neg e'] at h'; rw [if_neg (by rw [e]; exact e'),e]; exact h'
  ·rw [if_neg e] at h
   by_cases e' : y = z
   ·rw [if_pos e'] at h'; rw [if_neg (by rw [<- e']; exact e),<- e']; exact h
   ·rw [if_neg e'] at h'
    have h3:=zY0 h h'
    have : x ≠ z:=fun w=>by rw [w,zc08] at h3; cases h3
    rw [if_neg this]; exact h3
theorem zA8 : ∀ {a b : List Str},a.length = b.length->a ≠ b->ltL a b = false->ltL b a = true
 | [],[],_,h,_=>absurd rfl h
 | [],_ :: _,h,_,_=>by simp at h
 | _ :: _,[],h,_,_=>by simp at h
 | x :: a,y :: b,h1,h,h'=>by
  have h1 : a.length = b.length:=by simpa using h1
  unfold ltL at h' ⊢
  by_cases e : x = y
  ·rw [if_pos e] at h'; rw [if_pos e.symm]
   exact zA8 h1 (fun z=>h (by rw [e,z])) h'
  ·rw [if_neg e] at h'; rw [if_neg (iy5 e)]
   exact zc07 e h'
theorem zK8 {a b : List Str} (hl : a.length = b.length) (h : ltL a b = true) : ltL b a = false:=by
 cases h' : ltL b a with
 | false=>rfl
 | true =>
  have:=zq0 hl hl.symm h h'
  rw [zH3] at this
  cases this
end L2
namespace L2
open PySem PySem.Spec PyProof.Rows
open PySem.W
section
variable {prog : dy7} {w : World} {A : Around} {E : Value->Shared->Prop} {s : Shared}
theorem zK9 {fin : Bool} {Q : Bool->Shared->Prop} : ∀ (xs ys : List Str) (its its2 : List Value) (i : Nat),Vals (xs.map V.str) its->Vals (ys.map V.str) its2->xs.length = ys.length->xs ≠ ys->Q (ltL xs ys) s->KatLex prog w A true fin Q (its.zip its2) (i + 1) s
 | [],[],_,_,_,_,_,_,h,_=>absurd rfl h
 | [],_ :: _,_,_,_,_,_,h,_,_=>by simp at h
 | _ :: _,[],_,_,_,_,_,h,_,_=>by simp at h
 | x :: xs,y :: ys,_,_,i,.cons rx r,.cons ry r',hl,hne,h=>by
  obtain ⟨t,rfl⟩:=rx
  obtain ⟨u,rfl⟩:=ry
  rw [List.zip_cons_cons,KatLex.eq_2]
  refine wpAny_eqBool_str ?_
  unfold ltL at h
  by_cases e : x = y
  ·rw [decide_eq_true e,if_pos rfl]
   rw [if_pos e] at h
   exact zK9 xs ys _ _ (i + 1) r r' (by simpa using hl) (fun z=>hne (by rw [e,z])) h
  ·rw [decide_eq_false e,if_neg (by decide)]
   rw [if_neg e] at h
   exact kat_one _ _ (PySem.P.lt_str h)
theorem zY5 {fin : Bool} {Q : Bool->Shared->Prop} {xs ys : List Str} {its its2 : List Value} (rx : Vals (xs.map V.str) its) (ry : Vals (ys.map V.str) its2) (hl : xs.length = ys.length) (hne : xs ≠ ys) (h : Q (ltL xs ys) s) : KatLex prog w A true fin Q (its.zip its2) 0 s:=by
 cases xs with
 | nil =>
  cases ys with
  | nil=>exact absurd rfl hne
  | cons y ys=>simp at hl
 | cons x xs =>
  cases ys with
  | nil=>simp at hl
  | cons y ys =>
   cases rx with
   | cons rx r =>
    cases ry with
    | cons ry r' =>
     obtain ⟨t,rfl⟩:=rx
     obtain ⟨u,rfl⟩:=ry
     rw [List.zip_cons_cons,KatLex.eq_2]
     refine wpAny_eqBool_str ?_
     unfold ltL at h
     by_cases e : x = y
     ·rw [decide_eq_true e,if_pos rfl]
      rw [if_pos e] at h
      exact zK9 xs ys _ _ 0 r r' (by simpa using hl) (fun z=>hne (by rw [e,z])) h
     ·rw [decide_eq_false e,if_neg (by decide)]
      rw [if_neg e] at h
      refine strKind_oneLt prog w A _ s _ _ x.cps.toList y.cps.toList rfl rfl ?_
      exact h
end
def IsTL (h : Heap) (b : Addr) (p : List Str) : Prop:=∃ o n,∃ its : List Value,h.get? b = some o /\ o.cls = .type "tuple" /\ o.data = .seq its.toArray n /\ Vals (p.map V.str) its
section
variable {X : Bc} {S : Sl} {W : Wl} {k : KB}
theorem za87 {K : ay2} {F : Hp} {xs : List Str} {vs : List V} (h : Paired (fun d v=>Rq K F v d) (xs.map PyData.str) vs) : vs = xs.map V.str:=zz4 h
end
theorem zY6 {P : dy7} {w : World} {es : List DictEntry} {vs : List (Key × Value)} (h : Pairs (ze3 P w) es vs) : es.length = vs.length /\ ∀ (i : Nat) q,vs[i]? = some q->∃ en,es[i]? = some en /\ zF6 q.1 en.key = true /\ en.val = q.2:=by
 induction h with
 | nil=>exact ⟨rfl,fun i q h=>by simp at h⟩
 | @cons e kv es kvs h1 h2 h3 ih =>
  refine ⟨by simp [ih.1],fun i q hq=>?_⟩
  cases i with
  | zero=>simp at hq; subst hq; exact ⟨e,rfl,h1,h2⟩
  | succ i=>exact ih.2 i q (by simpa using hq)
/-- the entries of a known dict -/
theorem zj2 {P : dy7} {w : World} {H : Hp} {h : Heap} {d : Addr} {o : Obj} {vs : List (Key × V)} (x : zd2 P w H h d (.frz o (.dK vs))) : h.get? d = some o /\ (d == ly1) = false /\ ∃ es ep,o.ExactDict /\ o.data = .dict es ep /\ es.size = vs.length /\ ∀ (i : Nat) p,vs[i]? = some p->∃ en,es[i]? = some en /\ RelV (kV p.1) en.key /\ RelV p.2 en.val:=by
 obtain ⟨hg,_,hs,qs,kv,o',es,ep,h1,h2,h3,h4,h5,h6⟩:=x
 rw [hg] at h1
 cases h1
 obtain ⟨g1,g2⟩:=zY6 h5
 have hl : es.size = vs.length:=by
  have:=kv.length
  rw [<- hy9,g1]
  exact this.symm
 refine ⟨hg,hs,es,ep,h2,h3,hl,fun i p hp=>?_⟩
 obtain ⟨q,hq,e1,e2⟩:=zi5 kv hp
 obtain ⟨en,a1,a2,a3⟩:=g2 i q hq
 refine ⟨en,by rw [<- ny0]; exact a1,?_,by rw [a3]; exact e2⟩
 rw [e1]
 rcases ze0 a2 with ⟨j,t,hj,hk⟩ | ⟨y,t,hy,hk⟩
 ·rw [hj,hk]; exact ⟨t,rfl⟩
 ·rw [hy,hk]; exact ⟨t,rfl⟩
section
variable {X : Cx} {tg : Expr}
theorem Inv.frzK {pins : List (Addr × Obj)} {σ : St} {H : Hp} {s : Shared} {d : Addr} {kvs : List (Key × V)} (I : Inv X pins σ H s) (e : H d = some (.dK kvs)) : ∃ o,Inv X pins σ (upd H d (.frz o (.dK kvs))) s:=by
 obtain ⟨z,hs,vs,kv,o,es,ep,h1,h2⟩:=I.hok d _ e
 refine ⟨o,?_⟩
 have ht : ∀ b ys,H b = some (.tup ys)->upd H d (.frz o (.dK kvs)) b = some (.tup ys):=fun b ys hb=>by
  rw [zb3 (zN0 hb e (by simp))]; exact hb
 refine I.write (x:=d) (e:=d) (h':=s.heap) (t':=s.toks) (o:=.frz o (.dK kvs)) (by rw [e]; trivial) (.inl rfl) (fun _ _ _ q=>q) ⟨o,h1⟩ ⟨h1,?_⟩
 exact zd2.zN1 (I.hok d _ e) (fun _ _ _ q=>q) (fun b hb=>by rw [zb3 (zN0 hb e (by simp))]; exact hb) ht
theorem zc12 {st : Stmt} {t : TS} (h : PS X st t) : PS X st fun E σ H=>∃ d kvs,H d = some (.dK kvs) /\ ∀ o,t ⟨fun σ' H'=>∃ kvs',H' d = some (.frz o (.dK kvs')) /\ E.nx σ' (upd H' d (.dK kvs')),fun v H'=>∃ kvs',H' d = some (.frz o (.dK kvs')) /\ E.rt v (upd H' d (.dK kvs')),fun σ' H'=>∃ kvs',H' d = some (.frz o (.dK kvs')) /\ E.bk σ' (upd H' d (.dK kvs')),fun σ' H'=>∃ kvs',H' d = some (.frz o (.dK kvs')) /\ E.ct σ' (upd H' d (.dK kvs'))⟩ σ (upd H d (.frz o (.dK kvs))):=by
 intro pins s σ H E I ⟨d,kvs,hd,q⟩
 obtain ⟨o,I1⟩:=I.frzK hd
 have h0 : ∀ o' u',X.H₀ d ≠ some (.frz o' u'):=fun o' u' z=>by
  have:=I.base.frzs d o' u' z
  rw [hd] at this
  cases this
 refine thn (h pins s σ _ _ I1 (q o)) fun f s1 hf=>?_
 cases f with
 | next=>obtain ⟨σ',H',I2,kvs',e1,q1⟩:=hf; exact ⟨σ',_,I2.zE5 e1 h0,q1⟩
 | brk=>obtain ⟨σ',H',I2,kvs',e1,q1⟩:=hf; exact ⟨σ',_,I2.zE5 e1 h0,q1⟩
 | cont=>obtain ⟨σ',H',I2,kvs',e1,q1⟩:=hf; exact ⟨σ',_,I2.zE5 e1 h0,q1⟩
 | ret u=>obtain ⟨v,σ',H',I2,r,kvs',e1,q1⟩:=hf; exact ⟨v,σ',_,I2.zE5 e1 h0,r,q1⟩
end
section
variable {X : Bc} {n : Nat} {S : Sl} {W : Wl} {k : KB} {D : DB}
/-- .. in the statement -/
theorem zc13 {st : Stmt} {j mb : Nat} {kvs : List (Key × El)} (hj : W[j]? = some (.dK kvs)) (hnm : n <= mb) (hn' : j < mb) (hmW : mb <= W.length) (h : ∀ o,BS X mb S (W.set j (.fK o kvs)) st ⟨fun S1 W1=>W1[j]? = some (.fK o kvs) /\ D.nx S1 (W1.set j (.dK kvs)),fun y W1=>W1[j]? = some (.fK o kvs) /\ D.rt y (W1.set j (.dK kvs)),fun S1 W1=>W1[j]? = some (.fK o kvs) /\ D.bk S1 (W1.set j (.dK kvs)),fun S1 W1=>W1[j]? = some (.fK o kvs) /\ D.ct S1 (W1.set j (.dK kvs))⟩) : BS X n S W st D :=
 .of (zc12 ps_U) fun F A σ H E hn x0 r sr q=>by
  have hlW : j < W.length:=(ay0.mp hj).1
  have hlA : j < A.length:=by rw [r.len]; exact hlW
  have hmA : mb <= A.length:=by rw [r.len]; exact hmW
  have hjA : A[j]? = some A[j]:=by simp [hlA]
  obtain ⟨ho,eH,vs,rfl,p⟩:=r.obj j _ _ hjA hj
  refine ⟨A[j],vs,eH,fun o=>?_⟩
  have r2 : RW X.K F A (W.set j (.fK o kvs)) (upd H A[j] (.frz o (.dK vs))):=r.put hjA ⟨vs,rfl,p⟩
  have at_ : ∀ {F2 A2},Ex1 mb F A F2 A2->A2[j]? = some A[j]:=fun {F2 A2} x=>by
   have e:=zl3 x.pre hmA
   have:=congrArg (fun l=>l[j]?) e
   simp only [dy9 hn'] at this
   rw [this]; exact hjA
  have back : ∀ {F2 A2 W2 H2},Ex1 mb F A F2 A2->RW X.K F2 A2 W2 H2->W2[j]? = some (.fK o kvs)->∃ vs',H2 A[j] = some (.frz o (.dK vs')) /\ RW X.K F2 A2 (W2.set j (.dK kvs)) (upd H2 A[j] (.dK vs')):=fun {F2 A2 W2 H2} x r3 hw=>by
   obtain ⟨h',e',vs',rfl,p'⟩:=r3.obj j _ _ (at_ x) hw
   exact ⟨vs',e',r3.put (o:=.dK kvs) (at_ x) ⟨vs',rfl,p'⟩⟩
  refine (h o).use hmA (x0.up hnm) r2 sr ⟨fun F2 A2 W2 H2 S2 σ2 x r3 sr3 ⟨hw,hk⟩=>?_,fun F2 A2 W2 H2 S2 σ2 x r3 sr3 ⟨hw,hk⟩=>?_,fun F2 A2 W2 H2 S2 σ2 x r3 sr3 ⟨hw,hk⟩=>?_,fun F2 A2 W2 H2 e v x r3 z3 ⟨hw,hk⟩=>?_⟩
  ·obtain ⟨vs',e',r4⟩:=back x r3 hw
   exact ⟨vs',e',q.nx _ _ _ _ _ _ (x.le hnm) r4 sr3 hk⟩
  ·obtain ⟨vs',e',r4⟩:=back x r3 hw
   exact ⟨vs',e',q.bk _ _ _ _ _ _ (x.le hnm) r4 sr3 hk⟩
  ·obtain ⟨vs',e',r4⟩:=back x r3 hw
   exact ⟨vs',e',q.ct _ _ _ _ _ _ (x.le hnm) r4 sr3 hk⟩
  ·obtain ⟨vs',e',r4⟩:=back x r3 hw
   exact ⟨vs',e',q.rt _ _ _ _ _ _ (x.le hnm) r4 z3 hk⟩
end
def ItVK (d : Addr) (o : Obj) : It:=⟨fun i H=>∃ vs,H d = some (.frz o (.dK vs)) /\ i < vs.length,fun i H x H'=>H' = H /\ ∀ vs,H d = some (.frz o (.dK vs))->∃ p,vs[i]? = some p /\ x = p.2,fun i H=>∃ vs,H d = some (.frz o (.dK vs)) /\ vs.length <= i⟩
theorem zP8 {P : dy7} {w : World} {K : ay2} {tg : Expr} {d : Addr} {o : Obj} {es : Array DictEntry} {ep : Nat} (it : Addr) (hd : o.data = .dict es ep) :
  Turn P w K tg (ItVK d o) [it] it (fun i h=>h.IsValIter it d i es.size ep) where
 mem:=by simp
 obj:=fun i h st b hb=>by
  have e : b = it:=by simpa using hb
  subst e
  obtain ⟨o,e,c,d⟩:=st
  exact ⟨o,e,fun v z=>by rw [d] at z; cases z⟩
 keep:=fun i h h' st k=>by
  obtain ⟨o,e,r⟩:=st
  exact ⟨o,k it (by simp) o e,r⟩
 item:=by
  intro X hP hw hK hcm i pins s σ H E I hf st hg
  subst hP hw hK
  obtain ⟨f0,f1,f2,f3,f4,f5⟩:=hf it (by simp)
  obtain ⟨vs,hu,hi⟩:=hg
  obtain ⟨hget,hs,es',ep',g1,g2,g3,g4⟩:=zj2 (show zd2 X.prog X.w H s.heap d (.frz o (.dK vs)) from I.hok d _ hu)
  rw [hd] at g2
  cases g2
  obtain ⟨en,hen,rk,rv⟩:=g4 i vs[i] (ay7 hi)
  refine zK6 st ⟨o,hget,g1,hd⟩ hen fun h' hit' hs'=>?_
  have I1 : Inv X pins σ H { s with heap:=h' }:=I.turned (t':=s.toks) (fun b o hb e=>hs'.extBut b o hb e) f0 f1 f3 f4 f5
  obtain ⟨o',e,c,dd⟩:=id hit'
  exact ⟨_,rfl,zN3 (s:={ s with heap:=h' }) e c dd (by decide) ⟨vs[i].2,H,I1,rv,⟨rfl,fun vs' hv'=>by
   rw [hu] at hv'
   cases hv'
   exact ⟨_,ay7 hi,rfl⟩⟩,hit',fun b hb=>(hf b hb).1⟩⟩
 done:=by
  intro X hP hw hK hcm i pins s σ H E I hf st hg
  subst hP hw hK
  obtain ⟨f0,f1,f2,f3,f4,f5⟩:=hf it (by simp)
  obtain ⟨vs,hu,hi⟩:=hg
  obtain ⟨hget,hs,es',ep',g1,g2,g3,g4⟩:=zj2 (show zd2 X.prog X.w H s.heap d (.frz o (.dK vs)) from I.hok d _ hu)
  rw [hd] at g2
  cases g2
  exact zY2 (I.ok.hd hcm) st ⟨o,hget,g1,hd⟩ (by omega) fun h' eb=>⟨rfl,I.turned (t':=s.toks) (fun b o hb e=>eb b o hb e) f0 f1 f3 f4 f5⟩
 self:=fun _ _ _ _ _ st h=>wpAny_pyIter_valiter st h
section
variable {X : Cx} {tg : Expr}
/-- d.values(),d known -/
theorem za88 {o : Expr} {to : TE} {apos cpos : Pos} (ho : PE X o to) (hbase : attributeBase o "values" X.env (eval o X.env) = eval o X.env:=by rfl) (hline : (apos.endLine == cpos.line) = true:=by rfl) :
  PE X (.Call (.Attribute o "values" apos) [] [] cpos) (fun σ H Q=>to σ H fun x H1=>∃ d ob vs,x = .ref d /\ H1 d = some (.frz ob (.dK vs)) /\ ∀ v,H1 v = none->Q (.ref v) (upd H1 v (zo2 v d))):=by
 intro pins s σ H Q I h
 refine wpAny_Call_method0_late hbase hline (thn (ho pins s σ H _ I h) fun v s1 ⟨x,H1,I1,r1,d,ob,vs,hx,hd,q⟩=>?_)
 subst hx
 cases r1
 obtain ⟨hget,hs,es,ep,g1,g2,_⟩:=zj2 (show zd2 X.prog X.w H1 s1.heap d (.frz ob (.dK vs)) from I1.hok d _ hd)
 have ty : s1.TypeIs (.ref d) "dict" := ⟨ob,hget,g1.1⟩
 refine ⟨"dict", "dict.values",jy9,oy2,PySem.F.type_dict_values,ty,fun a e=>by cases e; exact ⟨ob,hget,g1.2.1⟩,Calls.callWith_builtin rfl (PySem.evalArgs_none ?_)⟩
 refine hy5 oy2 ty PySem.F.entry_dict_values ?_ (PySem.F.args_dict_values_1 _)
 refine ay1 ?_
 unfold Builtin.Dict.noArgs
 refine ay1 (wpAny_notOrdered_dict ty ?_)
 show wpAny _ _ (pure d) _ _ s1
 refine ay9 ?_
 show wpAny _ _ (qy4 d >>= _) _ _ s1
 unfold Builtin.Dict.showsAll
 rw [if_neg (by rw [hs]; exact cy3)]
 refine ay1 (ay9 (ay1 (gy3 (ay9 ⟨_,rfl,?_⟩))))
 refine ⟨.ref s1.heap.objs.size,_,I1.laid (t':=s1.toks) (o:=zo2 s1.heap.objs.size d) (fun b u q=>ay6 _ q) (ay5 _) ?_,rfl,q _ (I1.hok.fresh (ay5 _))⟩
 exact ⟨⟨_,by2 _ rfl,rfl,rfl⟩,⟨_,by2 _ rfl⟩,fun h1 h2 ⟨o,a,b,c⟩ k=>⟨o,k o a,b,c⟩⟩
theorem za89 {l : Expr} {tl : TE} (hl : PE X l tl) : PI X tg l (fun σ H R=>tl σ H fun v H1=>∃ vw d o vs,v = .ref vw /\ H1 vw = some (zo2 vw d) /\ H1 d = some (.frz o (.dK vs)) /\ R (ItVK d o) H1):=by
 intro pins s σ H R I h
 refine thn (hl pins s σ H _ I h) fun v s1 ⟨y,H1,I1,r1,vw,d,o,vs,hy,hv,hd,q⟩=>?_
 subst hy
 cases r1
 obtain ⟨hvw,_,_⟩:=(show zd2 X.prog X.w H1 s1.heap vw (zo2 vw d) from I1.hok vw _ hv)
 obtain ⟨hget,hs,es,ep,g1,g2,_⟩:=zj2 (show zd2 X.prog X.w H1 s1.heap d (.frz o (.dK vs)) from I1.hok d _ hd)
 refine zK7 hvw ⟨o,hget,g1,g2⟩ ?_
 refine ⟨s1.heap.objs.size,[s1.heap.objs.size],_,_,H1,rfl,I1.kept (t':=s1.toks) fun b o e=>ay6 _ e,zP8 _ g2,⟨_,by2 _ rfl,rfl,rfl⟩,fun b hb=>?_,q⟩
 have e : b = s1.heap.objs.size:=by simpa using hb
 subst e
 exact I1.fpOk (ay5 _) (I1.hok.fresh (ay5 _))
end
section
variable {X : Bc} {S : Sl} {W : Wl} {k : KB}
structure zd44 (K : ay2) (m : Nat) (F1 : Hp) (A1 : List Addr) (G : Wl->Prop) (J : It) (es : List El) : Prop where
 go : ∀ i F' A' W' H',i < es.length->Ex1 m F1 A1 F' A'->RW K F' A' W' H'->G W'->J.go i H'
 yld : ∀ i F' A' W' H' x H'',i < es.length->Ex1 m F1 A1 F' A'->RW K F' A' W' H'->G W'->J.yld i H' x H''->H'' = H' /\ ∃ e,es[i]? = some e /\ ElR K F' A' e x
 stop : ∀ F' A' W' H',Ex1 m F1 A1 F' A'->RW K F' A' W' H'->G W'->J.stop es.length H'
def BIE (X : Bc) (S : Sl) (W : Wl) (tg iter : Expr) (k : Nat->(Wl->Prop)->List El->Wl->Prop) : Prop:=∀ F A σ H (R : It->Hp->Prop),X.Am F A->RW X.K F A W H->SR X.K F A S σ ->
 (∀ m G F1 A1 W1 H1 es J,Ext F A F1 A1->RW X.K F1 A1 W1 H1->m <= A1.length->zd44 X.K m F1 A1 G J es->k m G es W1->R J H1)->tUI X tg iter σ H R
/-- for x in d.values(): anything -/
theorem za90 {tg o : Expr} {apos cpos : Pos} {ki : Nat->(Wl->Prop)->List El->Wl->Prop} (h : BE X S W o fun y W1=>∃ (j : Nat) (ob : Obj) (L : List (Key × El)),y = .o j /\ W1[j]? = some (.fK ob L) /\ ki (j + 1) (fun W'=>W'[j]? = some (.fK ob L)) (L.map (·.2)) W1)
  (hbase : attributeBase o "values" X.env (eval o X.env) = eval o X.env:=by rfl) (hline : (apos.endLine == cpos.line) = true:=by rfl) : BIE X S W tg (.Call (.Attribute o "values" apos) [] [] cpos) ki:=fun F A σ H R x0 r sr q =>
 ⟨_,za89 (za88 zi0 hbase hline),h.use x0 r sr fun F1 A1 W1 H1 y vy e1 r1 z1 ⟨j,ob,L,hy,hj,h1⟩=>by
  subst hy
  obtain ⟨a,ha,rfl⟩:=z1
  have hja : j < A1.length:=(ay0.mp ha).1
  have ha' : ∀ {F' A'},Ex1 (j + 1) F1 A1 F' A'->A'[j]? = some a:=fun {F' A'} x=>by
   have e:=zl3 x.pre (by omega)
   have:=congrArg (fun l=>l[j]?) e
   simp only [dy9 (my7 j)] at this
   rw [this]; exact ha
  obtain ⟨u0,e0,vs0,rfl,p0⟩:=r1.obj j a _ ha hj
  refine ⟨a,ob,vs0,rfl,e0,fun v hv=>⟨v,a,ob,vs0,rfl,zc4,by rw [zb3 (zb1 e0 hv)]; exact e0,?_⟩⟩
  have r2 : RW X.K F1 A1 W1 (upd H1 v (zo2 v a)):=r1.grown (zp3 hv)
  have key : ∀ {F' A' W' H'},Ex1 (j + 1) F1 A1 F' A'->RW X.K F' A' W' H'->W'[j]? = some (.fK ob L)->∃ vs,H' a = some (.frz ob (.dK vs)) /\ Paired (fun p q=>p.1 = q.1 /\ ElR X.K F' A' p.2 q.2) L vs:=fun x r' hG=>by
   obtain ⟨u,e,vs,rfl,p⟩:=r'.obj j a _ (ha' x) hG
   exact ⟨vs,e,p⟩
  refine q (j + 1) _ F1 A1 W1 _ _ _ e1 r2 hja ⟨fun i F' A' W' H' hi x r' hG=>?_,fun i F' A' W' H' y H'' hi x r' hG hy=>?_,fun F' A' W' H' x r' hG=>?_⟩ h1
  ·obtain ⟨vs,e,p⟩:=key x r' hG
   refine ⟨vs,e,?_⟩
   have:=zb6 p
   rw [ay3] at hi
   omega
  ·obtain ⟨vs,e,p⟩:=key x r' hG
   obtain ⟨e',hy⟩:=hy
   obtain ⟨pp,hp,rfl⟩:=hy vs e
   obtain ⟨b,hb,zb⟩:=zi6 p hp
   exact ⟨e',b.2,by rw [ay4,hb]; rfl,zb.2⟩
  ·obtain ⟨vs,e,p⟩:=key x r' hG
   refine ⟨vs,e,?_⟩
   have:=zb6 p
   rw [ay3]
   omega⟩
end
end L2
namespace L2
open PySem PySem.Spec PyProof.Rows
section
variable {X : Bc} {n : Nat} {S : Sl} {W : Wl} {D : DB} {k : KB} {tg iter elt : Expr} {ifs : List Expr} {O Fv : List Str} {cap : List Nat} {scope : Scope} {pos : Pos}
abbrev KCO (X : Bc) (O Fv : List Str) (cap : List Nat) (scope : Scope) (S : Sl) (tg elt : Expr) (ifs : List Expr) (k : List El->Wl->Prop) : Nat->(Wl->Prop)->List PyData->Wl->Prop:=fun m G ds W1=>∃ P : Nat->List El->Wl->Prop,
 P 0 [] W1 /\ (∀ i ys W',i <= ds.length->P i ys W'->G W' /\ ys.length <= by0) /\
  (∀ i d ys W',ds[i]? = some d->P i ys W'->BGc X (O++Fv) scope O.length (cmpS O cap S) W' tg (.d d) fun S2 W2=>BTc X (O++Fv) scope S2 W2 ifs fun b W3 =>
   if b = true then BEc X (O++Fv) scope S2 W3 elt fun y W4=>P (i + 1) (ys++[y]) W4 else P (i + 1) ys W3) /\
  ∀ ys W',P ds.length ys W'->k ys W'
theorem zP9 {F : Hp} {A : List Addr} {σ : St} {H : Hp} {Q : VK} {k : List El->Wl->Prop} (h : BI X S W tg iter (KCO X O Fv cap scope S tg elt ifs k)) (x0 : X.Am F A) (r : RW X.K F A W H) (sr : SR X.K F A S σ)
  (q : ∀ F' A' W' H' ys vs p,Ext F A F' A'->RW X.K F' A' W' H'->Paired (ElR X.K F' A') ys vs->H' p = none->k ys W'->Q (.ref p) (upd H' p (.lst vs))) :
  zU5 (tUI X tg iter) O cap (tUGc X (O++Fv) scope O.length tg) (tUTc X (O++Fv) scope ifs) (tUEc X (O++Fv) scope elt) σ H Q :=
 h F A σ H _ x0 r sr fun m G F1 A1 W1 H1 ds J e1 r1 hm1 wk ⟨P,p0,hG,hs,hd⟩=>by
  refine ⟨fun i μ ys H'=>μ = ds.length - i /\ i <= ds.length /\ ∃ F' A' W' yd,Ext F1 A1 F' A' /\ RW X.K F' A' W' H' /\ Paired (ElR X.K F' A') yd ys /\ P i yd W',⟨ds.length,by simp,dy8 _,F1,A1,W1,[],.refl,r1,.nil,p0⟩,?_⟩
  rintro i μ ys H' ⟨rfl,hi,F',A',W',yd,x,r',z',p⟩
  obtain ⟨g,hz⟩:=hG i yd W' hi p
  refine ⟨by rw [<- zb6 z']; exact hz,?_⟩
  by_cases hlt : i < ds.length
  ·refine .inr ⟨wk.go i F' A' W' H' hlt (x.ex1 hm1) r' g,fun ys2 H2=>∃ F2 A2 W2 yd2,Ext F1 A1 F2 A2 /\ RW X.K F2 A2 W2 H2 /\ Paired (ElR X.K F2 A2) yd2 ys2 /\ P (i + 1) yd2 W2,fun ys2 H2 p2=>⟨ds.length - (i + 1),by omega,rfl,hlt,p2⟩,fun v H'' hy=>?_⟩
   obtain ⟨rfl,d,hd',zd⟩:=wk.yld i F' A' W' H' v H'' hlt (x.ex1 hm1) r' g hy
   have srx:=sr.ext (e1.trans x)
   refine hs i d yd W' hd' p F' A' (ze1 O cap σ) H'' v _ r' srx.cmp zd fun S2 σ2 sr2 h2=>?_
   refine h2 F' A' σ2 H'' _ (x0.trans (e1.trans x)) r' sr2 fun F3 A3 W3 H3 b e3 r3 h3=>?_
   cases b with
   | true =>
    rw [if_pos rfl] at h3 ⊢
    refine ⟨tD X S2 W3 _,fun cl C ex s H=>h3 cl C ex s H,F3,A3,(x0.trans (e1.trans x)).trans e3,r3,sr2.ext e3,fun F4 A4 W4 H4 y vy e4 r4 z4 h4=>?_⟩
    exact ⟨F4,A4,W4,yd++[y],(x.trans e3).trans e4,r4,zo1 (zf4 (fun _ _ t=>t.ext (e3.trans e4)) z') (.cons z4 .nil),h4⟩
   | false =>
    rw [if_neg (by decide)] at h3 ⊢
    exact ⟨F3,A3,W3,yd,x.trans e3,r3,zf4 (fun _ _ t=>t.ext e3) z',h3⟩
  ·have hie : i = ds.length:=by omega
   subst hie
   exact .inl ⟨wk.stop F' A' W' H' (x.ex1 hm1) r' g,fun l hl=>q F' A' W' H' yd ys l (e1.trans x) r' z' hl (hd yd W' p)⟩
end
end L2
namespace L2
open PySem PySem.Spec PyProof.Rows
open PySem.W
end L2
namespace L2
open PySem PySem.Spec PyProof.Rows
theorem za91 {κ : Type} [DecidableEq κ] {kvs : List (κ × El)} {k : κ} {e : El} (h : ∀ p∈kvs,p.1 ≠ k) : putG kvs k e = kvs++[(k,e)]:=by
 unfold putG
 rw [if_neg]
 intro z
 obtain ⟨p,hp,hk⟩:=List.any_eq_true.mp z
 exact h p hp (by simpa using hk)
theorem zL0 {α β : Type} {f : α->β} : ∀ {l : List α},(l.map f).Nodup->∀ {a b : α},a∈l->b∈l->f a = f b->a = b
 | [],_,_,_,ha,_,_=>by simp at ha
 | c :: l,nd,a,b,ha,hb,h=>by
  rw [fy4,ny9] at nd
  have no : ∀ z∈l,f c ≠ f z:=fun z hz e=>nd.1 (dy6.mpr ⟨z,hz,e.symm⟩)
  rcases cy4.mp ha with ea | ha'
  ·rcases cy4.mp hb with eb | hb'
   ·rw [ea,eb]
   ·rw [ea] at h; exact absurd h (no b hb')
  ·rcases cy4.mp hb with eb | hb'
   ·rw [eb] at h; exact absurd h.symm (no a ha')
   ·exact zL0 nd.2 ha' hb' h
end L2
namespace L2
open PySem PySem.Spec PyProof.Rows
open PySem.W
end L2
namespace L2
open PySem PySem.Spec PyProof.Rows
def Itz (K : ay2) (a b : Addr) : It :=
 ⟨fun i H=>∃ xs ys x y,SqL K H a xs /\ SqL K H b ys /\ xs[i]? = some x /\ ys[i]? = some y,fun i H v H'=>∃ p x y,v = .ref p /\ H p = none /\ H' = upd H p (.tup [x,y]) /\ ∀ xs ys,SqL K H a xs->SqL K H b ys->xs[i]? = some x /\ ys[i]? = some y,fun i H=>∃ xs ys,SqL K H a xs /\ SqL K H b ys /\ (xs.length <= i \/ ys.length <= i)⟩
theorem za92 {P : dy7} {w : World} {K : ay2} {elts : List Expr} {c : Nat} {tp : Pos} (a b z TI TO i1 i2 : Addr) (D : ZipApart z TI TO i1 i2 a b) :
  Turn P w K (.Tuple elts c tp) (Itz K a b) [z,TI,TO,i1,i2] z (fun i h=>IsZip h z TI TO .none /\ IsPair h TI (.ref i1) (.ref i2) /\ (∃ x y,IsPair h TO x y) /\ h.IsListIter i1 a i /\ h.IsListIter i2 b i) where
 mem:=by simp
 obj:=fun i h ⟨hz,hI,⟨x,y,hO⟩,⟨o1,g1,_,d1⟩,⟨o2,g2,_,d2⟩⟩ q hq=>by
  simp only [cy4,py3,or_false] at hq
  rcases hq with rfl | rfl | rfl | rfl | rfl
  ·exact ⟨_,hz,fun v z=>by cases z⟩
  ·exact ⟨_,hI,fun v z=>by cases z⟩
  ·exact ⟨_,hO,fun v z=>by cases z⟩
  ·exact ⟨o1,g1,fun v z=>by rw [d1] at z; cases z⟩
  ·exact ⟨o2,g2,fun v z=>by rw [d2] at z; cases z⟩
 keep:=fun i h h' ⟨hz,hI,⟨x,y,hO⟩,h1,h2⟩ k=>⟨k z (by simp) _ hz,k TI (by simp) _ hI,⟨x,y,k TO (by simp) _ hO⟩,h1.at fun o e=>k i1 (by simp) o e,h2.at fun o e=>k i2 (by simp) o e⟩
 item:=by
  intro X hP hw hK hc i pins s σ H E I hf ⟨hz,hI,⟨a0,b0,hO⟩,h1,h2⟩ hg
  subst hP hw hK
  obtain ⟨xs,ys,x,y,hqa,hqb,hx,hy⟩:=hg
  obtain ⟨ia,ra,pa,za⟩:=I.list hqa
  obtain ⟨ib,rb,pb,zb⟩:=I.list hqb
  obtain ⟨u,hu,ru⟩:=ra.get hx
  obtain ⟨v,hv,rv⟩:=rb.get hy
  have nn : H s.heap.objs.size = none:=I.hok.fresh (ay5 _)
  have hfp : ∀ q∈[z,TI,TO,i1,i2],q < s.heap.objs.size:=fun q hq=>by
   obtain ⟨o1,g1,_⟩:=id h1
   obtain ⟨o2,g2,_⟩:=id h2
   simp only [cy4,py3,or_false] at hq
   rcases hq with rfl | rfl | rfl | rfl | rfl
   ·exact cy1 hz
   ·exact cy1 hI
   ·exact cy1 hO
   ·exact cy1 g1
   ·exact cy1 g2
  refine wpAny_pyNext_zip_item D hz hI hO h1 h2 pa.isList pb.isList (x:=u) (y:=v) (by simpa using hu) (by simpa using hv) fun g e1 e2 e3 e4 e5 e6 kp=>?_
  refine ⟨_,rfl,wpAny_letOwnedTupleGo_zip e1 fun g2 q2 sb=>?_⟩
  have sb : hy0 z g g2:=sb
  have hzl : s.heap.objs.size ≠ z:=my1 (hfp z (by simp))
  have k2 : ∀ q o,q ≠ z->q ≠ TO->q ≠ i1->q ≠ i2->s.heap.get? q = some o->g2.get? q = some o:=fun q o n1 n2 n3 n4 hq=>(sb.2 q n1).trans (kp q o n1 n2 n3 n4 hq)
  have k3 : ∀ q o,q ∉ [z,TI,TO,i1,i2]->s.heap.get? q = some o->g2.get? q = some o:=fun q o hq h=>k2 q o (fun e=>hq (by simp [e])) (fun e=>hq (by simp [e])) (fun e=>hq (by simp [e])) (fun e=>hq (by simp [e])) h
  have tracked : ∀ q u,H q = some u->q ∉ [z,TI,TO,i1,i2]:=fun q u hq hm=>by rw [(hf q hm).1] at hq; cases hq
  have t2 : g2.get? s.heap.objs.size = some { cls:=.type "tuple",data:=.seq #[u,v] }:=(sb.2 _ hzl).trans e5
  refine ⟨.ref s.heap.objs.size,upd H s.heap.objs.size (.tup [x,y]),I.za43 (ch:=[z,TI,TO,i1,i2]) rfl ⟨fun b o q n hb hx=>k3 b o hx q,fun b o q n hb hx=>⟨o.slots,k3 b o hx q⟩,fun b o q n hx=>?_,fun b o q hx=>⟨o,k3 b o hx q⟩,fun b ys q=>?_,fun b o v q=>?_,fun b ps q=>?_⟩ (fun b v q=>?_) I.bare (fun b hb=>?_),rfl,⟨_,x,y,rfl,nn,rfl,fun xs' ys' hxs hys=>?_⟩,⟨q2,(sb.2 TI D.TIz).trans (kp TI _ D.TIz D.TITO D.TIi1 D.TIi2 hI),⟨u,v,(sb.2 TO D.TOz).trans e2⟩,e3.extBut sb.extBut D.i1z,e4.extBut sb.extBut D.i2z⟩,fun b hb=>?_⟩
  ·rw [zb3 (cy7 (cy1 q))]
   exact n
  ·rw [zb3 (zb1 q nn)]; exact q
  ·rw [zb3 (zb1 q nn)]; exact q
  ·exact ⟨#[],by rw [zb3 (zb1 q nn),Array.append_empty]; exact q⟩
  ·by_cases hb : b = s.heap.objs.size
   ·subst hb
    rw [zc4] at q
    cases q
    exact ⟨by show 2 <= by0; decide,[u,_],.cons ru (.cons rv .nil),_,t2,rfl,_,rfl⟩
   ·rw [zb3 hb] at q
    refine (I.hok b v q).zN1 (fun c w' hc z=>?_) (fun c z=>by rw [zb3 (zb1 z nn)]; exact z) fun c ys z=>by rw [zb3 (zb1 z nn)]; exact z
    rcases hc with rfl | hc
    ·exact k3 c w' (tracked c v q) z
    ·exact k3 c w' (tracked c _ hc) z
  ·have f:=hf b hb
   exact ⟨f.2.2.2.1,f.2.1,f.2.2.2.2⟩
  ·rw [I.zy1 hxs hqa,I.zy1 hys hqb]
   exact ⟨hx,hy⟩
  ·rw [zb3 (cy7 (hfp b hb))]
   exact (hf b hb).1
 done:=by
  intro X hP hw hK hc i pins s σ H E I hf ⟨hz,hI,⟨a0,b0,hO⟩,h1,h2⟩ hg
  subst hP hw hK
  obtain ⟨xs,ys,hqa,hqb,hend⟩:=hg
  obtain ⟨ia,ra,pa,za⟩:=I.list hqa
  obtain ⟨ib,rb,pb,zb⟩:=I.list hqb
  have hla:=ra.length
  have hlb:=rb.length
  refine wpAny_pyNext_zip_end (I.ok.hd hc) D hz hI hO h1 h2 pa.isList pb.isList ?_ fun g kp=>⟨rfl,?_⟩
  ·rcases hend with h | h
   ·exact .inl (by simp; omega)
   ·exact .inr (by simp; omega)
  ·have k3 : ∀ q o,q ∉ [z,TI,TO,i1,i2]->s.heap.get? q = some o->g.get? q = some o:=fun q o hq h=>kp q o (fun e=>hq (by simp [e])) (fun e=>hq (by simp [e])) (fun e=>hq (by simp [e])) (fun e=>hq (by simp [e])) h
   have tracked : ∀ q u,H q = some u->q ∉ [z,TI,TO,i1,i2]:=fun q u hq hm=>by rw [(hf q hm).1] at hq; cases hq
   refine I.za43 (ch:=[z,TI,TO,i1,i2]) rfl ⟨fun b o q n hb hx=>k3 b o hx q,fun b o q n hb hx=>⟨o.slots,k3 b o hx q⟩,fun b o q n hx=>n,fun b o q hx=>⟨o,k3 b o hx q⟩,fun b ys q=>q,fun b o v q=>q,fun b ps q=>⟨#[],by rw [Array.append_empty]; exact q⟩⟩ (fun b v q=>?_) I.bare (fun b hb=>?_)
   ·refine (I.hok b v q).zN1 (fun c w' hc z=>?_) (fun c z=>z) fun c ys z=>z
    rcases hc with rfl | hc
    ·exact k3 c w' (tracked c v q) z
    ·exact k3 c w' (tracked c _ hc) z
   ·have f:=hf b hb
    exact ⟨f.2.2.2.1,f.2.1,f.2.2.2.2⟩
 self:=fun _ _ _ _ _ ⟨hz,_⟩ h=>wpAny_pyIter_zip hz h
section
variable {X : Cx}
theorem boot_zip : ey7 "zip" = some (.type "zip"):=by decide +kernel
def iZip (K : ay2) (ta : TA) : TI:=fun σ H R=>ta σ H fun vs H1=>∃ a b xs ys,vs = [.ref a,.ref b] /\ SqL K H1 a xs /\ SqL K H1 b ys /\ R (Itz K a b) H1
theorem zd45 {elts : List Expr} {c : Nat} {tp : Pos} {a b : Expr} {ta : TA} {p pos : Pos} (hg : Gl X "zip") (hm : X.mg "zip" = none) (ha : PA X [a,b] ta) (hs : ey1 [a,b] X.env = (false,eval a X.env) :: ey1 [b] X.env:=by rfl) (hpl : (backTo pos (ey1 [b] X.env)).any (·.1) = false:=by rfl) : PI X (.Tuple elts c tp) (.Call (.Name "zip" p) [a,b] [] pos) (iZip X.K ta):=by
 intro pins s σ H R I h
 refine Call_ (zw4 I hg hm boot_zip (my3 (thn (ha pos pins s σ H _ I h) fun us s1 ⟨vs,H1,I1,r1,q1⟩=>?_) hs hpl))
 obtain ⟨l1,l2,xs,ys,rfl,hq1,hq2,q⟩:=q1
 cases r1 with
 | cons r rr =>
  cases rr with
  | cons r' rr =>
  cases rr
  cases r
  cases r'
  obtain ⟨ia,ra,pa,za⟩:=I1.list hq1
  obtain ⟨ib,rb,pb,zb⟩:=I1.list hq2
  have lt1 : l1 < s1.heap.objs.size:=by obtain ⟨o,ho,_⟩:=pa.isList; exact cy1 ho
  have lt2 : l2 < s1.heap.objs.size:=by obtain ⟨o,ho,_⟩:=pb.isList; exact cy1 ho
  refine call_zip_2 pa.isList pb.isList fun h' e1 e2 e3 e4 e5 e6 kp=>?_
  refine wpAny_pyIter_zip e1 ?_
  have ap : ZipApart (s1.heap.objs.size + 4) (s1.heap.objs.size + 2) (s1.heap.objs.size + 3) s1.heap.objs.size (s1.heap.objs.size + 1) l1 l2:=by
   constructor <;> first | exact cy7 lt1 | exact cy7 lt2 | exact cy7 (by1 lt1 (Nat.le_add_right _ _)) | exact cy7 (by1 lt2 (Nat.le_add_right _ _)) | exact cy7 (by omega) | exact my1 (by omega)
  refine ⟨s1.heap.objs.size + 4,[s1.heap.objs.size + 4,s1.heap.objs.size + 2,s1.heap.objs.size + 3,s1.heap.objs.size,s1.heap.objs.size + 1],_,_,H1,rfl,I1.kept (t':=s1.toks) kp,za92 l1 l2 _ _ _ _ _ ap,⟨e1,e2,⟨_,_,e3⟩,e4,e5⟩,fun c hc=>?_,q⟩
  have hc : s1.heap.objs.size <= c:=by
   simp only [cy4,py3,or_false] at hc
   rcases hc with rfl | rfl | rfl | rfl | rfl <;> first | exact ay5 _ | exact Nat.le_add_right _ _
  exact I1.fpOk hc (I1.hok.fresh hc)
end
section
variable {X : Bc} {n : Nat} {S : Sl} {W : Wl} {D : DB}
/-- for x,y in zip(a,b),both lists of data -/
theorem zH4 {elts : List Expr} {c : Nat} {tp : Pos} {a b : Expr} {p ipos : Pos} {body : List Stmt} {pos : Pos} (hp : PassesOwn (model X.prog X.w) X.A X.env X.xe) (hc : X.calm = true) (hg : Gl X "zip") (hm : X.mg "zip" = none)
  (h : BA X S W [a,b] fun as W1=>∃ (x y : El) (ds es : List PyData) (mb : Nat) (P : Nat->Sl->Wl->Prop),as = [x,y] /\ n <= mb /\ mb <= W1.length /\ P 0 S W1 /\ (∀ j,(x = .o j \/ y = .o j)->j < mb) /\
   (∀ i S' W',i <= min ds.length es.length->P i S' W'->zD6 W' x ds /\ zD6 W' y es) /\
   (∀ i d e S' W',ds[i]? = some d->es[i]? = some e->P i S' W'->BG X S' W' (.Tuple elts c tp) (.d (.tuple [d,e])) fun S2 W2=>BSs X mb S2 W2 body { D with nx:=P (i + 1),ct:=P (i + 1),bk:=D.nx }) /\ ∀ S' W',P (min ds.length es.length) S' W'->D.nx S' W')
  (hst : ey1 [a,b] X.env = (false,eval a X.env) :: ey1 [b] X.env:=by rfl) (hpl : (backTo ipos (ey1 [b] X.env)).any (·.1) = false:=by rfl)
  (hs : ∀ x,hy8 (.Call (.Name "zip" p) [a,b] [] ipos) X.env x = pure x:=by intro _; rfl) : BS X n S W (.For (.Tuple elts c tp) (.Call (.Name "zip" p) [a,b] [] ipos) body [] pos) D :=
 .of (zJ1 hp hc (zd45 hg hm zR2 hst hpl) pg_U zE1 hs) fun F A σ H E hn x0 r sr q=>h.use x0.am r sr fun F1 A1 W1 H1 as vs e1 r1 z1 ⟨x,y,ds,es,mb,P,hd,hnm,hmb,p0,hj,hL,hstep,hdone⟩=>by
  subst hd
  obtain ⟨v,u,rfl,zv,zu⟩:=zu3 z1
  have hmA : mb <= A1.length:=by rw [r1.len]; exact hmb
  have keyL : ∀ {x : El} {v : V} {ds : List PyData},(∀ j,x = .o j->j < mb)->ElR X.K F1 A1 x v->∀ {F' A' W' H'},Ex1 mb F1 A1 F' A'->RW X.K F' A' W' H'->zD6 W' x ds->∃ a ws,v = .ref a /\ SqL X.K H' a ws /\ Paired (fun d v=>Rq X.K F' v d) ds ws:=fun {x v ds} hj zv {F' A' W' H'} xx r' hl=>by
   have z' : ElR X.K F' A' x v:=by
    rcases hl with rfl | ⟨j,rfl,_⟩
    ·exact Rq.same xx.same _ zv
    ·obtain ⟨a,ha,rfl⟩:=zv
     refine ⟨a,?_,rfl⟩
     have e:=zl3 xx.pre (by have:=hj j rfl; omega)
     have:=congrArg (fun l=>l[j]?) e
     simp only [dy9 (hj j rfl)] at this
     rw [this]; exact ha
   obtain ⟨a,ws,e,hs,z⟩:=r'.lst z' hl
   exact ⟨a,ws,e,.inl hs,z⟩
  obtain ⟨l1,l2⟩:=hL 0 S W1 (dy8 _) p0
  have kx:=fun {F' A' W' H'}=>keyL (ds:=ds) (fun j e=>hj j (.inl e)) zv (F':=F') (A':=A') (W':=W') (H':=H')
  have ky:=fun {F' A' W' H'}=>keyL (ds:=es) (fun j e=>hj j (.inr e)) zu (F':=F') (A':=A') (W':=W') (H':=H')
  obtain ⟨va,ws,rfl,hv,_⟩:=kx (.refl hmA) r1 l1
  obtain ⟨ua,us,rfl,hu,_⟩:=ky (.refl hmA) r1 l2
  refine ⟨va,ua,ws,us,rfl,hv,hu,fun i μ σ' H'=>μ = min ds.length es.length - i /\ i <= min ds.length es.length /\ ∃ F' A' S' W',Ex1 mb F1 A1 F' A' /\ RW X.K F' A' W' H' /\ SR X.K F' A' S' σ' /\ P i S' W',⟨min ds.length es.length,by simp,dy8 _,F1,A1,S,W1,.refl hmA,r1,sr.ext e1,p0⟩,?_⟩
  rintro i μ σ' H' ⟨rfl,hi,F',A',S',W',xx,r',sr',pp⟩
  obtain ⟨l1',l2'⟩:=hL i S' W' hi pp
  obtain ⟨va',ws',ev,hv',z⟩:=kx xx r' l1'
  obtain ⟨ua',us',eu,hu',z'⟩:=ky xx r' l2'
  cases ev
  cases eu
  have hwl : ds.length = ws'.length:=zb6 z
  have hul : es.length = us'.length:=zb6 z'
  by_cases hlt : i < min ds.length es.length
  ·refine .inr ⟨⟨ws',us',ws'[i],us'[i],hv',hu',by simp,by simp⟩,fun σ2 H2=>∃ F2 A2 S2 W2,Ex1 mb F1 A1 F2 A2 /\ RW X.K F2 A2 W2 H2 /\ SR X.K F2 A2 S2 σ2 /\ P (i + 1) S2 W2,fun σ2 H2 p2=>⟨min ds.length es.length - (i + 1),by omega,rfl,hlt,p2⟩,fun v H'' hy=>?_⟩
   obtain ⟨t,x',y',rfl,hn',rfl,hget⟩:=hy
   obtain ⟨g1,g2⟩:=hget ws' us' hv' hu'
   obtain ⟨d,hd',zd⟩:=zi6 z g1
   obtain ⟨e,he',ze⟩:=zi6 z' g2
   obtain ⟨r2,e2⟩:=r'.newF hn' (.tup [x',y'])
   have zt : ElR X.K (upd F' t (.tup [x',y'])) A' (.d (.tuple [d,e])) (.ref t):=.dd (Rq.tup (SqT.of zc4) (.cons (Rq.same e2.same _ zd) (.cons (Rq.same e2.same _ ze) .nil)))
   have x2 : Ex1 mb F1 A1 (upd F' t (.tup [x',y'])) A':=xx.trans hmA (e2.ex1 xx.len)
   refine hstep i d e S' W' hd' he' pp _ A' σ' _ _ _ ((x0.ext e1).up hnm |>.ex1 hmA x2).am r2 (sr'.ext e2) zt fun F3 A3 W3 H3 S3 σ3 x3 r3 sr3 h3=>?_
   have x13 : Ex1 mb F1 A1 F3 A3:=x2.trans hmA (x3.ex1 x2.len)
   have q2:=q.ext hn ((e1.ex1 hn).trans hn (x13.le hnm))
   exact h3.use x13.len (((x0.ext e1).up hnm).ex1 hmA x13) r3 sr3 ⟨fun F4 A4 W4 H4 S4 σ4 x4 r4 sr4 h4=>⟨F4,A4,S4,W4,x13.trans hmA x4,r4,sr4,h4⟩,fun F4 A4 W4 H4 S4 σ4 x4=>q2.nx F4 A4 W4 H4 S4 σ4 (x4.le hnm),fun F4 A4 W4 H4 S4 σ4 x4 r4 sr4 h4=>⟨F4,A4,S4,W4,x13.trans hmA x4,r4,sr4,h4⟩,fun F4 A4 W4 H4 e4 v4 x4=>q2.rt F4 A4 W4 H4 e4 v4 (x4.le hnm)⟩
  ·have hie : i = min ds.length es.length:=by omega
   subst hie
   exact .inl ⟨⟨ws',us',hv',hu',by omega⟩,(q.ext hn (e1.ex1 hn)).nx F' A' W' H' S' σ' (xx.le hnm) r' sr' (hdone S' W' pp)⟩
end
section
variable {X : Cx}
theorem zQ0 : MtR X "dict.setdefault" (fun x ys H Q=>∃ a kvs k d,x = .ref a /\ ys = [kV k,d] /\ H a = some (.dK kvs) /\ (∀ v,zs9 kvs k = some v->Q v H) /\ (zs9 kvs k = none->kvs.length < by0 /\ Q d (upd H a (.dK (putK kvs k d))))):=by
 intro pins s σ H x ys v us Q I rx rs h
 obtain ⟨a,kvs,k,d,rfl,rfl,e,q1,q2⟩:=h
 obtain ⟨u,r,rfl,ru,rd⟩:=rs.two
 cases (show v = fy8 a from rx)
 obtain ⟨z,hd,vs,rel,dd⟩:=ze46 I.hok e
 have hz : vs.length <= by0:=by rw [<- rel.length]; exact z
 refine call_meetsIn jy6 dd.typeIs PySem.F.entry_dict_setdefault (PySem.F.args_dict_setdefault_3 _ _ _) (kt_meets_setdefault (ze3 X.prog X.w) a (zd33 ru) hd r) ⟨vs,dd,hz,fun w' hw=>?_,fun hn h' dd' hs=>?_⟩
 ·have rv:=rel.val k
  rw [hw] at rv
  cases hv : zs9 kvs k with
  | none =>
   rw [hv] at rv
   cases zx8.none_of rv
  | some v =>
   rw [hv] at rv
   obtain ⟨w2,hw2,rw'⟩:=zx8.some_of rv
   cases hw2
   exact ⟨v,H,I.tok _,rw',q1 v hv⟩
 ·have hnv : zs9 kvs k = none:=by
   have rv:=rel.val k
   rw [hn] at rv
   cases hv : zs9 kvs k with
   | none=>rfl
   | some v =>
    rw [hv] at rv
    obtain ⟨w',hw,_⟩:=zx8.some_of rv
    cases hw
  obtain ⟨hl,q⟩:=q2 hnv
  have hl' : (putK kvs k d).length <= by0:=by have:=zu5 kvs k d; omega
  have he : ∃ q,h'.get? a = some q:=let ⟨q,_,_,hq,_⟩:=dd'; ⟨q,hq⟩
  exact ⟨d,_,zW9 I (by rw [e]; exact qy6) hs he (zd36 hl' hd (rel.put k rd) dd'),rd,q⟩
theorem zd46 {st : Stmt} {t : TS} (h : PS X st t) : PS X st fun E σ H=>∃ d kvs,H d = some (.dT kvs) /\ ∀ o,KeysIn H o (kvs.map (·.1))->t ⟨fun σ' H'=>∃ kvs',H' d = some (.frz o (.dT kvs')) /\ E.nx σ' (upd H' d (.dT kvs')),fun v H'=>∃ kvs',H' d = some (.frz o (.dT kvs')) /\ E.rt v (upd H' d (.dT kvs')),fun σ' H'=>∃ kvs',H' d = some (.frz o (.dT kvs')) /\ E.bk σ' (upd H' d (.dT kvs')),fun σ' H'=>∃ kvs',H' d = some (.frz o (.dT kvs')) /\ E.ct σ' (upd H' d (.dT kvs'))⟩ σ (upd H d (.frz o (.dT kvs))):=by
 intro pins s σ H E I ⟨d,kvs,hd,q⟩
 obtain ⟨o,ki,I1⟩:=I.frz hd
 have h0 : ∀ o' u',X.H₀ d ≠ some (.frz o' u'):=fun o' u' z=>by
  have:=I.base.frzs d o' u' z
  rw [hd] at this
  cases this
 refine thn (h pins s σ _ _ I1 (q o ki)) fun f s1 hf=>?_
 cases f with
 | next=>obtain ⟨σ',H',I2,kvs',e1,q1⟩:=hf; exact ⟨σ',_,I2.zE5 e1 h0,q1⟩
 | brk=>obtain ⟨σ',H',I2,kvs',e1,q1⟩:=hf; exact ⟨σ',_,I2.zE5 e1 h0,q1⟩
 | cont=>obtain ⟨σ',H',I2,kvs',e1,q1⟩:=hf; exact ⟨σ',_,I2.zE5 e1 h0,q1⟩
 | ret u=>obtain ⟨v,σ',H',I2,r,kvs',e1,q1⟩:=hf; exact ⟨v,σ',_,I2.zE5 e1 h0,r,q1⟩
end
theorem zH5 {K : ay2} {F : Hp} {A : List Addr} {k : Key} : ∀ {kvs : List (Key × El)} {vs : List (Key × V)},Paired (fun p q=>p.1 = q.1 /\ ElR K F A p.2 q.2) kvs vs->(valK kvs k = none /\ zs9 vs k = none) \/ ∃ e v,valK kvs k = some e /\ zs9 vs k = some v /\ ElR K F A e v
 | [],_,.nil=>.inl ⟨rfl,rfl⟩
 | (a,e) :: kvs,_,.cons (b:=(b,v)) ⟨hk,he⟩ t=>by
  have hk : a = b:=hk
  subst hk
  by_cases h : a = k
  ·refine .inr ⟨e,v,?_,?_,he⟩
   ·simp [valK,h]
   ·exact zp8 h
  ·have e1 : valK ((a,e) :: kvs) k = valK kvs k:=by simp [valK,h]
   rw [e1,zp9 (show ¬ (a,v).1 = k from h)]
   exact zH5 t
theorem RW.zd47 {K : ay2} {F : Hp} {A : List Addr} {W : Wl} {H : Hp} (r : RW K F A W H) {o : Obj} {ks : List (List Key)} (ki : KeysIn H o ks) : ∃ F1,zo0 F F1 /\ KeysIn F1 o ks /\ RW K F1 A W H:=by
 classical
 obtain ⟨es,ep,k1,k2,k3,k4⟩:=id ki
 obtain ⟨F1,s1,e1,r1⟩:=r.zX5 ((es.toList.zip ks).filterMap fun p=>match p.1.key with | .ref b=>if H b = some (.tup (p.2.map kV)) then some (b,p.2.map kV) else none | _=>none) fun q hq=>by
  obtain ⟨⟨en,kk⟩,_,hq⟩:=py5.mp hq
  simp only at hq
  split at hq
  ·split at hq
   ·cases hq; assumption
   ·cases hq
  ·cases hq
 refine ⟨F1,s1,⟨es,ep,k1,k2,k3,fun i kk hk=>?_⟩,r1⟩
 obtain ⟨en,b,h1,h2,h3⟩:=k4 i kk hk
 refine ⟨en,b,h1,h2,e1 (b,kk.map kV) (py5.mpr ⟨(en,kk),?_,?_⟩)⟩
 ·refine gy0.mpr ⟨i,?_⟩
  rw [ny5]
  exact ⟨by rw [ny0]; exact h1,hk⟩
 ·simp [h2,h3]
section
variable {X : Bc} {n : Nat} {S : Sl} {W : Wl} {D : DB} {tg : Expr} {k : KB}
theorem zQ1 {j : Nat} {kvs : List (Key × El)} {x : Str} {y : El} (hj : W[j]? = some (.dK kvs)) (h1 : ∀ e,valK kvs (.inr x) = some e->k e W) (h2 : valK kvs (.inr x) = none->kvs.length < by0 /\ k y (W.set j (.dK (putG kvs (.inr x) y)))) :
  MB X "dict" "dict.setdefault" (.o j) [.d (.str x),y] W k:=.of zQ0 fun F A H Q v vs r zx z q=>by
 obtain ⟨a,ha,rfl⟩:=zx
 obtain ⟨u,e,ws,rfl,p⟩:=r.obj j a _ ha hj
 obtain ⟨u1,u2,rfl,zu,zu'⟩:=zu3 z
 obtain rfl:=Rq.zg1 zu
 refine ⟨a,ws,.inr x,u2,rfl,rfl,e,fun v hv=>?_,fun hv=>?_⟩
 ·rcases zH5 (k:=.inr x) p with ⟨e1,e2⟩ | ⟨e',v',e1,e2,he⟩
  ·rw [hv] at e2; cases e2
  ·rw [hv] at e2
   cases e2
   exact q.same r he (h1 e' e1)
 ·rcases zH5 (k:=.inr x) p with ⟨e1,e2⟩ | ⟨e',v',e1,e2,he⟩
  ·obtain ⟨hl,hk⟩:=h2 e1
   exact ⟨by rw [<- zb6 p]; exact hl,q.put r ha (o:=.dK (putG kvs (.inr x) y)) ⟨_,rfl,zd43 zu' p⟩ zu' hk⟩
  ·rw [hv] at e2; cases e2
theorem zc14 {st : Stmt} {j mb : Nat} {kvs : List (List Key × El)} (hj : W[j]? = some (.dT kvs)) (hnm : n <= mb) (hn' : j < mb) (hmW : mb <= W.length) (h : ∀ o,BS X mb S (W.set j (.fT o kvs)) st ⟨fun S1 W1=>W1[j]? = some (.fT o kvs) /\ D.nx S1 (W1.set j (.dT kvs)),fun y W1=>W1[j]? = some (.fT o kvs) /\ D.rt y (W1.set j (.dT kvs)),fun S1 W1=>W1[j]? = some (.fT o kvs) /\ D.bk S1 (W1.set j (.dT kvs)),fun S1 W1=>W1[j]? = some (.fT o kvs) /\ D.ct S1 (W1.set j (.dT kvs))⟩) : BS X n S W st D :=
 .of (zd46 ps_U) fun F A σ H E hn x0 r sr q=>by
  have hlW : j < W.length:=(ay0.mp hj).1
  have hlA : j < A.length:=by rw [r.len]; exact hlW
  have hmA : mb <= A.length:=by rw [r.len]; exact hmW
  have hjA : A[j]? = some A[j]:=by simp [hlA]
  obtain ⟨ho,eH,vs,rfl,p⟩:=r.obj j _ _ hjA hj
  have hkeys : vs.map (·.1) = kvs.map (·.1):=by
   clear eH hj h
   induction p with
   | nil=>rfl
   | cons a _ ih=>simp [ih,a.1]
  refine ⟨A[j],vs,eH,fun o ki=>?_⟩
  rw [hkeys] at ki
  obtain ⟨F1,s1,ki1,r1⟩:=r.zd47 ki
  have x1 : Ext F A F1 A:=⟨s1,ry4 _⟩
  have r2 : RW X.K F1 A (W.set j (.fT o kvs)) (upd H A[j] (.frz o (.dT vs))):=r1.put hjA ⟨vs,⟨rfl,ki1⟩,zf4 (fun _ _ z=>⟨z.1,z.2.ext x1⟩) p⟩
  have at_ : ∀ {F2 A2},Ex1 mb F1 A F2 A2->A2[j]? = some A[j]:=fun {F2 A2} x=>by
   have e:=zl3 x.pre hmA
   have:=congrArg (fun l=>l[j]?) e
   simp only [dy9 hn'] at this
   rw [this]; exact hjA
  have back : ∀ {F2 A2 W2 H2},Ex1 mb F1 A F2 A2->RW X.K F2 A2 W2 H2->W2[j]? = some (.fT o kvs)->∃ vs',H2 A[j] = some (.frz o (.dT vs')) /\ RW X.K F2 A2 (W2.set j (.dT kvs)) (upd H2 A[j] (.dT vs')):=fun {F2 A2 W2 H2} x r3 hw=>by
   obtain ⟨h',e',vs',⟨rfl,_⟩,p'⟩:=r3.obj j _ _ (at_ x) hw
   exact ⟨vs',e',r3.put (o:=.dT kvs) (at_ x) ⟨vs',rfl,p'⟩⟩
  have xx : ∀ {F2 A2},Ex1 mb F1 A F2 A2->Ex1 n F A F2 A2:=fun {F2 A2} x=>(x1.ex1 hn).trans hn (x.le hnm)
  refine (h o).use hmA ((x0.ext x1).up hnm) r2 (sr.ext x1) ⟨fun F2 A2 W2 H2 S2 σ2 x r3 sr3 ⟨hw,hk⟩=>?_,fun F2 A2 W2 H2 S2 σ2 x r3 sr3 ⟨hw,hk⟩=>?_,fun F2 A2 W2 H2 S2 σ2 x r3 sr3 ⟨hw,hk⟩=>?_,fun F2 A2 W2 H2 e v x r3 z3 ⟨hw,hk⟩=>?_⟩
  ·obtain ⟨vs',e',r4⟩:=back x r3 hw
   exact ⟨vs',e',q.nx _ _ _ _ _ _ (xx x) r4 sr3 hk⟩
  ·obtain ⟨vs',e',r4⟩:=back x r3 hw
   exact ⟨vs',e',q.bk _ _ _ _ _ _ (xx x) r4 sr3 hk⟩
  ·obtain ⟨vs',e',r4⟩:=back x r3 hw
   exact ⟨vs',e',q.ct _ _ _ _ _ _ (xx x) r4 sr3 hk⟩
  ·obtain ⟨vs',e',r4⟩:=back x r3 hw
   exact ⟨vs',e',q.rt _ _ _ _ _ _ (xx x) r4 z3 hk⟩
/-- for x in d.values(): anything,the keys tuples -/
theorem zY7 {o : Expr} {apos cpos : Pos} {ki : Nat->(Wl->Prop)->List El->Wl->Prop} (h : BE X S W o fun y W1=>∃ (j : Nat) (ob : Obj) (L : List (List Key × El)),y = .o j /\ W1[j]? = some (.fT ob L) /\ ki (j + 1) (fun W'=>W'[j]? = some (.fT ob L)) (L.map (·.2)) W1)
  (hbase : attributeBase o "values" X.env (eval o X.env) = eval o X.env:=by rfl) (hline : (apos.endLine == cpos.line) = true:=by rfl) : BIE X S W tg (.Call (.Attribute o "values" apos) [] [] cpos) ki:=fun F A σ H R x0 r sr q =>
 ⟨_,zc10 (zc09 zi0 hbase hline),h.use x0 r sr fun F1 A1 W1 H1 y vy e1 r1 z1 ⟨j,ob,L,hy,hj,h1⟩=>by
  subst hy
  obtain ⟨a,ha,rfl⟩:=z1
  have hja : j < A1.length:=(ay0.mp ha).1
  have ha' : ∀ {F' A'},Ex1 (j + 1) F1 A1 F' A'->A'[j]? = some a:=fun {F' A'} x=>by
   have e:=zl3 x.pre (by omega)
   have:=congrArg (fun l=>l[j]?) e
   simp only [dy9 (my7 j)] at this
   rw [this]; exact ha
  obtain ⟨u0,e0,vs0,⟨rfl,ki0⟩,p0⟩:=r1.obj j a _ ha hj
  refine ⟨a,ob,vs0,rfl,e0,fun v hv=>⟨v,a,ob,vs0,rfl,zc4,by rw [zb3 (zb1 e0 hv)]; exact e0,?_⟩⟩
  have r2 : RW X.K F1 A1 W1 (upd H1 v (zo2 v a)):=r1.grown (zp3 hv)
  have key : ∀ {F' A' W' H'},Ex1 (j + 1) F1 A1 F' A'->RW X.K F' A' W' H'->W'[j]? = some (.fT ob L)->∃ vs,H' a = some (.frz ob (.dT vs)) /\ Paired (fun p q=>p.1 = q.1 /\ ElR X.K F' A' p.2 q.2) L vs:=fun x r' hG=>by
   obtain ⟨u,e,vs,⟨rfl,_⟩,p⟩:=r'.obj j a _ (ha' x) hG
   exact ⟨vs,e,p⟩
  refine q (j + 1) _ F1 A1 W1 _ _ _ e1 r2 hja ⟨fun i F' A' W' H' hi x r' hG=>?_,fun i F' A' W' H' y H'' hi x r' hG hy=>?_,fun F' A' W' H' x r' hG=>?_⟩ h1
  ·obtain ⟨vs,e,p⟩:=key x r' hG
   refine ⟨vs,e,?_⟩
   have:=zb6 p
   rw [ay3] at hi
   omega
  ·obtain ⟨vs,e,p⟩:=key x r' hG
   obtain ⟨e',hy⟩:=hy
   obtain ⟨pp,hp,rfl⟩:=hy vs e
   obtain ⟨b,hb,zb⟩:=zi6 p hp
   exact ⟨e',b.2,by rw [ay4,hb]; rfl,zb.2⟩
  ·obtain ⟨vs,e,p⟩:=key x r' hG
   refine ⟨vs,e,?_⟩
   have:=zb6 p
   rw [ay3]
   omega⟩
/-- for,over anything -/
theorem zY8 {iter : Expr} {body : List Stmt} {pos : Pos} (hp : PassesOwn (model X.prog X.w) X.A X.env X.xe) (hc : X.calm = true)
  (h : BIE X S W tg iter fun m G ds W1=>∃ (mb : Nat) (P : Nat->Sl->Wl->Prop),n <= mb /\ m <= mb /\ mb <= W1.length /\ P 0 S W1 /\ (∀ i S' W',i <= ds.length->P i S' W'->G W') /\
   (∀ i d S' W',ds[i]? = some d->P i S' W'->BG X S' W' tg d fun S2 W2=>BSs X mb S2 W2 body { D with nx:=P (i + 1),ct:=P (i + 1),bk:=D.nx }) /\ ∀ S' W',P ds.length S' W'->D.nx S' W')
  (hs : ∀ x,hy8 iter X.env x = pure x:=by intro _; rfl) : BS X n S W (.For tg iter body [] pos) D :=
 .of (zJ1 hp hc pi_U pg_U zE1 hs) fun F A σ H E hn x0 r sr q=>h F A σ H _ x0.am r sr fun m G F1 A1 W1 H1 ds J e1 r1 hm1 wk ⟨mb,P,hnm,hmm,hmb,p0,hG,hs,hd⟩=>by
  have hmA : mb <= A1.length:=by rw [r1.len]; exact hmb
  refine ⟨fun i μ σ' H'=>μ = ds.length - i /\ i <= ds.length /\ ∃ F' A' S' W',Ex1 mb F1 A1 F' A' /\ RW X.K F' A' W' H' /\ SR X.K F' A' S' σ' /\ P i S' W',⟨ds.length,by simp,dy8 _,F1,A1,S,W1,.refl hmA,r1,sr.ext e1,p0⟩,?_⟩
  rintro i μ σ' H' ⟨rfl,hi,F',A',S',W',x,r',sr',p⟩
  have g:=hG i S' W' hi p
  by_cases hlt : i < ds.length
  ·refine .inr ⟨wk.go i F' A' W' H' hlt (x.le hmm) r' g,fun σ2 H2=>∃ F2 A2 S2 W2,Ex1 mb F1 A1 F2 A2 /\ RW X.K F2 A2 W2 H2 /\ SR X.K F2 A2 S2 σ2 /\ P (i + 1) S2 W2,fun σ2 H2 p2=>⟨ds.length - (i + 1),by omega,rfl,hlt,p2⟩,fun v H'' hy=>?_⟩
   obtain ⟨rfl,d,hd',zd⟩:=wk.yld i F' A' W' H' v H'' hlt (x.le hmm) r' g hy
   refine hs i d S' W' hd' p F' A' σ' H'' v _ ((x0.ext e1).up hnm |>.ex1 hmA x).am r' sr' zd fun F2 A2 W2 H2 S2 σ2 x2 r2 sr2 h2=>?_
   have x12 : Ex1 mb F1 A1 F2 A2:=x.trans hmA (x2.ex1 x.len)
   have q2:=q.ext hn ((e1.ex1 hn).trans hn (x12.le hnm))
   exact h2.use x12.len (((x0.ext e1).up hnm).ex1 hmA x12) r2 sr2 ⟨fun F3 A3 W3 H3 S3 σ3 x3 r3 sr3 h3=>⟨F3,A3,S3,W3,x12.trans hmA x3,r3,sr3,h3⟩,fun F3 A3 W3 H3 S3 σ3 x3=>q2.nx F3 A3 W3 H3 S3 σ3 (x3.le hnm),fun F3 A3 W3 H3 S3 σ3 x3 r3 sr3 h3=>⟨F3,A3,S3,W3,x12.trans hmA x3,r3,sr3,h3⟩,fun F3 A3 W3 H3 e v x3=>q2.rt F3 A3 W3 H3 e v (x3.le hnm)⟩
  ·have hie : i = ds.length:=by omega
   subst hie
   exact .inl ⟨wk.stop F' A' W' H' (x.le hmm) r' g,(q.ext hn (e1.ex1 hn)).nx F' A' W' H' S' σ' (x.le hnm) r' sr' (hd S' W' p)⟩
end
theorem zY9 {n : Nat} : sy0 0 n 1 = (n : Int):=by
 unfold Builtin.Range.rangeSize
 rw [if_pos (by decide)]
 split
 ·rw [Int.ediv_one]; omega
 ·omega
theorem zn7 {n : Int} (h0 : 0 <= n) (h : n <= 1000000) : Builtin.Range.rangeFitsLong n = true:=by
 unfold Builtin.Range.rangeFitsLong
 simp only [iy3,decide_eq_true_eq]
 omega
theorem za93 {n : Nat} (h : n <= 1000000) : Builtin.Range.small 0 n 1 = true:=by
 unfold Builtin.Range.small
 rw [zY9,zn7 (Int.le_refl 0) (by omega),zn7 (n:=(n : Int)) (by omega) (by omega),zn7 (n:=1) (by omega) (by omega),if_pos (by decide),zn7 (n:=(n : Int) + (1 - 1)) (by omega) (by omega)]
 simp
section
variable {X : Cx}
theorem zH6 : zl1 X (.type "range") fun xs H Q=>∃ n : Nat,xs = [.int n] /\ ∀ r,H r = none->Q (.ref r) (upd H r (.rng 0 n)):=by
 intro pins s σ H xs us Q I r ⟨n,e,q⟩
 subst e
 obtain ⟨u,rfl,⟨t,rfl⟩⟩:=vals1 r
 exact PySem.call_range_1 ⟨.ref s.heap.objs.size,_,I.laid (t':=s.toks + 1 + 1) (o:=.rng 0 n) (fun b u q=>ay6 _ q) (ay5 _) ⟨_,_,_,by2 _ rfl⟩,rfl,q _ (I.hok.fresh (ay5 _))⟩
theorem zQ2 (hc : X.calm = true) : zl1 X (.type "list") fun xs H Q=>∃ (r : Addr) (n : Nat),xs = [.ref r] /\ H r = some (.rng 0 n) /\ n <= 1000000 /\ ∀ l,H l = none->Q (.ref l) (upd H l (.lst ((ey5 n).map fun (i : Nat)=>V.int (i : Int)))):=by
 intro pins s σ H xs us Q I r ⟨p,n,e,hp,hn,q⟩
 subst e
 obtain ⟨u,rfl,rx⟩:=vals1 r
 cases rx
 obtain ⟨t,u,v,hr⟩:=(show zd2 X.prog X.w H s.heap p (.rng 0 n) from I.hok p _ hp)
 refine PySem.call_list_range (I.ok.hd hc) hr (za93 hn) zY9 (by omega) fun h' tk acc c' k e ia=>?_
 refine ⟨.ref s.heap.objs.size,_,I.laid (t':=tk) k (ay5 _) (show zd2 X.prog X.w _ h' _ (.lst _) from ⟨?_,acc.toList,c',?_,by simpa using e⟩),rfl,q _ (I.hok.fresh (ay5 _))⟩
 ·rw [ay3,oy3,oy4]; omega
 ·refine zY4 (by rw [ay3,oy3,hy9,ia.1]) fun i x y hx hy=>?_
  rw [ay4] at hx
  have hi : i < n:=by
   have:=(ay0.mp hy).1
   rw [hy9,ia.1] at this
   exact this
  rw [oy8 hi] at hx
  cases hx
  obtain ⟨t,rfl⟩:=ia.2 i y (by simpa using hy)
  exact ⟨t,by congr 1; omega⟩
end
section
variable {X : Bc} {S : Sl} {W : Wl} {k : KB}
theorem za94 {a : Expr} {p1 p2 pos1 pos2 : Pos} (hc : X.calm = true) (hg1 : Gl X "list") (hm1 : X.mg "list" = none) (hv1 : ey7 "list" = some (.type "list")) (hg2 : Gl X "range") (hm2 : X.mg "range" = none) (hv2 : ey7 "range" = some (.type "range"))
  (h : BE X S W a fun y W1=>∃ n : Nat,y = .d (.int n) /\ n <= 1000000 /\ k (.d (.list (ze9 0 n))) W1)
  (he : ey1 [a] X.env = (false,eval a X.env) :: ey1 [] X.env:=by rfl) (hpl : (backTo pos2 (ey1 [] X.env)).any (·.1) = false:=by rfl) (he1 : ey1 [a] X.env = [(false,eval a X.env)]:=by rfl) (he2 : ey1 [.Call (.Name "range" p2) [a] [] pos2] X.env = [(false,eval (.Call (.Name "range" p2) [a] [] pos2) X.env)]:=by rfl) :
  BE X S W (.Call (.Name "list" p1) [.Call (.Name "range" p2) [a] [] pos2] [] pos1) k :=
 .of (zp2 (zQ2 hc) hg1 hm1 hv1 (zm5 (zp2 zH6 hg2 hm2 hv2 (zm5 zi0 zt2 he1) (by decide) (by decide) he hpl) zt2 he2) (by decide) (by decide) he2 rfl) fun F A σ H Q x0 r sr q=>by
  refine h.use x0 r sr fun F1 A1 W1 H1 y vy e1 r1 z1 ⟨n,hy,hn,hk⟩=>?_
  subst hy
  obtain rfl:=Rq.zd4 z1
  refine ⟨n,rfl,fun r hr=>?_⟩
  obtain ⟨r2,e2⟩:=r1.newF hr (.rng 0 n)
  refine ⟨r,n,rfl,zc4,hn,fun l hl=>?_⟩
  refine ((q.ext e1).ext e2).newL r2 hl (ds:=ze9 0 n) ?_ hk
  refine zY4 (by simp [ze9]) fun m x y hx hy=>?_
  unfold ze9 at hx
  rw [ay4] at hx hy
  cases hm : (ey5 n)[m]? with
  | none=>rw [hm] at hx; cases hx
  | some n =>
   rw [hm] at hx hy
   cases hx
   cases hy
   show Rq X.K _ (V.int (n : Int)) (.int (0 + (n : Int)))
   rw [Int.zero_add]
   exact Rq.int _
end
end L2
namespace L2
open PySem PySem.Spec PyProof.Rows PySem.SeqAt PySem.MeetsSeq
theorem zH7 (l : Addr) (items : Array Value) (n : Nat) (x : Value) (e : Value->Bool) (j : Nat) (hj : j < items.size) (hsmall : (j : Int) < 2 ^ 63 - 1)
  (hit : e items[j] = true) (hno : ∀ m (hm : m < items.size),m < j->e items[m] = false) :
  Meets (Builtin.«list.index» ⟨[.ref l,x],[]⟩)
   (fun A R s=>s.heap.get? l = some { cls:=.type "list",dict:=none,data:=.seq items n,slots:=#[] } /\ (∀ y,y∈items->EqAt A.in1 s y x (e y)) /\ R (.ok (.ret (.int j s.toks))) { s with toks:=s.toks + 1 }):=by
 intro prog w A R s h
 obtain ⟨hp,g,d,tk,os⟩:=s
 obtain ⟨hl,he,h⟩:=h
 wp_walk using jy2 hl
 have a1 : ((fun i : Int=>if i < 0 then max 0 (i + (items.size : Int)) else i) ((none : Option Int).getD 0)) = ((0 : Nat) : Int):=by simp
 have a2 : ((fun i : Int=>if i < 0 then max 0 (i + (items.size : Int)) else i) ((none : Option Int).getD (2 ^ 63 - 1))) = 2 ^ 63 - 1:=by simp
 rw [a1,a2]
 exact ⟨plainId_quiet plain_index_loop _,ky9 entry_index_loop (by
  rw [ly7 plain_index_loop _]
  exact PySem.SeqAt.index_loopAt l items n none #[] x e (2 ^ 63 - 1) j hj hsmall hit _ 0 rfl (dy8 _) (fun m hm _ h=>hno m hm h) prog w A R _ ⟨hl,he,h⟩)⟩
section
variable {X : Bc} {S : Sl} {W : Wl} {k : KB}
theorem zZ0 (hu : X.A.units + 100 < cLine) : MtR X "list.index" (fun x vs H Q=>∃ l xs y ds d,∃ (m : Nat),x = .ref l /\ vs = [y] /\ H l = some (.lst xs) /\ Paired (fun d v=>Rq X.K H v d) ds xs /\ Rq X.K H y d /\ ey2 ds = true /\ Dat d /\ (∃ z,ds[m]? = some z /\ ey0 z d = true) /\ (∀ j z,j < m->ds[j]? = some z->ey0 z d = false) /\ xs.length <= by0 /\ Q (.int m) H):=by
 intro pins s σ H x vs v us Q I rx rv h
 obtain ⟨l,xs,y,ds,d,m,rfl,rfl,hH,pd,rd,hc,hd,⟨z,hz1,hz2⟩,hno,hz,q⟩:=h
 cases rx
 obtain ⟨u,rfl,ru⟩:=rv.one
 obtain ⟨z0,its,n,r,hl,e⟩:=I.lstM hH
 obtain ⟨as,ra⟩:=Rqs.reads I ds hc (Rqs.of pd) r
 obtain ⟨bs,rb⟩:=Rq.reads I d hd.lay rd ru
 have hlen : its.length = ds.length:=r.length.symm.trans (zb6 pd).symm
 have rdm : ∀ (i : Nat) (h1 : i < its.length) (h2 : i < ds.length),readOf s.heap its[i] = ds[i]:=fun i h1 h2=>by
  have:=readsAll_map ds _ _ hc ra
  have e2:=congrArg (fun l=>l[i]?) this
  simp [h1,h2] at e2
  exact e2
 have hsz : its.length <= by0:=by rw [<- r.length]; exact hz
 obtain ⟨hm1,hm2⟩:=ay0.mp hz1
 have l63:=zp1
 refine call_meets gy6 ⟨_,e,rfl⟩ PySem.F.entry_list_index (PySem.F.args_list_index_2 _ _) (zH7 l its.toArray n u (fun y=>ey0 (readOf s.heap y) d) m (by rw [by6]; omega) (by omega) ?_ ?_) ⟨e,?_,?_⟩
 ·have:=rdm m (by omega) hm1
  simp [this]
  rw [hm2]; exact hz2
 ·intro j h1 h3
  have h1 : j < its.length:=by simpa using h1
  have:=rdm j h1 (by omega)
  simp [this]
  exact hno j _ h3 (ay7 (by omega))
 ·refine items_eqAt (by simpa using ra) rb hc hd.lay ?_
  have h1:=hd.dep
  have h2 : min (fy9 ds) d.depth <= 64:=cy6 (ry3 _ _) h1
  omega
 ·exact ⟨.int m,H,I.tok _,⟨_,rfl⟩,q⟩
theorem zZ1 {j m : Nat} {ds : List PyData} {d z : PyData} (hu : X.A.units + 100 < cLine) (hj : W[j]? = some (.lst (zb4 ds))) (hc : ey2 ds = true) (hd : Dat d) (hl : ds.length <= by0) (hm : ds[m]? = some z) (hz : ey0 z d = true) (hno : ∀ j z,j < m->ds[j]? = some z->ey0 z d = false) (h : k (.d (.int m)) W) :
  MB X "list" "list.index" (.o j) [.d d] W k:=.of (zZ0 hu) fun F A H Q v vs r zx zz q=>by
 obtain ⟨a,ws,rfl,ha,hH,p⟩:=r.at zx hj
 obtain ⟨u,rfl,zu⟩:=zi8 zz
 exact ⟨a,ws,u,ds,d,m,rfl,rfl,hH,zf4 (fun _ _ t=>Rq.same r.sub _ t) (zi1 p),Rq.same r.sub _ zu,hc,hd,⟨z,hm,hz⟩,hno,by rw [<- zb6 p]; simpa [zb4] using hl,q.same r (.dd (Rq.int _)) h⟩
end
theorem za95 {prog : dy7} {w : World} {A : Around} {E : Value->Shared->Prop} {s : Shared} {env : Env} {value st : Expr} {p pos : Pos} {T id : String} {Q : Value->Shared->Prop} (hl : typeLookup (.type T) "__getitem__" = pure (some (.builtin id)))
    (h : wpAny (model prog w) A (eval value env) (fun o s₁=>wpAny (model prog w) A (eval (.Slice none none (some st) p) env) (fun i s₂=>s₂.TypeIs o T /\ wpAny (model prog w) A (getItem o i) Q E s₂) E s₁) E s) : wpAny (model prog w) A (eval (.Subscript value (.Slice none none (some st) p) pos) env) Q E s:=by
  rw [eval_Subscript]
  refine ay1 (ly2 h (fun o s₁ h₁=>ay1 (jy3 (ly2 h₁ (fun i s₂ h₂=>ay1 (wpAny_standAt ?_)) fun _ _ x=>x))) fun _ _ x=>x)
  have fin : wpAny (model prog w) A (operate [o,i] (getItem o i)) (fun r s₃=>wpAny (model prog w) A (letTemporaryGo value o r >>= fun _=>pure r) Q E s₃) E s₂ :=
    wpAny_operating (ly2 h₂.2 (fun r s₃ h₃=>ay1 (wpAny_letTemporaryGo (ay9 h₃))) fun _ _ x=>x)
  first
    | (refine ay1 ?_
       rw [getitemInPython_of_ne h₂.1.not_modules]
       refine ay1 (wpAny_specialOf h₂.1 hl ?_)
       first
         | exact ay9 (ay1 fin)
         | exact ay1 (ay9 (ay1 fin))
         | exact ay1 fin)
    | (refine ay1 (wpAny_specialOf h₂.1 hl ?_)
       first
         | exact ay1 (ay9 (ay1 fin))
         | exact ay1 fin)
section
variable {X : Cx} {e st : Expr} {te ts : TE} {p2 pos : Pos}
theorem zc15 (he : PE X e te) (hst : PE X st ts) : PE X (.Subscript e (.Slice none none (some st) p2) pos) (fun σ H Q=>te σ H fun x H1=>ts σ H1 fun y H2=>y = .int (-1) /\ ∃ a xs,x = .ref a /\ SqL X.K H2 a xs /\ ∀ p,H2 p = none->Q (.ref p) (upd H2 p (.lst xs.reverse))):=by
 intro pins s σ H Q I h
 refine za95 slot_list_getitem.lookup (thn (he pins s σ H _ I h) fun v s1 ⟨x,H1,I1,r1,q1⟩=>?_)
 refine wpAny_Slice ?_
 rw [evalPart_none]
 refine ay9 ?_
 refine ay9 ?_
 rw [evalPart_some]
 refine thn (hst pins s1 σ H1 _ I1 q1) fun u s2 ⟨y,H2,I2,r2,hy,a,xs,hx,hq,q⟩=>?_
 subst hy hx
 obtain ⟨t,rfl⟩:=r2
 cases r1
 have I3 : Inv X pins σ H2 { s2 with heap:=s2.heap.push { cls:=.type "slice",data:=.fields #[.none,.none,.int (-1) t] } }:=I2.kept (t':=s2.toks) fun b ob q=>ay6 _ q
 obtain ⟨its,r,ht,hz⟩:=I3.list hq
 have hlen:=r.length
 refine ⟨ht.isList.typeIs,?_⟩
 refine wpAny_getItem_list_slice ht.isList (Heap.IsSliceOf.new ..) .none .none (.int (-1) t) (by decide) ?_ (by rw [by6] <;> omega)
 rw [PySem.W.krv_pick]
 refine ⟨.ref _,_,I3.laid (t':=s2.toks) (o:=.lst xs.reverse) (fun b ob q=>ay6 _ q) (ay5 _) ?_,rfl,q _ (I3.hok.fresh (ay5 _))⟩
 refine ⟨by rw [List.length_reverse]; exact hz,its.reverse,0,?_,by2 _ rfl⟩
 have : ∀ {a : List V} {b : List Value},Vals a b->Vals a.reverse b.reverse:=by
  intro a b h
  induction h with
  | nil=>exact .nil
  | cons h t ih=>rw [List.reverse_cons,List.reverse_cons]; exact ih.snoc h
 exact this r
end
section
variable {X : Bc} {S : Sl} {W : Wl} {k : KB}
theorem zc16 {e st : Expr} {p2 pos : Pos} (h : BE X S W e fun x W1=>BE X S W1 st fun y W2=>∃ ds,y = .d (.int (-1)) /\ zD6 W2 x ds /\ k (.d (.list ds.reverse)) W2) : BE X S W (.Subscript e (.Slice none none (some st) p2) pos) k :=
 .of (zc15 zi0 zi0) fun F A σ H Q x0 r sr q=>h.use x0 r sr fun F1 A1 W1 H1 x vx e1 r1 z1 h1=>h1.use (x0.trans e1) r1 (sr.ext e1) fun F2 A2 W2 H2 y vy e2 r2 z2 ⟨ds,hy,hx,h2⟩=>by
  subst hy
  obtain rfl:=Rq.zd4 z2
  obtain ⟨a,vs,rfl,hs,z⟩:=r2.lst (z1.ext e2) hx
  refine ⟨rfl,a,vs,rfl,.inl hs,fun p hp=>?_⟩
  have hrev : ∀ {a : List PyData} {b : List V},Paired (fun d v=>Rq X.K F2 v d) a b->Paired (fun d v=>Rq X.K F2 v d) a.reverse b.reverse:=by
   intro a b h
   induction h with
   | nil=>exact .nil
   | cons h t ih=>rw [List.reverse_cons,List.reverse_cons]; exact zo1 ih (.cons h .nil)
  exact ((q.ext e1).ext e2).newL r2 hp (hrev z) h2
end
end L2
namespace PySem.W
open PySem PySem.Calls PyProof.Rows PySem.Spec Builtin Builtin.ObjectAttr Builtin.Getset_descriptor
end PySem.W
namespace PySem.W
open PySem PySem.Spec PySem.Calls PyProof.Rows
end PySem.W
namespace L2
open PySem PySem.Spec PyProof.Rows
end L2
namespace L2
open PySem
end L2
namespace L2
open PySem PySem.Spec PyProof.Rows
open PySem.W
structure WO (n : Nat) (lt : Nat->Nat->Bool) : Prop where
 asym : ∀ i j,i < n->j < n->lt i j = true->lt j i = false
 trans : ∀ i j k,i < n->j < n->k < n->lt i j = true->lt j k = true->lt i k = true
 ntr : ∀ i j k,i < n->j < n->k < n->lt i j = false->lt j k = false->lt i k = false
section
variable {n : Nat} {lt : Nat->Nat->Bool} {p : Array Nat}
theorem WO.irr (O : WO n lt) {i : Nat} (hi : i < n) : lt i i = false:=by
 cases h : lt i i with
 | false=>rfl
 | true=>rw [<- h]; exact O.asym i i hi hi h
/-- i < j,j not above k -/
theorem WO.zc17 (O : WO n lt) {i j k : Nat} (hi : i < n) (hj : j < n) (hk : k < n) (h : lt i j = true) (h' : lt k j = false) : lt i k = true:=by
 cases e : lt i k with
 | true=>rfl
 | false=>rw [O.ntr i k j hi hk hj e h'] at h; cases h
theorem WO.zd48 (O : WO n lt) {i j k : Nat} (hi : i < n) (hj : j < n) (hk : k < n) (h : lt j i = false) (h' : lt j k = true) : lt i k = true:=by
 cases e : lt i k with
 | true=>rfl
 | false=>rw [O.ntr j i k hj hi hk h e] at h'; cases h'
/-- alike things stand for one another -/
theorem WO.cls (O : WO n lt) {a a' b b' : Nat} (ha : a < n) (ha' : a' < n) (hb : b < n) (hb' : b' < n) (h1 : lt a a' = false) (h2 : lt a' a = false) (h3 : lt b b' = false) (h4 : lt b' b = false) : lt a b = lt a' b':=by
 rw [gy4]
 constructor
 ·intro h
  exact O.zc17 ha' hb hb' (O.zd48 ha' ha hb h1 h) h4
 ·intro h
  exact O.zc17 ha hb' hb (O.zd48 ha ha' hb' h2 h) h3
def UpW (lt : Nat->Nat->Bool) (p : Array Nat) (m : Nat) : Prop:=∀ i j,i < j->j < m->lt (gp p j) (gp p i) = false
def DnW (lt : Nat->Nat->Bool) (p : Array Nat) (m : Nat) : Prop:=∀ i j,i < j->j < m->lt (gp p i) (gp p j) = false
def EqS (lt : Nat->Nat->Bool) (p : Array Nat) (i j : Nat) : Prop:=∀ a b,i <= a->a < j->i <= b->b < j->lt (gp p a) (gp p b) = false
theorem zZ2 (h : Pm n p) {i j : Nat} (hj : j <= n) (x : Nat) : gp (kas_rev p i j) x = if i <= x /\ x < j then gp p (i + j - 1 - x) else gp p x:=by
 rw [zj9,zj9,zj9]
 unfold kas_rev
 rw [getElem?_mirror_all (by rw [h.size]; exact hj)]
 by_cases hx : i <= x /\ x < j
 ·rw [if_pos hx,if_pos hx]
 ·rw [if_neg hx,if_neg hx]
variable (hn : 0 < n) (O : WO n lt)
include hn O
theorem zZ3 (h : Pm n p) {i j : Nat} (hj : j <= n) (he : EqS lt p i j) (x y : Nat) : lt (gp (kas_rev p i j) x) (gp (kas_rev p i j) y) = lt (gp p x) (gp p y):=by
 rw [zZ2 h hj,zZ2 h hj]
 have key : ∀ x,lt (if i <= x /\ x < j then gp p (i + j - 1 - x) else gp p x) (gp p x) = false /\ lt (gp p x) (if i <= x /\ x < j then gp p (i + j - 1 - x) else gp p x) = false /\ (if i <= x /\ x < j then gp p (i + j - 1 - x) else gp p x) < n:=fun x=>by
  by_cases hx : i <= x /\ x < j
  ·rw [if_pos hx]
   exact ⟨he _ _ (by omega) (by omega) hx.1 hx.2,he _ _ hx.1 hx.2 (by omega) (by omega),h.lt hn _⟩
  ·rw [if_neg hx]
   exact ⟨O.irr (h.lt hn _),O.irr (h.lt hn _),h.lt hn _⟩
 exact O.cls (key x).2.2 (h.lt hn _) (key y).2.2 (h.lt hn _) (key x).1 (key x).2.1 (key y).1 (key y).2.1
theorem zZ4 (h : Pm n p) : ∀ f x,1 <= x->x + f = n->UpW lt p x->Lr n lt (kas_asc p f x) fun m=>x <= m /\ m <= n /\ UpW lt p m /\ (m < n->lt (gp p m) (gp p (m - 1)) = true)
 | 0,x,h1,h2,hu=>by
  rw [kas_asc.eq_1]
  exact ⟨ay5 _,by omega,hu,fun z=>by omega⟩
 | f + 1,x,h1,h2,hu=>by
  rw [kas_asc.eq_2]
  have hne : gp p x ≠ gp p (x - 1):=fun z=>by have:=h.inj (by omega) (by omega) z; omega
  refine ⟨h.lt hn _,h.lt hn _,hne,?_⟩
  dsimp only
  cases hc : lt (gp p x) (gp p (x - 1)) with
  | true =>
   rw [if_pos rfl]
   exact ⟨ay5 _,by omega,hu,fun _=>hc⟩
  | false =>
   rw [if_neg (by decide)]
   refine (zZ4 h f (x + 1) (by omega) (by omega) fun i j a b=>?_).mono fun m ⟨m1,m2,m3,m4⟩=>⟨by omega,m2,m3,m4⟩
   by_cases hj : j < x
   ·exact hu i j a hj
   ·obtain rfl : j = x:=by omega
    by_cases hi : i = j - 1
    ·rw [hi]; exact hc
    ·exact O.ntr _ _ _ (h.lt hn _) (h.lt hn _) (h.lt hn _) hc (hu i (j - 1) (by omega) (by omega))
theorem zA9 (h : Pm n p) {x : Nat} (h1 : 1 <= x) (hd : DnW lt p x) (hc : lt (gp p (x - 1)) (gp p x) = false) : DnW lt p (x + 1):=fun i j a b=>by
 by_cases hj : j < x
 ·exact hd i j a hj
 ·obtain rfl : j = x:=by omega
  by_cases hi : i = j - 1
  ·rw [hi]; exact hc
  ·exact O.ntr _ _ _ (h.lt hn _) (h.lt hn _) (h.lt hn _) (hd i (j - 1) (by omega) (by omega)) hc
theorem zZ5 (h : Pm n p) (x : Nat) : EqS lt p x (x + 1):=fun a b a1 a2 b1 b2=>by
 obtain rfl : a = x:=by omega
 obtain rfl : b = a:=by omega
 exact O.irr (h.lt hn _)
theorem zB0 : ∀ f {p : Array Nat} x q,Pm n p->2 <= x->x + f = n->q + 1 <= x->DnW lt p x->EqS lt p (x - (q + 1)) x->Lr n lt (kas_desc f p x q) fun r=>Pm n r.1 /\ x <= r.2.1 /\ r.2.1 <= n /\ r.2.2 + 1 <= r.2.1 /\ DnW lt r.1 r.2.1 /\ EqS lt r.1 (r.2.1 - (r.2.2 + 1)) r.2.1
 | 0,p,x,q,h,h1,h2,h3,hd,he=>by
  rw [kas_desc.eq_1]
  exact ⟨h,ay5 _,by show x <= n; omega,h3,hd,he⟩
 | f + 1,p,x,q,h,h1,h2,h3,hd,he=>by
  rw [kas_desc.eq_2]
  have hne : gp p x ≠ gp p (x - 1):=fun z=>by have:=h.inj (by omega) (by omega) z; omega
  refine ⟨h.lt hn _,h.lt hn _,hne,?_⟩
  dsimp only
  cases hc : lt (gp p x) (gp p (x - 1)) with
  | true =>
   rw [if_pos rfl]
   have hc':=O.asym _ _ (h.lt hn _) (h.lt hn _) hc
   by_cases hq : q > 0
   ·rw [if_pos hq]
    have hp:=h.rev (x - (q + 1)) x
    have hr:=zZ3 hn O h (i:=x - (q + 1)) (j:=x) (by omega) he
    refine (zB0 f (x + 1) 0 hp (by omega) (by omega) (by omega) (zA9 hn O hp (by omega) (fun i j a b=>?_) ?_) ?_).mono fun r ⟨r1,r2,r3⟩=>⟨r1,by omega,r3⟩
    ·rw [hr]; exact hd i j a b
    ·rw [hr]; exact hc'
    ·exact zZ5 hn O hp x
   ·rw [if_neg hq]
    refine (zB0 f (x + 1) 0 h (by omega) (by omega) (by omega) (zA9 hn O h (by omega) hd hc') ?_).mono fun r ⟨r1,r2,r3⟩=>⟨r1,by omega,r3⟩
    exact zZ5 hn O h x
  | false =>
   rw [if_neg (by decide)]
   refine ⟨h.lt hn _,h.lt hn _,iy5 hne,?_⟩
   dsimp only
   cases hd2 : lt (gp p (x - 1)) (gp p x) with
   | true =>
    rw [if_pos rfl]
    exact ⟨h,ay5 _,by show x <= n; omega,h3,hd,he⟩
   | false =>
    rw [if_neg (by decide)]
    refine (zB0 f (x + 1) (q + 1) h (by omega) (by omega) (by omega) (zA9 hn O h (by omega) hd hd2) fun a b a1 a2 b1 b2=>?_).mono fun r ⟨r1,r2,r3⟩=>⟨r1,by omega,r3⟩
    have key : ∀ a,x - (q + 1) <= a->a < x + 1->lt (gp p a) (gp p (x - 1)) = false /\ lt (gp p (x - 1)) (gp p a) = false:=fun a a1 a2=>by
     by_cases ha : a = x
     ·rw [ha]; exact ⟨hc,hd2⟩
     ·exact ⟨he a (x - 1) a1 (by omega) (by omega) (by omega),he (x - 1) a (by omega) (by omega) a1 (by omega)⟩
    exact O.ntr _ _ _ (h.lt hn _) (h.lt hn _) (h.lt hn _) (key a (by omega) a2).1 (key b (by omega) b2).2
theorem zL1 (h : Pm n p) {m : Nat} (hm : m <= n) (h1 : 1 <= m) (hd : DnW lt p m) : Lr n lt (kas_tail3 m n p) fun q=>Pm n q.2 /\ 1 <= q.1 /\ q.1 <= n /\ UpW lt q.2 q.1:=by
 unfold kas_tail3
 have hp:=h.rev 0 m
 refine ((zZ4 hn O hp (n - m) m h1 (by omega) fun i j a b=>?_).mono fun l ⟨l1,l2,l3,_⟩=>⟨hp,by show 1 <= l; omega,l2,l3⟩).bind
 rw [zb50 h hm,zb50 h hm,if_pos b,if_pos (by omega)]
 exact hd _ _ (by omega) (by omega)
theorem zu7 (h : Pm n p) {m : Nat} (h1 : 1 <= m) (hm : m < n) (hd : DnW lt p (m + 1)) : Lr n lt (kas_descPart m n p) fun q=>Pm n q.2 /\ 1 <= q.1 /\ q.1 <= n /\ UpW lt q.2 q.1:=by
 unfold kas_descPart
 refine ((zB0 hn O (n - (m + 1)) (m + 1) 0 h (by omega) (by omega) (by omega) hd (zZ5 hn O h m)).mono fun r ⟨r1,r2,r3,r4,r5,r6⟩=>?_).bind
 by_cases hq : r.2.2 > 0
 ·rw [if_pos hq]
  have hr:=zZ3 hn O r1 (i:=r.2.1 - (r.2.2 + 1)) (j:=r.2.1) r3 r6
  exact zL1 hn O (r1.rev _ _) r3 (by omega) fun i j a b=>by rw [hr]; exact r5 i j a b
 ·rw [if_neg hq]
  exact zL1 hn O r1 r3 (by omega) r5
theorem za96 (h : Pm n p) : Lr n lt (kas_count n p) fun q=>Pm n q.2 /\ 1 <= q.1 /\ q.1 <= n /\ UpW lt q.2 q.1:=by
 unfold kas_count
 refine ((zZ4 hn O h (n - 1) 1 (ay5 _) (by omega) fun i j a b=>by omega).mono fun m ⟨m1,m2,m3,m4⟩=>?_).bind
 split
 ·exact ⟨h,m1,m2,m3⟩
 ·rename_i hmn
  have hmn : m ≠ n:=by simpa using hmn
  have hlt:=m4 (by omega)
  split
  ·rename_i hm1
   refine ⟨h.lt hn _,h.lt hn _,fun z=>by have:=h.inj (by omega) (by omega) z; omega,?_⟩
   dsimp only
   cases hc : lt (gp p 0) (gp p (m - 1)) with
   | true =>
    rw [if_pos rfl]
    exact ⟨h,m1,m2,m3⟩
   | false =>
    rw [if_neg (by decide)]
    have le0 : ∀ a,a < m->lt (gp p a) (gp p 0) = false:=fun a ha=>by
     by_cases e : a = 0
     ·rw [e]; exact O.irr (h.lt hn _)
     ·exact m3 0 a (by omega) ha
    have lem : ∀ a,a < m->lt (gp p (m - 1)) (gp p a) = false:=fun a ha=>by
     by_cases e : a = m - 1
     ·rw [e]; exact O.irr (h.lt hn _)
     ·exact m3 a (m - 1) (by omega) (by omega)
    have he : EqS lt p 0 m:=fun a b _ a2 _ b2=>O.ntr _ _ _ (h.lt hn _) (h.lt hn _) (h.lt hn _) (le0 a a2) (O.ntr _ _ _ (h.lt hn _) (h.lt hn _) (h.lt hn _) hc (lem b b2))
    have hp:=h.rev 0 m
    have hr:=zZ3 hn O h (i:=0) (j:=m) m2 he
    refine zu7 hn O hp m1 (by omega) (zA9 hn O hp m1 (fun i j a b=>?_) ?_)
    ·rw [hr]; exact he i j (dy8 _) (by omega) (dy8 _) b
    ·rw [hr]; exact O.asym _ _ (h.lt hn _) (h.lt hn _) hlt
  ·rename_i hm1
   obtain rfl : m = 1:=by omega
   refine zu7 hn O h (ay5 _) (by omega) fun i j a b=>?_
   obtain rfl : i = 0:=by omega
   obtain rfl : j = 1:=by omega
   exact O.asym _ _ (h.lt hn _) (h.lt hn _) hlt
theorem zB1 (h : Pm n p) {k : Nat} (hk : k < n) (hu : UpW lt p k) : ∀ f l r,l <= r->r <= k->r - l <= f->(∀ i,i < l->lt (gp p k) (gp p i) = false)->(∀ i,r <= i->i < k->lt (gp p k) (gp p i) = true) ->
  Lr n lt (kas_place p k f l r) fun m=>m <= k /\ (∀ i,i < m->lt (gp p k) (gp p i) = false) /\ ∀ i,m <= i->i < k->lt (gp p k) (gp p i) = true
 | 0,l,r,h1,h2,h3,h4,h5=>by
  rw [kas_place.eq_1]
  obtain rfl : l = r:=by omega
  exact ⟨h2,h4,h5⟩
 | f + 1,l,r,h1,h2,h3,h4,h5=>by
  rw [kas_place.eq_2]
  split
  ·obtain rfl : l = r:=by omega
   exact ⟨h2,h4,h5⟩
  ·have hmid : l <= (l + r) / 2 /\ (l + r) / 2 < r:=by omega
   have hne : gp p k ≠ gp p ((l + r) / 2):=fun z=>by have:=h.inj hk (by omega) z; omega
   refine ⟨h.lt hn _,h.lt hn _,hne,?_⟩
   dsimp only
   cases hc : lt (gp p k) (gp p ((l + r) / 2)) with
   | true =>
    rw [if_pos rfl]
    refine zB1 h hk hu f l _ hmid.1 (by omega) (by omega) h4 fun i hi hik=>?_
    by_cases e : i = (l + r) / 2
    ·rw [e]; exact hc
    ·exact O.zc17 (h.lt hn _) (h.lt hn _) (h.lt hn _) hc (hu _ i (by omega) hik)
   | false =>
    rw [if_neg (by decide)]
    refine zB1 h hk hu f _ r (by omega) h2 (by omega) (fun i hi=>?_) h5
    by_cases e : i = (l + r) / 2
    ·rw [e]; exact hc
    ·exact O.ntr _ _ _ (h.lt hn _) (h.lt hn _) (h.lt hn _) hc (hu i _ (by omega) (by omega))
theorem zb51 : ∀ f {p : Array Nat} k,Pm n p->k + f = n->UpW lt p k->Lr n lt (kas_bin f p k) fun q=>Pm n q /\ UpW lt q n
 | 0,p,k,h,hk,hu=>by
  rw [kas_bin.eq_1]
  exact ⟨h,by rw [<- hk]; exact hu⟩
 | f + 1,p,k,h,hk,hu=>by
  rw [kas_bin.eq_2]
  have hkn : k < n:=by omega
  refine ((zB1 hn O h hkn hu k 0 k (dy8 _) (ay5 _) (by omega) (fun i hi=>by omega) (fun i a b=>by omega)).mono fun l ⟨l1,l2,l3⟩=>?_).bind
  have hq : Pm n (bubble p k (k - l)):=(bubble_perm _ _ _).trans h
  have gb : ∀ x,gp (bubble p k (k - l)) x = if x = l then gp p k else if l < x /\ x <= k then gp p (x - 1) else gp p x:=fun x=>by
   rw [zj9,zj9,zj9,zj9,getElem?_bubble (by rw [h.size]; exact hkn) (k - l) (by omega)]
   rw [show k - (k - l) = l by omega]
   split
   ·rfl
   ·split <;> rfl
  refine zb51 f (k + 1) hq (by omega) fun i j a b=>?_
  rw [gb,gb]
  by_cases e1 : i = l
  ·rw [if_pos e1,if_neg (show ¬ j = l by omega),if_pos (show l < j /\ j <= k by omega)]
   exact O.asym _ _ (h.lt hn _) (h.lt hn _) (l3 (j - 1) (by omega) (by omega))
  ·rw [if_neg e1]
   by_cases e2 : l < i
   ·rw [if_pos (show l < i /\ i <= k by omega),if_neg (show ¬ j = l by omega),if_pos (show l < j /\ j <= k by omega)]
    exact hu _ _ (by omega) (by omega)
   ·rw [if_neg (show ¬ (l < i /\ i <= k) by omega)]
    by_cases e3 : j = l
    ·rw [if_pos e3]
     exact l2 i (by omega)
    ·rw [if_neg e3]
     by_cases e4 : l < j
     ·rw [if_pos (show l < j /\ j <= k by omega)]
      exact hu _ _ (by omega) (by omega)
     ·rw [if_neg (show ¬ (l < j /\ j <= k) by omega)]
      exact hu _ _ a (by omega)
theorem zc18 : Lr n lt (kas_sort n) fun q=>Pm n q /\ UpW lt q n:=by
 unfold kas_sort
 refine ((za96 hn O (Array.Perm.refl _)).mono fun q ⟨q1,q2,q3,q4⟩=>?_).bind
 split
 ·rw [Nat.max_eq_left q2]
  exact zb51 hn O _ _ q1 (by omega) q4
 ·rename_i hq
  exact ⟨q1,by rw [show n = q.1 by omega]; exact q4⟩
end
section
variable {prog : dy7} {w : World} {A : Around} {E : Value->Shared->Prop} {s : Shared} {a : Addr} {vs : List Value} {n : Nat}
theorem zd49 {lt : Nat->Nat->Bool} {p : Array Nat} {n : Nat} (hz : p.size = n) (h : UpW lt p n) : p.toList.Pairwise fun i j=>lt j i = false:=by
 rw [List.pairwise_iff_getElem]
 intro i j hi hj hij
 have:=h i j hij (by rw [<- hz]; simpa using hj)
 have e : ∀ k (hk : k < p.toList.length),gp p k = p.toList[k]:=fun k hk=>by
  have hk' : k < p.size:=by simpa using hk
  simp [gp,Array.getD,hk']
 rw [e i hi,e j hj] at this
 exact this
theorem zQ3 {κ : SortKind} {lt : Nat->Nat->Bool} {P : PySem.Fin->Shared->Prop} (O : WO vs.length lt) (ho : s.heap.get? a = some (seqObj "list" vs.toArray n)) (h64 : vs.length < 64)
    (hk : 2 <= vs.length->∀ (s' : Shared) (Q : SortKind->Shared->Prop),(∀ b o,b ≠ a->s.heap.get? b = some o->s'.heap.get? b = some o)->Q κ s'->wpAny (model prog w) A (keyKind' vs.toArray) Q E s')
    (hc : 2 <= vs.length->∀ (s' : Shared) i j (C : Bool->Shared->Prop),(∀ b o,b ≠ a->s.heap.get? b = some o->s'.heap.get? b = some o)->i < vs.length->j < vs.length->i ≠ j->C (lt i j) s'->kas_ask prog w A κ vs i j C s')
    (h : ∀ q : List Nat,q.Perm (ey5 vs.length)->q.Pairwise (fun i j=>lt j i = false)->P (Fin.done (Flow.ret fy3)) { s with heap:=sortedHeap s.heap a vs (q.map fun i=>vs.getD i fy3).toArray }) :
    wpAny (model prog w) A (Builtin.«list.sort» { pos:=[fy8 a] }) P E s:=by
  rw [list_sort_plain a]
  have ha:=cy1 ho
  refine ay1 (listItems_at ho rfl (ay1 (listUpdate_at ho rfl ?_ (by rw [oy4]; simp; omega))))
  obtain ⟨e1,ho1⟩ : ∃ e1,(s.heap.update a (ly3 fun _=>#[])).get? a = some (seqObj "list" #[] e1):=⟨_,get?_update_seq ho fun _=>#[]⟩
  refine ay1 (seqEpoch_at ho1 rfl (ay1 (wpAny_newTuple (ay1 (wpAny_newList (jy3 ?_))))))
  have ho6 : (((s.heap.update a (ly3 fun x=>#[])).push (seqObj "tuple" vs.toArray 0)).push (seqObj "list" #[] 0)).get? a = some (seqObj "list" #[] e1):=by
    rw [Heap.get?_push_ne _ _ _ (by rw [size_push',Heap.size_update]; exact cy7 (qy8 ha)),Heap.get?_push_ne _ _ _ (by rw [Heap.size_update]; exact cy7 ha)]
    exact ho1
  have hkp : ∀ b o,b ≠ a->s.heap.get? b = some o->(((s.heap.update a (ly3 fun x=>#[])).push (seqObj "tuple" vs.toArray 0)).push (seqObj "list" #[] 0)).get? b = some o:=fun b o hb q =>
    ay6 _ (ay6 _ ((ky4 _ _ (iy5 hb)).trans q))
  generalize hS : ({ s with heap:=((s.heap.update a (ly3 fun x=>#[])).push (seqObj "tuple" vs.toArray 0)).push (seqObj "list" #[] 0) } : Shared) = S
  have last : ∀ (st' : SortSt) (R : PySem.Fin->Shared->Prop),failedOf st' = none->(arrOf st').size = vs.length->R (Fin.done (Flow.ret fy3)) { s with heap:=sortedHeap s.heap a vs (Array.map (fun x=>x.snd) (arrOf st')) } ->
     wpAny (model prog w) A (do
         let __do_lift <- seqEpoch a
         Builtin.List.listUpdate (fy8 a) fun x=>Array.map (fun x=>x.snd) (arrOf st')
         match failedOf st' with
           | some e=>do
             rule "list.sort.comparison-raised"
             throw e
             if (__do_lift != e1) = true then do
                 rule "list.sort.modified"
                 raiseErrorWords "ValueError" "list modified during sort"
                 ret fy3
               else ret fy3
           | x =>
             if (__do_lift != e1) = true then do
               rule "list.sort.modified"
               raiseErrorWords "ValueError" "list modified during sort"
               ret fy3
             else ret fy3) R E S:=by
    intro st' R hf hsz hR
    subst hS
    refine ay1 (seqEpoch_at ho6 rfl (ay1 (listUpdate_at ho6 rfl ?_ (by simp) (by rw [Array.size_map,hsz,oy4]; omega))))
    rw [hf]
    simp only [bne_self_eq_false,ny2,if_false]
    exact ay9 hR
  have hkp' : ∀ b o,b ≠ a->s.heap.get? b = some o->S.heap.get? b = some o:=by subst hS; exact hkp
  by_cases h2 : vs.toArray.size < 2
  · show wpAny _ _ (if vs.toArray.size < 2 then _ else _) _ _ S
    rw [if_pos h2]
    refine ay1 (ay9 ?_)
    rw [if_pos h2]
    show wpAny _ _ (StateT.run (pure ()) (SortSt.mk' general' (vs.toArray.zip vs.toArray) #[] 7 none) >>= _) _ _ S
    rw [StateT.run_pure]
    refine ay1 (ay9 ?_)
    refine last (SortSt.mk' general' (vs.toArray.zip vs.toArray) #[] 7 none) _ rfl ?_ ?_
    · show (vs.toArray.zip vs.toArray).size = _
      simp
    · have e : Array.map (fun x : Keyed=>x.snd) (vs.toArray.zip vs.toArray) = ((ey5 vs.length).map fun i=>vs.getD i fy3).toArray:=by
        rw [zX9]
        have:=congrArg List.toArray (zc06 vs)
        rwa [Array.toArray_toList] at this
      show P _ { s with heap:=sortedHeap s.heap a vs (Array.map (fun x : Keyed=>x.snd) (vs.toArray.zip vs.toArray)) }
      rw [e]
      refine h _ (.refl _) ?_
      have h2' : vs.length < 2:=by simpa using h2
      rw [List.pairwise_iff_getElem]
      intro i j hi hj hij
      simp at hj
      omega
  · have h2' : 2 <= vs.length:=by simpa using h2
    show wpAny _ _ (if vs.toArray.size < 2 then _ else _) _ _ S
    rw [if_neg h2]
    refine ay1 (hk h2' S _ hkp' ?_)
    rw [if_neg h2]
    refine ay1 (thn (kat_run (ks:=vs) (Q:=fun st' s'=>s' = S /\ failedOf st' = none /\ (arrOf st').size = vs.length /\ ∃ q : List Nat,q.Perm (ey5 vs.length) /\ q.Pairwise (fun i j=>lt j i = false) /\ Array.map (fun x=>x.snd) (arrOf st') = (q.map fun i=>vs.getD i fy3).toArray) (G:=fun p s'=>s' = S /\ Pm vs.length p /\ UpW lt p vs.length) rfl h2' h64 (fun p st' s' hp harr hf hG=>?_) ((zc18 (by omega) O).mono (fun p hp=>⟨rfl,hp⟩) |>.wp fun i j C hi hj hij hC=>hc h2' S i j C hkp' hi hj hij hC)) fun r s' q=>?_)
    rotate_left
    · obtain ⟨⟨⟩,st'⟩:=r
      obtain ⟨rfl,q1,q2,q,q3,q4,q5⟩:=q
      refine last st' _ q1 q2 ?_
      rw [q5]
      exact h q q3 q4
    obtain ⟨rfl,hG,hU⟩:=hG
    refine ⟨rfl,hf,by rw [harr,Array.size_map,hp],p.toList,by simpa using Array.perm_iff_toList_perm.mp hG,zd49 hp hU,?_⟩
    rw [harr]
    have e : (Array.map (fun x=>x.snd) (Array.map (kas_item (vs.toArray.zip vs.toArray)) p)).toList = p.toList.map fun i=>vs.getD i fy3:=by
      simp only [Array.toList_map,gy7]
      refine oy9 fun i _=>?_
      show (kas_item (vs.toArray.zip vs.toArray) i).2 = _
      rw [kat_item rfl]
    rw [<- e]
end
theorem zd50 {ks : List (List Str)} {m : Nat} (hm : ∀ k∈ks,k.length = m) : WO ks.length fun i j=>ltL (ks.getD i []) (ks.getD j []):=by
 have e : ∀ k (hk : k < ks.length),ks.getD k [] = ks[k]:=fun k hk=>by simp [sy4,hk]
 have hl : ∀ k (hk : k < ks.length),(ks.getD k []).length = m:=fun k hk=>by rw [e k hk]; exact hm _ (ry6 hk)
 refine ⟨fun i j hi hj h=>zK8 ((hl i hi).trans (hl j hj).symm) h,fun i j k hi hj hk h h'=>zq0 ((hl i hi).trans (hl j hj).symm) ((hl j hj).trans (hl k hk).symm) h h',fun i j k hi hj hk h h'=>?_⟩
 have l1:=hl i hi
 have l2:=hl j hj
 have l3:=hl k hk
 generalize ks.getD i [] = a at *
 generalize ks.getD j [] = b at *
 generalize ks.getD k [] = c at *
 cases z : ltL a c with
 | false=>rfl
 | true =>
  by_cases e1 : a = b
  ·rw [e1,h'] at z; cases z
  ·by_cases e2 : b = c
   ·rw [<- e2,h] at z; cases z
   ·have t1:=zA8 (by omega) e1 h
    have t2:=zA8 (by omega) e2 h'
    have t3:=zq0 (by omega) (by omega) t2 t1
    rw [zK8 (by omega) t3] at z
    cases z
section
variable {prog : dy7} {w : World} {A : Around} {E : Value->Shared->Prop} {s : Shared}
theorem zQ4 {Q : Bool->Shared->Prop} {xs ys : List Str} {its its2 : List Value} (rx : Vals (xs.map V.str) its) (ry : Vals (ys.map V.str) its2) (hl : xs.length = ys.length) (h : Q (ltL xs ys) s) : KatLex prog w A true false Q (its.zip its2) 0 s:=by
 by_cases hne : xs = ys
 ·subst hne
  rw [zH3] at h
  have go : ∀ (xs : List Str) (its its2 : List Value) (i : Nat),Vals (xs.map V.str) its->Vals (xs.map V.str) its2->KatLex prog w A true false Q (its.zip its2) i s:=by
   intro xs
   induction xs with
   | nil =>
    intro its its2 i r r'
    cases r
    cases r'
    rw [List.zip_nil_left,KatLex.eq_1]
    exact h
   | cons x xs ih =>
    intro its its2 i r r'
    cases r with
    | cons rx r =>
     cases r' with
     | cons ry r' =>
      obtain ⟨t,rfl⟩:=rx
      obtain ⟨u,rfl⟩:=ry
      rw [List.zip_cons_cons,KatLex.eq_2]
      refine wpAny_eqBool_str ?_
      rw [decide_eq_true rfl,if_pos rfl]
      exact ih _ _ _ r r'
  exact go xs its its2 0 rx ry
 ·exact zY5 rx ry hl hne h
end
section
variable {α : Type}
theorem zZ6 [Inhabited α] {L : List α} {key : α->List Str} {q : List Nat} (hq : ∀ i∈q,i < L.length) (h : q.Pairwise fun i j=>ltL ((L.map key).getD j []) ((L.map key).getD i []) = false) : (q.map fun i=>L.getD i default).Pairwise fun a b=>ltL (key b) (key a) = false:=by
 rw [List.pairwise_map]
 refine h.imp_of_mem fun {i j} hi hj hij=>?_
 have e : ∀ k,k < L.length->(L.map key).getD k [] = key (L.getD k default):=fun k hk=>by simp [sy4,hk]
 rw [e i (hq i hi),e j (hq j hj)] at hij
 exact hij
/-- two lists of the same things that do not fall are one -/
theorem zE6 {key : α->List Str} {m : Nat} : ∀ {l1 l2 : List α},l1.Perm l2->l1.Pairwise (fun a b=>ltL (key b) (key a) = false)->l2.Pairwise (fun a b=>ltL (key b) (key a) = false)->(∀ a∈l1,(key a).length = m)->(∀ a∈l1,∀ b∈l1,key a = key b->a = b)->l1 = l2
 | [],l2,hp,_,_,_,_=>(List.nil_perm.mp hp).symm ▸ rfl
 | a :: l1,[],hp,_,_,_,_=>by have:=hp.length_eq; simp at this
 | a :: l1,b :: l2,hp,h1,h2,hm,hi=>by
  have ha : a∈b :: l2:=hp.mem_iff.mp by5
  have hb : b∈a :: l1:=hp.mem_iff.mpr by5
  obtain ⟨p1,q1⟩:=List.pairwise_cons.mp h1
  obtain ⟨p2,q2⟩:=List.pairwise_cons.mp h2
  have e : a = b:=by
   rcases cy4.mp ha with z | z
   ·exact z
   ·rcases cy4.mp hb with y | y
    ·exact y.symm
    ·have t1:=p1 b y
     have t2:=p2 a z
     refine hi a by5 b hb ?_
     refine Classical.byContradiction fun hne=>?_
     have:=zA8 ((hm a by5).trans (hm b hb).symm) hne t2
     rw [this] at t1
     cases t1
  subst e
  rw [zE6 (List.Perm.cons_inv hp) q1 q2 (fun x hx=>hm x (by8 _ hx)) (fun x hx y hy=>hi x (by8 _ hx) y (by8 _ hy))]
end
end L2
namespace L2
open PySem PySem.Spec PyProof.Rows
section
variable {P : dy7} {w : World} {A : Around} {R : Result->Shared->Prop} {I : Addr} {fp wr : List Addr} {G : Array GenState->Array GenState->Prop} {St : Nat->Shared->Prop} {xs : List Int}
theorem zE7 {h h' : Heap} {a : Addr} {S : Int->Bool} {n : Nat} (x : Heap.SetOf (intKind P w) h a S n) (k : ∀ o,h.get? a = some o->h'.get? a = some o) : Heap.SetOf (intKind P w) h' a S n:=by
 obtain ⟨o,es,ep,t,g1,r⟩:=x
 exact ⟨o,es,ep,t,k o g1,r⟩
theorem zZ7 (W : WalksS P w A.in1 I fp wr G xs.length (fun i v=>∃ x t,xs[i]? = some x /\ v = .int x t) St) {T : Addr} (hT : T ∉ fp) (nd : xs.Nodup) (few : xs.length + 1 < scanBound) :
  ∀ (j i : Nat) (s : Shared),xs.length - i = j->i <= xs.length->St i s->Heap.SetOf (intKind P w) s.heap T (fun k=>decide (k∈xs.take i)) i ->
   (∀ s',Moved (T :: wr) G s s'->Heap.SetOf (intKind P w) s'.heap T (fun k=>decide (k∈xs)) xs.length->R (.ok (.ret .none)) s')->codeAny (model P w) A (.builtin "set.update.loop" ⟨[.ref T,.ref I],[]⟩) R s:=by
 have nw : T ∉ wr:=fun z=>hT (W.sub _ z)
 have sub : ∀ b∈wr,b∈T :: wr:=fun b z=>by8 _ z
 intro j
 induction j with
 | zero =>
  intro i s hj hi st hs q
  obtain rfl : i = xs.length:=by omega
  refine ky9 F.entry_set_update_loop ?_
  rw [ly7 F.plain_set_update_loop _]
  refine ay1 (W.done s _ _ st fun s' mv=>?_)
  rw [hy6] at hs
  exact ay9 (q s' (mv.mono sub) (zE7 hs fun o e=>mv.heap T o nw e))
 | succ j ih =>
  intro i s hj hi st hs q
  have lt : i < xs.length:=by omega
  refine ky9 F.entry_set_update_loop ?_
  rw [ly7 F.plain_set_update_loop _]
  refine ay1 (W.item i s _ _ lt st fun v s' hv st' mv=>?_)
  obtain ⟨x,t,hx,rfl⟩:=hv
  have hs1:=zE7 hs fun o e=>mv.heap T o nw e
  refine ay1 (jy3 ?_)
  unfold setAdd
  refine jy3 (ay1 ((intKind P w).pyHash (k:=x) (intKind_is P w x t) ?_))
  have hnx : x ∉ xs.take i:=fun z=>by
   obtain ⟨k,hk⟩:=ny6 z
   have hl:=(ay0.mp hk).1
   rw [iy2] at hl
   rw [dy9 (by omega)] at hk
   have:=(List.getElem?_inj (by omega) nd).mp (hk.trans hx.symm)
   omega
  refine wpAny_setAddHashed_of (s:={ s' with toks:=s'.toks + 1 }) (intKind_is P w x t) rfl hs1 (by omega) fun h' sb hs2=>?_
  have e : xs.take (i + 1) = xs.take i++[x]:=by rw [gy1,hx]; rfl
  have nxt : Heap.SetOf (intKind P w) h' T (fun k=>decide (k∈xs.take (i + 1))) (i + 1):=by
   refine SetOf_congr hs2 (fun k=>?_) ?_
   ·rw [e,gy4]
    simp
   ·rw [if_neg (by simpa using hnx)]
  refine ay9 ⟨plainId_quiet F.plain_set_update_loop _,ih (i + 1) _ (by omega) lt (W.frame _ s' _ _ st' (sy6 _) fun b hb o e=>?_) nxt fun s2 m2 h2=>?_⟩
  ·rw [sb.2 b fun z=>hT (by rw [<- z]; exact hb)]; exact e
  ·refine q s2 (Moved.trans W.gtrans ((mv.mono sub).then_heap (sy6 _) fun b o hb e=>?_) m2) h2
   rw [sb.2 b fun z=>hb (by rw [z]; exact by5)]; exact e
set_option maxHeartbeats 3200000 in
theorem zZ8 {E : Value->Shared->Prop} {s : Shared} {l : Addr} {its : Array Value} {ss : List Int} {Q : Value->Shared->Prop}
  (hh : A.handled = none) (hl : s.heap.IsTuple l its) (hsz : its.size = ss.length) (hi : ∀ (i : Nat) (v : Value),its[i]? = some v->∃ x t,ss[i]? = some x /\ v = Value.int x t) (nd : ss.Nodup) (few : ss.length + 1 < scanBound)
  (h : ∀ (h' : Heap) (tk : Nat),Heap.SetOf (intKind P w) h' s.heap.objs.size (fun k=>decide (k∈ss)) ss.length->(∀ b o,s.heap.get? b = some o->h'.get? b = some o)->Q (.ref s.heap.objs.size) { s with heap:=h',toks:=tk }) :
  wpAny (model P w) A (call (.type "set") [.ref l]) Q E s:=by
 obtain ⟨c,tl,hmro⟩:=qy5.mro
 have made:=qy5.made
 have subt:=qy5.sub
 refine wpAny_call (codeAny_of_tree ?_)
 show wpAny _ _ (callAny (.type "set") _) _ _ _
 refine ay9 ⟨Code.quiet_builtin _ (by decide +kernel),ky9 F.entry_type_call ?_⟩
 rw [Around.under_plain (weight_type_call_type "set" [.ref l] []) rfl]
 have n1:=qy5.notType
 have n2:=qy5.canCreate
 have n3:=F.typeCall_set_1 (.ref l)
 repeat any_goals first | assumption | wp_step
 refine codeAny_mono (code_set_new_1 (.ref l) (E:=E) (Q₁:=fun ob s1=>∃ led : Bool,ob = .ref s.heap.objs.size /\ s1 = { s with heap:=s.heap.push { cls:=.type "set",dict:=none,data:=.set #[] 0 (.fresh 0 0 led) } }) fun led=>⟨led,rfl,rfl⟩) fun r s1 hr=>?_
 cases r with
 | error e=>exact hr
 | ok fl =>
  cases fl with
  | ret ob =>
   obtain ⟨led,rfl,rfl⟩:=hr
   have hS : (s.heap.push { cls:=.type "set",dict:=none,data:=.set #[] 0 (.fresh 0 0 led) }).get? s.heap.objs.size = some { cls:=.type "set",dict:=none,data:=.set #[] 0 (.fresh 0 0 led) }:=by2 _ rfl
   have hT : Shared.TypeIs { s with heap:=s.heap.push { cls:=.type "set",dict:=none,data:=.set #[] 0 (.fresh 0 0 led) } } (.ref s.heap.objs.size) "set" := ⟨_,hS,rfl⟩
   have ili:=qy5.init.lookup
   have ibi:=qy5.init.bind (.ref s.heap.objs.size)
   repeat any_goals first | assumption | wp_step
   refine codeAny_mono (codeAny_call_builtin (R:=wants (fun r s2=>r = .none /\ ∃ h' tk,s2 = { s with heap:=h',toks:=tk } /\ Heap.SetOf (intKind P w) h' s.heap.objs.size (fun k=>decide (k∈ss)) ss.length /\ (∀ b o,s.heap.get? b = some o->h'.get? b = some o)) E) qy5.init.plain F.entry_set_init (check_set_init_1 hT ?_)) fun r2 s2 hr2=>?_
   ·obtain ⟨ol,hol,hcl,nl,hdl⟩:=hl
    obtain ⟨ocls,odict,odata,oslots⟩:=ol
    simp only at hcl hdl
    subst hcl; subst hdl
    have hol' : (s.heap.push { cls:=.type "set",dict:=none,data:=.set #[] 0 (.fresh 0 0 led) }).get? l = some { cls:=.type "tuple",dict:=odict,data:=.seq its nl,slots:=oslots }:=ay6 _ hol
    have s1:=F.sub_tuple_set
    have s2:=F.sub_tuple_frozenset
    have s3 : (Value.type "tuple" == Value.type "dict") = false:=by decide
    have hl1 : (s.heap.push { cls:=.type "set",dict:=none,data:=.set #[] 0 (.fresh 0 0 led) }).IsTuple l its:=⟨_,hol',rfl,nl,rfl⟩
    unfold Builtin.«set.__init__» noKeywords Builtin.Frozenset.updateFrom
    generalize hPI : pyIter = PI
    wp_walk
    subst hPI
    refine py4 hl1 (ay1 (wpAny_runValue ?_))
    have lS : l < s.heap.objs.size:=cy1 hol
    have h3 : A.in1.in1.in1.handled = none:=by simp [hh]
    have nI : l ≠ (s.heap.push { cls:=.type "set",dict:=none,data:=.set #[] 0 (.fresh 0 0 led) }).objs.size:=by
     rw [ry0]; exact cy7 (qy8 lS)
    have nS : s.heap.objs.size ∉ [(s.heap.push { cls:=.type "set",dict:=none,data:=.set #[] 0 (.fresh 0 0 led) }).objs.size,l]:=by
     rw [ry0]
     simp only [cy4,py3,or_false,not_or]
     exact ⟨cy7 (my7 _),my1 lS⟩
    have W0:=(Walks.tuple (prog:=P) (w:=w) h3 _ l nI its).toS
    have W1:=zX4 W0 (P2:=fun i v=>∃ x t,ss[i]? = some x /\ v = Value.int x t) fun i v hv=>hi i v hv
    rw [hsz] at W1
    refine zZ7 W1 nS nd few (ss.length - 0) 0 _ (by omega) (dy8 _) ⟨⟨_,by2 _ rfl,rfl,rfl⟩,(hl1.push _)⟩ ?hS0 ?hR
    case hS0 =>
     exact ⟨_,#[],0,_,ay6 _ hS,⟨rfl,rfl,rfl⟩,rfl,(fun e he=>by simp at he),(fun k=>by simp),by decide,rfl,rfl⟩
    case hR =>
     intro s' hm hS'
     obtain ⟨h',g',d',tk',os'⟩:=s'
     have eg : g' = s.gens:=hm.gens
     have ed : d' = s.drawn:=hm.drawn
     have eo : os' = s.os:=hm.os
     subst eg ed eo
     refine ay9 (ay9 ⟨rfl,h',tk',rfl,hS',fun b o e=>?_⟩)
     have hb:=cy1 e
     refine hm.heap b o ?_ (ay6 _ (ay6 _ e))
     rw [ry0]
     simp only [cy4,py3,or_false,not_or]
     exact ⟨cy7 hb,cy7 (qy8 hb)⟩
   ·cases r2 with
    | error e=>exact hr2
    | ok f2 =>
     cases f2 with
     | ret r =>
      obtain ⟨rfl,h',tk,rfl,hS',hk'⟩:=hr2
      repeat any_goals first | assumption | wp_step
      exact h _ _ hS' hk'
     | _=>exact hr2.elim
  | _=>exact hr.elim
end
/-- how many are in the set -/
def SetN (h : Heap) (a : Addr) (n : Nat) : Prop:=∃ o es ep t,h.get? a = some o /\ o.ExactSet /\ o.data = .set es ep t /\ t.fits es.size = true /\ es.size = n /\ n < scanBound
def za97 (a : Addr) (n : Nat) : HO:=.ext fun h=>SetN h a n
theorem za98 {P : dy7} {w : World} {H : Hp} {h : Heap} {a : Addr} {n : Nat} (x : SetN h a n) : zd2 P w H h a (za97 a n):=by
 refine ⟨x,?_,fun h1 h2 y k=>?_⟩
 ·obtain ⟨o,es,ep,t,g1,_⟩:=x
  exact ⟨o,g1⟩
 ·obtain ⟨o,es,ep,t,g1,r⟩:=y
  exact ⟨o,es,ep,t,k o g1,r⟩
section
variable {X : Cx}
theorem zZ9 (hc : X.calm = true) : zl1 X (.type "set") (fun xs H Q=>∃ (l : Addr) (ss : List Int),xs = [.ref l] /\ SqT X.K H l (ss.map V.int) /\ ss.Nodup /\ ss.length + 1 < scanBound /\ ∀ p,H p = none->Q (.ref p) (upd H p (za97 p ss.length))):=by
 intro pins s σ H xs us Q I r h
 obtain ⟨l,ss,rfl,hq,nd,few,q⟩:=h
 obtain ⟨u,rfl,rx⟩:=vals1 r
 cases rx
 obtain ⟨its,r',⟨o,g1,g2,n,g3⟩,hz⟩:=I.tuple hq
 have hlen:=r'.length
 rw [ay3] at hlen
 refine zZ8 (ss:=ss) (I.ok.hd hc) ⟨o,g1,g2,n,g3⟩ (by simpa using hlen.symm) (fun i v hv=>?_) nd few fun h' tk hS k=>?_
 ·have hv : its[i]? = some v:=by simpa using hv
  obtain ⟨x,hx,rx⟩:=zi6 r' hv
  rw [ay4] at hx
  obtain ⟨y,hy,rfl⟩:=fy0.mp hx
  obtain ⟨t,rfl⟩:=rx
  exact ⟨y,t,hy,rfl⟩
 ·obtain ⟨o,es,ep,t,a1,a2,a3,_,_,a6,a7,a8⟩:=hS
  exact ⟨.ref s.heap.objs.size,_,I.laid (t':=tk) k (ay5 _) (za98 ⟨o,es,ep,t,a1,a2,a3,a7,a8,by omega⟩),rfl,q _ (I.hok.fresh (ay5 _))⟩
theorem za00 : zl1 X (.builtin "len") (fun xs H Q=>∃ (p : Addr) (n : Nat),xs = [.ref p] /\ H p = some (za97 p n) /\ Q (.int n) H):=by
 intro pins s σ H xs us Q I r h
 obtain ⟨p,n,rfl,hq,q⟩:=h
 obtain ⟨u,rfl,rx⟩:=vals1 r
 cases rx
 obtain ⟨o,es,ep,t,g1,g2,g3,g6,hn,hb⟩:=(show SetN s.heap p n from (I.hok p _ hq).1)
 have:=fits_of_scanBound (show es.size < scanBound by omega)
 refine call_len_set g1 g2 g3 g6 (by rw [oy4] at this; omega) ⟨.int n,H,I.tok _,⟨_,by rw [hn]⟩,q⟩
end
section
variable {X : Bc} {S : Sl} {W : Wl} {k : KB}
/-- len(set(e)),of a tuple of whole numbers,no two alike -/
theorem zQ5 {e : Expr} {p1 p2 pos1 pos2 : Pos} (hc : X.calm = true) (hg1 : Gl X "len") (hm1 : X.mg "len" = none) (hv1 : ey7 "len" = some (.builtin "len")) (hg2 : Gl X "set") (hm2 : X.mg "set" = none) (hv2 : ey7 "set" = some (.type "set"))
  (h : BE X S W e fun x W1=>∃ ss : List Int,x = .d (.tuple (ss.map .int)) /\ ss.Nodup /\ ss.length + 1 < scanBound /\ k (.d (.int ss.length)) W1)
  (he : ey1 [e] X.env = [(false,eval e X.env)]:=by rfl) (he2 : ey1 [.Call (.Name "set" p2) [e] [] pos2] X.env = [(false,eval (.Call (.Name "set" p2) [e] [] pos2) X.env)]:=by rfl) : BE X S W (.Call (.Name "len" p1) [.Call (.Name "set" p2) [e] [] pos2] [] pos1) k :=
 .of (zy3 za00 hg1 hm1 hv1 (zm5 (zp2 (zZ9 hc) hg2 hm2 hv2 (zm5 zi0 zt2 he) (by decide) (by decide) he rfl) zt2 he2) (by decide) (by decide) he2 rfl) fun F A σ H Q x0 r sr q=>by
  refine h.use x0 r sr fun F1 A1 W1 H1 x vx e1 r1 z1 ⟨ss,hx,nd,few,h2⟩=>?_
  subst hx
  obtain ⟨a,vs,rfl,hs,z⟩:=Rq.zi7 z1
  obtain rfl:=zV9 z
  refine ⟨a,ss,rfl,r1.sub.zw8 hs,nd,few,fun p hp=>?_⟩
  obtain ⟨r2,e2⟩:=r1.newF hp (za97 p ss.length)
  exact ⟨p,ss.length,rfl,zc4,((q.ext e1).ext e2).same r2 (.dd (Rq.int _)) h2⟩
end
end L2
namespace L2
open PySem PySem.Spec PyProof.Rows
open PySem.W
section
variable {prog : dy7} {w : World} {A : Around} {E : Value->Shared->Prop} {s : Shared} {a : Addr} {vs : List Value} {n : Nat}
theorem zH8 {l : Addr} {Q : List Value->Shared->Prop} (hl : s.heap.IsTuple l vs.toArray)
  (h : Q vs { s with heap:=(s.heap.push (seqObj "list" #[] 0)).update s.heap.objs.size (ly3 fun x=>x++vs.toArray) }) (hsz : vs.length <= by0) : wpAny (model prog w) A (collect (fy8 l)) Q E s:=by
 obtain ⟨o,ho,hc,n,hd⟩:=id hl
 refine ay1 (wpAny_runValue (ky9 entry_proto_collect' (ay1 (wpAny_newList (ay9 ⟨Code.quiet_builtin _ (by decide +kernel),ky9 entry_list_iadd' ?_⟩) (by rw [oy4]; simp)))))
 have ho':=ay6 (seqObj "list" #[] 0) ho
 have hT : Shared.TypeIs { s with heap:=s.heap.push (seqObj "list" #[] 0) } (.ref l) "tuple" := ⟨o,ho',hc⟩
 show wpAny (model prog w) _ (Builtin.List.listExtendWith (fy8 s.heap.objs.size) (fy8 l) (fy8 s.heap.objs.size)) _ _ _
 unfold Builtin.List.listExtendWith
 refine ay1 (wpAny_typeOf hT ?_)
 rw [if_pos (by simp)]
 refine ay1 (listItems_at ho' hd (ay1 (listItems_at (by2 s.1 rfl) rfl ?_)))
 rw [if_neg (by simp)]
 refine ay1 (listUpdate_at (by2 s.1 rfl) rfl (ay9 ?_) (dy8 by0) (by simp; omega))
 refine ay1 (wpAny_load (get?_update_seq (by2 s.1 rfl) fun x=>x++vs.toArray) ?_)
 have e : (#[]++vs.toArray : Array Value).toList = vs:=by simp
 show wpAny (model prog w) A (pure (#[]++vs.toArray : Array Value).toList) Q E _
 rw [e]
 exact ay9 h
theorem zE8 {κ : SortKind} {lt : Nat->Nat->Bool} {l : Addr} {Q : Value->Shared->Prop} (O : WO vs.length lt) (hl : s.heap.IsTuple l vs.toArray) (h64 : vs.length < 64)
  (hk : 2 <= vs.length->∀ (s' : Shared) (Q : SortKind->Shared->Prop),(∀ b o,s.heap.get? b = some o->s'.heap.get? b = some o)->Q κ s'->wpAny (model prog w) A.in1.in1 (keyKind' vs.toArray) Q E s')
  (hc : 2 <= vs.length->∀ (s' : Shared) i j (C : Bool->Shared->Prop),(∀ b o,s.heap.get? b = some o->s'.heap.get? b = some o)->i < vs.length->j < vs.length->i ≠ j->C (lt i j) s'->kas_ask prog w A.in1.in1 κ vs i j C s')
  (h : ∀ q : List Nat,q.Perm (ey5 vs.length)->q.Pairwise (fun i j=>lt j i = false)->Q (fy8 (s.heap.objs.size + 1)) { s with heap:=sortedAll s.heap vs (q.map fun i=>vs.getD i fy3).toArray }) :
  wpAny (model prog w) A (call (Value.builtin "sorted") [fy8 l]) Q E s:=by
 refine Calls.call_function_entry kind_sorted plain_sorted entry_sorted (args_sorted1 (fy8 l)) ?_
 refine ay1 (ay9 (ay1 (zH8 hl (ay1 (wpAny_newList ?_ (by rw [oy4]; omega))) (by rw [oy4]; omega))))
 have hsz : ((s.heap.push (seqObj "list" #[] 0)).update s.heap.objs.size (ly3 fun x=>x++vs.toArray)).objs.size = s.heap.objs.size + 1:=by
  rw [Heap.size_update,size_push']
 have hoL : (((s.heap.push (seqObj "list" #[] 0)).update s.heap.objs.size (ly3 fun x=>x++vs.toArray)).push (seqObj "list" vs.toArray 0)).get? (s.heap.objs.size + 1) = some (seqObj "list" vs.toArray 0):=by
  rw [<- hsz]; exact by2 _ rfl
 have hold : ∀ b o,s.heap.get? b = some o->(((s.heap.push (seqObj "list" #[] 0)).update s.heap.objs.size (ly3 fun x=>x++vs.toArray)).push (seqObj "list" vs.toArray 0)).get? b = some o:=fun b o q =>
  ay6 _ ((ky4 _ _ (my1 (cy1 q))).trans (ay6 _ q))
 show wpAny (model prog w) A.in1 _ _ E _
 rw [hsz]
 refine ay1 (jy3 (hy5 slot_list_sort ⟨_,hoL,rfl⟩ entry_list_sort (zQ3 (κ:=κ) O hoL h64 (fun h2 s' Q hb q=>?_) (fun h2 s' i j C hb=>?_) fun q q1 q2=>?_) (args_list_sort _)))
 ·exact hk h2 s' Q (fun b o q=>hb b o (cy7 (qy8 (cy1 q))) (hold b o q)) q
 ·exact hc h2 s' i j C (fun b o q=>hb b o (cy7 (qy8 (cy1 q))) (hold b o q))
 ·exact ⟨.none,rfl,ay9 ⟨_,rfl,h q q1 q2⟩⟩
end
section
variable {X : Cx}
theorem zB2 : zl1 X (.builtin "sorted") fun xs H Q=>∃ (p : Addr) (vs : List V) (ps : List (List Str)) (m : Nat),xs = [.ref p] /\ SqT X.K H p vs /\ vs.length < 64 /\ Paired (fun (p : List Str) v=>∃ b,v = .ref b /\ SqT X.K H b (p.map V.str)) ps vs /\ 0 < m /\ (∀ k∈ps,k.length = m) /\
  ∀ (l : Addr) (q : List Nat),H l = none->q.Perm (ey5 ps.length)->q.Pairwise (fun i j=>ltL (ps.getD j []) (ps.getD i []) = false)->Q (.ref l) (upd H l (.lst (q.map fun i=>vs.getD i .non))):=by
 intro pins s σ H xs us Q I r h
 obtain ⟨p,vs,ps,m,rfl,hq,h64,hv,hm0,hm,q⟩:=h
 obtain ⟨u,rfl,rx⟩:=vals1 r
 cases rx
 obtain ⟨its,r',pl,hz⟩:=I.tuple hq
 have hlen:=r'.length
 have hpl : ps.length = vs.length:=zb6 hv
 have gp : ∀ k (hk : k < ps.length),ps.getD k [] = ps[k]:=fun k hk=>by simp [sy4,hk]
 have gl : ∀ k (hk : k < ps.length),(ps.getD k []).length = m:=fun k hk=>by rw [gp k hk]; exact hm _ (ry6 hk)
 have tup : ∀ i (hi : i < its.length),∃ b,its[i] = .ref b /\ IsTL s.heap b (ps.getD i []):=fun i hi=>by
  have hip : i < ps.length:=by omega
  obtain ⟨x,hx,rx⟩:=zi6 r' (ay7 hi)
  obtain ⟨v,hv',b,e1,hb⟩:=zi5 hv (ay7 hip)
  rw [hx] at hv'
  cases hv'
  subst e1
  have rx' : its[i] = fy8 b:=rx
  refine ⟨b,rx',?_⟩
  obtain ⟨ws,rw',⟨o,g1,g2,n,g3⟩,_⟩:=I.tuple hb
  rw [gp i hip]
  exact ⟨o,n,ws,g1,g2,g3,rw'⟩
 have O:=zd50 hm
 rw [hpl,hlen] at O
 refine zE8 (κ:=tuples' true) O pl (by omega) (fun h2 s' Q hb hQ=>?_) (fun h2 s' i j C hb hi hj hij hC=>?_) fun qq q1 q2=>?_
 ·obtain ⟨fs,k1,k2,k3⟩ : ∃ fs,KatTups s'.heap its fs /\ fs.length = its.length /\ ∀ v∈fs,∃ x t,v = .str x t:=by
   have : ∀ (l : List Value),(∀ v∈l,∃ b p,v = .ref b /\ IsTL s'.heap b p /\ p ≠ [])->∃ fs,KatTups s'.heap l fs /\ fs.length = l.length /\ ∀ v∈fs,∃ x t,v = .str x t:=by
    intro l
    induction l with
    | nil=>intro _; exact ⟨[],.nil,rfl,fun v hv=>absurd hv (by simp)⟩
    | cons a l ih =>
     intro h
     obtain ⟨b,p,rfl,⟨o,n,ws,e1,e2,e3,rw'⟩,hp⟩:=h a by5
     obtain ⟨fs,f1,f2,f3⟩:=ih fun a ha=>h a (by8 _ ha)
     cases p with
     | nil=>exact absurd rfl hp
     | cons x p =>
      cases rw' with
      | @cons _ v _ ws' rx rr =>
       obtain ⟨t,rfl⟩:=rx
       refine ⟨.str x t :: fs,.cons e1 e2 e3 (f:=.str x t) (by simp) f1,by simp [f2],fun v hv=>?_⟩
       rcases cy4.mp hv with rfl | hv
       ·exact ⟨_,_,rfl⟩
       ·exact f3 v hv
   refine this its fun v hv'=>?_
   obtain ⟨i,hi,rfl⟩:=List.mem_iff_getElem.mp hv'
   obtain ⟨b,e1,o,n,ws,e2,e3⟩:=tup i hi
   exact ⟨b,_,e1,⟨o,n,ws,hb _ _ e2,e3⟩,fun z=>by have:=gl i (by omega); rw [z] at this; simp at this; omega⟩
  refine kat_kind (T:=.type "str") k1 (by omega) (fun v hv'=>?_) (by decide) hQ
  obtain ⟨x,t,rfl⟩:=k3 v hv'
  exact fun A Q E s _ q=>wpAny_typeOf rfl q
 ·obtain ⟨b1,e1,o1,n1,w1,g1,c1,d1,rw1⟩:=tup i hi
  obtain ⟨b2,e2,o2,n2,w2,g2,c2,d2,rw2⟩:=tup j hj
  unfold kas_ask
  have gd : ∀ (k : Nat) (hk : k < its.length),its.getD k fy3 = its[k]:=fun k hk=>by simp [sy4,hk]
  rw [gd i hi,gd j hj,e1,e2]
  refine kat_lt (hb _ _ g1) d1 (hb _ _ g2) d2 ?_
  have hl1:=rw1.length
  have hl2:=rw2.length
  rw [ay3] at hl1 hl2
  have g1:=gl i (by omega)
  have g2:=gl j (by omega)
  have hf : decide (w1.toArray.size < w2.toArray.size) = false:=decide_eq_false (by simp; omega)
  rw [hf]
  exact zQ4 rw1 rw2 (g1.trans g2.symm) hC
 ·obtain ⟨e,he⟩:=sortedAll_at s.heap its (qq.map fun i=>its.getD i fy3).toArray
  rw [<- hlen,<- hpl] at q1
  have hvq : Vals (qq.map fun i=>vs.getD i .non) (qq.map fun i=>its.getD i fy3):=by
   have : ∀ l : List Nat,(∀ i∈l,i < vs.length)->Vals (l.map fun i=>vs.getD i .non) (l.map fun i=>its.getD i fy3):=by
    intro l
    induction l with
    | nil=>intro _; exact .nil
    | cons i l ih =>
     intro hl
     have hi:=hl i by5
     refine .cons ?_ (ih fun j hj=>hl j (by8 _ hj))
     obtain ⟨w,hw,rw'⟩:=zi5 r' (ay7 hi)
     show RelV (vs.getD i .non) (its.getD i fy3)
     rw [show vs.getD i .non = vs[i] by simp [sy4,hi],show its.getD i fy3 = w by simp [sy4,hw]]
     exact rw'
   exact this qq fun i hi=>by
    have:=q1.mem_iff.mp hi
    rw [<- hpl]
    simpa using this
  refine ⟨.ref (s.heap.objs.size + 1),_,I.laid (t':=s.toks) (fun _ _=>sortedAll_old) (sy6 _) (show zd2 X.prog X.w _ _ _ (.lst (qq.map fun i=>vs.getD i .non)) from ⟨?_,_,e,hvq,?_⟩),rfl,q _ qq (I.hok.fresh (sy6 _)) q1 q2⟩
  ·rw [ay3,q1.length_eq,oy3,hpl]; exact hz
  ·simpa [seqObj] using he
end
section
variable {X : Bc} {S : Sl} {W : Wl} {k : KB}
theorem zu8 {α : Type} [Inhabited α] {L : List α} {m : Nat} (key : α->List Str) (g : α->PyData) (hg : ∀ a∈L,g a = .tuple ((key a).map .str)) (h64 : L.length < 64) (hm0 : 0 < m) (hm : ∀ a∈L,(key a).length = m)
  (h : ∀ L' : List α,L'.Perm L->L'.Pairwise (fun a b=>ltL (key b) (key a) = false)->k (.o W.length) (W++[.lst (zb4 (L'.map g))])) : CB X (.builtin "sorted") [.d (.tuple (L.map g))] W k:=.of zB2 fun F A H Q vs r zs q=>by
 obtain ⟨v,rfl,z⟩:=zi8 zs
 obtain ⟨a,vs,rfl,hs,z⟩:=Rq.zi7 z
 have hl : L.length = vs.length:=by have:=zb6 z; simpa using this
 refine ⟨a,vs,L.map key,m,rfl,r.sub.zw8 hs,by omega,?_,hm0,fun k hk=>?_,fun l qq hl0 h1 h2=>?_⟩
 ·refine zb34 ?_
  refine zs1 (zz1 z) fun x hx v hv=>?_
  have hv : Rq X.K F v (g x):=hv
  rw [hg x hx] at hv
  obtain ⟨b,ws,rfl,hb,pw⟩:=Rq.zi7 hv
  obtain rfl:=za87 pw
  exact ⟨b,rfl,r.sub.zw8 hb⟩
 ·obtain ⟨a,ha,rfl⟩:=dy6.mp hk
  exact hm a ha
 ·rw [ay3] at h1
  have hql : ∀ i∈qq,i < L.length:=fun i hi=>by have:=h1.mem_iff.mp hi; simpa using this
  refine q.newO r hl0 (o:=.lst (zb4 ((qq.map fun i=>L.getD i default).map g))) ⟨_,rfl,zp5 ?_⟩ (h _ (zP7 h1) (zZ6 hql h2))
  have : ∀ l : List Nat,(∀ i∈l,i < L.length)->Paired (fun d v=>Rq X.K F v d) ((l.map fun i=>L.getD i default).map g) (l.map fun i=>vs.getD i .non):=by
   intro l
   induction l with
   | nil=>intro _; exact .nil
   | cons i l ih =>
    intro hl'
    have hi:=hl' i by5
    refine .cons ?_ (ih fun j hj=>hl' j (by8 _ hj))
    obtain ⟨w,hw,rw'⟩:=zi5 z (i:=i) (a:=g L[i]) (by rw [ay4,ay7 hi]; rfl)
    show Rq X.K F (vs.getD i .non) (g (L.getD i default))
    rw [show L.getD i default = L[i] by simp [sy4,hi],show vs.getD i .non = w by simp [sy4,hw]]
    exact rw'
  exact this qq hql
end
end L2
namespace L2
open PySem PySem.Spec PyProof.Rows PySem.SeqAt PySem.MeetsSeq
theorem zH9 (l : Addr) (items : Array Value) (n : Nat) (sl : Array (Option Value)) (x : Value) (e : Value->Bool) (j : Nat) (hj : j < items.size) (hsmall : (j : Int) < 2 ^ 63 - 1)
  (hit : e items[j] = true) (hno : ∀ m (hm : m < items.size),m < j->e items[m] = false) :
  Meets (Builtin.«list.index» ⟨[.ref l,x],[]⟩)
   (fun A R s=>s.heap.get? l = some { cls:=.type "list",dict:=none,data:=.seq items n,slots:=sl } /\ (∀ y,y∈items->EqAt A.in1 s y x (e y)) /\ R (.ok (.ret (.int j s.toks))) { s with toks:=s.toks + 1 }):=by
 intro prog w A R s h
 obtain ⟨hp,g,d,tk,os⟩:=s
 obtain ⟨hl,he,h⟩:=h
 wp_walk using jy2 hl
 have a1 : ((fun i : Int=>if i < 0 then max 0 (i + (items.size : Int)) else i) ((none : Option Int).getD 0)) = ((0 : Nat) : Int):=by simp
 have a2 : ((fun i : Int=>if i < 0 then max 0 (i + (items.size : Int)) else i) ((none : Option Int).getD (2 ^ 63 - 1))) = 2 ^ 63 - 1:=by simp
 rw [a1,a2]
 exact ⟨plainId_quiet plain_index_loop _,ky9 entry_index_loop (by
  rw [ly7 plain_index_loop _]
  exact PySem.SeqAt.index_loopAt l items n none sl x e (2 ^ 63 - 1) j hj hsmall hit _ 0 rfl (dy8 _) (fun m hm _ h=>hno m hm h) prog w A R _ ⟨hl,he,h⟩)⟩
section
variable {X : Bc} {S : Sl} {W : Wl} {k : KB}
theorem za01 (hu : X.A.units + 100 < cLine) : MtR X "list.index" (fun x vs H Q=>∃ l xs y ds d,∃ (m : Nat),x = .ref l /\ vs = [y] /\ SqL X.K H l xs /\ Paired (fun d v=>Rq X.K H v d) ds xs /\ Rq X.K H y d /\ ey2 ds = true /\ Dat d /\ (∃ z,ds[m]? = some z /\ ey0 z d = true) /\ (∀ j z,j < m->ds[j]? = some z->ey0 z d = false) /\ Q (.int m) H):=by
 intro pins s σ H x vs v us Q I rx rv h
 obtain ⟨l,xs,y,ds,d,m,rfl,rfl,hH,pd,rd,hc,hd,⟨z,hz1,hz2⟩,hno,q⟩:=h
 cases rx
 obtain ⟨u,rfl,ru⟩:=rv.one
 obtain ⟨its,r,⟨o,n,e0,e1,e2,e3⟩,hz⟩:=I.list hH
 obtain ⟨ocl,odi,oda,osl⟩:=o
 dsimp only at e1 e2 e3
 subst e1 e2 e3
 obtain ⟨as,ra⟩:=Rqs.reads I ds hc (Rqs.of pd) r
 obtain ⟨bs,rb⟩:=Rq.reads I d hd.lay rd ru
 have hlen : its.length = ds.length:=r.length.symm.trans (zb6 pd).symm
 have rdm : ∀ (i : Nat) (h1 : i < its.length) (h2 : i < ds.length),readOf s.heap its[i] = ds[i]:=fun i h1 h2=>by
  have:=readsAll_map ds _ _ hc ra
  have e2:=congrArg (fun l=>l[i]?) this
  simp [h1,h2] at e2
  exact e2
 have hsz : its.length <= by0:=by rw [<- r.length]; exact hz
 obtain ⟨hm1,hm2⟩:=ay0.mp hz1
 have l63:=zp1
 refine call_meets gy6 ⟨_,e0,rfl⟩ PySem.F.entry_list_index (PySem.F.args_list_index_2 _ _) (zH9 l its.toArray n osl u (fun y=>ey0 (readOf s.heap y) d) m (by rw [by6]; omega) (by omega) ?_ ?_) ⟨e0,?_,?_⟩
 ·have:=rdm m (by omega) hm1
  simp [this]
  rw [hm2]; exact hz2
 ·intro j h1 h3
  have h1 : j < its.length:=by simpa using h1
  have:=rdm j h1 (by omega)
  simp [this]
  exact hno j _ h3 (ay7 (by omega))
 ·refine items_eqAt (by simpa using ra) rb hc hd.lay ?_
  have h1:=hd.dep
  have h2 : min (fy9 ds) d.depth <= 64:=cy6 (ry3 _ _) h1
  omega
 ·exact ⟨.int m,H,I.tok _,⟨_,rfl⟩,q⟩
/-- xs.index(y),of a list that nobody changes -/
theorem zk6 {m : Nat} {ds : List PyData} {d z : PyData} (hu : X.A.units + 100 < cLine) (hc : ey2 ds = true) (hd : Dat d) (hm : ds[m]? = some z) (hz : ey0 z d = true) (hno : ∀ j z,j < m->ds[j]? = some z->ey0 z d = false) (h : k (.d (.int m)) W) :
  MB X "list" "list.index" (.d (.list ds)) [.d d] W k:=.of (za01 hu) fun F A H Q v vs r zx zz q=>by
 obtain ⟨a,ws,rfl,hs,p⟩:=Rq.zt8 zx
 obtain ⟨u,rfl,zu⟩:=zi8 zz
 exact ⟨a,ws,u,ds,d,m,rfl,rfl,.inl (r.sub.rd hs),zf4 (fun _ _ t=>Rq.same r.sub _ t) p,Rq.same r.sub _ zu,hc,hd,⟨z,hm,hz⟩,hno,q.same r (.dd (Rq.int _)) h⟩
end
end L2
namespace K1
open PySem L2
def top (i : Nat) : Stmt:=PySem.Challenge.pw_talehands_k22_stories_within_rooms.main.body.getD i (.Pass ⟨0,0,0,0⟩)
abbrev zo3 : Stmt:=top 3
abbrev zs6 : Stmt:=top 4
abbrev zB3 : Stmt:=top 7
abbrev zk0 : Stmt:=top 8
abbrev zR3 : Stmt:=top 14
abbrev sDo : Stmt:=top 15
abbrev zn1 : Stmt:=top 16
abbrev zi2 : Stmt:=top 19
abbrev zs4 : Stmt:=top 20
abbrev zI0 : Stmt:=top 21
abbrev zQ6 : Stmt:=top 22
abbrev zn2 : Stmt:=top 23
abbrev zn3 : Stmt:=top 24
abbrev zw2 : Stmt:=top 25
abbrev zq1 : Stmt:=top 26
abbrev zs5 : Stmt:=top 28
abbrev zI1 : Stmt:=top 29
abbrev zB4 : Stmt:=top 30
abbrev zk7 : Stmt:=top 31
abbrev zi9 : Stmt:=top 32
abbrev zu9 : Stmt:=top 33
abbrev zn4 : Stmt:=top 34
abbrev zo4 : Stmt:=top 35
abbrev zr2 : Stmt:=top 36
abbrev zI2 : Stmt:=top 37
abbrev zv0 : Stmt:=top 38
abbrev zv1 : Stmt:=top 39
abbrev zk1 : Stmt:=top 40
abbrev zi3 : Stmt:=top 41
abbrev zv2 : Stmt:=top 42
abbrev sLaw : Stmt:=top 43
theorem zo7 : ey7 "isinstance" = some (.builtin "isinstance"):=by decide +kernel
theorem zc19 : ey7 "int" = some (.type "int"):=by decide +kernel
theorem zk2 : ey7 "tuple" = some (.type "tuple"):=by decide +kernel
theorem zj0 : ey7 "len" = some (.builtin "len"):=by decide +kernel
theorem za03 : ey7 "all" = some (.builtin "all"):=by decide +kernel
theorem zc20 : ey7 "range" = some (.type "range"):=by decide +kernel
theorem za99 : ey7 "divmod" = some (.builtin "divmod"):=by decide +kernel
theorem zb00 : ey7 "str" = some (.type "str"):=by decide +kernel
theorem zd51 : ey7 "max" = some (.builtin "max"):=by decide +kernel
theorem zd52 : ey7 "list" = some (.type "list"):=by decide +kernel
theorem za04 : ey7 "bool" = some (.type "bool"):=by decide +kernel
/-- what the top leaves -/
theorem ze52 : ey7 "min" = some (.builtin "min"):=by decide +kernel
theorem ze53 : ey7 "set" = some (.type "set"):=by decide +kernel
theorem zL2 : ey7 "sorted" = some (.builtin "sorted"):=by decide +kernel
structure Txt (mg : Str->Option Value) : Prop where
 isi : mg "isinstance" = none
 int_ : mg "int" = none
 tuple_ : mg "tuple" = none
 len_ : mg "len" = none
 all_ : mg "all" = none
 range_ : mg "range" = none
 divmod_ : mg "divmod" = none
 sum_ : mg "sum" = none
 str_ : mg "str" = none
 max_ : mg "max" = none
 bool_ : mg "bool" = none
 list_ : mg "list" = none
 min_ : mg "min" = none
 enum_ : mg "enumerate" = none
 zip_ : mg "zip" = none
 sorted_ : mg "sorted" = none
 set_ : mg "set" = none
/-- a def of the text,and where it stands -/
structure Def (K : ay2) (mg : Str->Option Value) (x : Str) (st : Stmt) (f : Addr) (fd : ey8) (ps : List Str) : Prop where
 fn : Fun K x x st f fd
 bd : Binds K fd ps []
 at_ : mg x = some (.ref f)
def zx5 : Scope:={ kind:=.function,names:=[],isGenerator:=false,isCoroutine:=false }
theorem za8 {n : Nat} (h : n <= 100000) : n <= by0:=cy6 h (by decide)
theorem za05 (a b : List PyData) : zb4 a++zb4 b = zb4 (a++b):=by simp [zb4]
theorem zq2 {W : Wl} {a b : OD} : (W++[a]).set W.length b = W++[b]:=by simp
theorem zc9 {W : Wl} {a : OD} : (W++[a])[W.length]? = some a:=by simp
abbrev bits (n : Int) : Nat:=gy9 n
theorem zc21 {n : Int} {B : Nat} (h : bits n <= B) : n.natAbs < 2 ^ B:=by
 unfold bits gy9 at h
 by_cases h0 : n = 0
 ·subst h0; simp; exact Nat.two_pow_pos B
 ·rw [if_neg (by simpa using h0)] at h
  have hn : n.natAbs ≠ 0:=by omega
  exact (Nat.log2_lt hn).mp (by omega)
theorem za06 {n : Int} {B : Nat} (h : n.natAbs < 2 ^ B) : bits n <= B:=by
 unfold bits gy9
 by_cases h0 : n = 0
 ·subst h0; simp
 ·rw [if_neg (by simpa using h0)]
  have hn : n.natAbs ≠ 0:=by omega
  have:=(Nat.log2_lt hn).mpr h
  omega
def wl (n : Int) : OD:=.lst [.d (.int n)]
def zk8 (W : Wl) (p : Nat) : Prop:=∃ n,W[p]? = some (wl n) /\ 0 <= n
def zk9 (W : Wl) (p : Nat) (W' : Wl) : Prop:=∃ n,W' = W.set p (wl n) /\ 0 <= n
theorem zk8.lt {W : Wl} {p : Nat} (h : zk8 W p) : p < W.length:=by
 obtain ⟨n,h,_⟩:=h
 exact (ay0.mp h).1
theorem zk9.at {W W' : Wl} {p : Nat} (h : zk9 W p W') (hp : p < W.length) : zk8 W' p:=by
 obtain ⟨n,rfl,q⟩:=h
 exact ⟨n,by rw [dy3 hp],q⟩
theorem zk9.trans {W W1 W2 : Wl} {p : Nat} (h : zk9 W p W1) (h' : zk9 W1 p W2) : zk9 W p W2:=by
 obtain ⟨n,rfl,_⟩:=h
 obtain ⟨n',rfl,q⟩:=h'
 exact ⟨n',by rw [List.set_set],q⟩
theorem zk9.len {W W' : Wl} {p : Nat} (h : zk9 W p W') : W'.length = W.length:=by
 obtain ⟨n,rfl,_⟩:=h
 simp
theorem zk9.app {W W' V : Wl} {p : Nat} (h : zk9 (W++V) p W') (hp : p < W.length) : ∃ W0,W' = W0++V /\ zk9 W p W0:=by
 obtain ⟨n,rfl,q⟩:=h
 exact ⟨W.set p (wl n),by rw [List.set_append_left _ _ hp],n,rfl,q⟩
theorem zk9.closed {W W' : Wl} {p : Nat} (h : zk9 W p W') (hc : closed W) : L2.closed W':=by
 obtain ⟨n,rfl,_⟩:=h
 exact hc.set p fun e he=>by
  simp at he
  subst he
  trivial
theorem zk8.app {W V : Wl} {p : Nat} (h : zk8 W p) : zk8 (W++V) p:=by
 obtain ⟨n,e,q⟩:=h
 exact ⟨n,by rw [ay8 (ay0.mp e).1]; exact e,q⟩
theorem zk9.last {U W' : Wl} {o : OD} (h : zk9 (U++[o]) U.length W') : ∃ n,W' = U++[wl n] /\ 0 <= n:=by
 obtain ⟨n,e,pb⟩:=h
 exact ⟨n,by rw [e]; simp,pb⟩
theorem zk8.last {U : Wl} {n : Int} (h : 0 <= n) : zk8 (U++[wl n]) U.length:=⟨n,by simp,h⟩
theorem zc22 {a b : Int} (h : bits a + bits b <= 100000000) : IntMulOk a b:=by
 have : Builtin.Int.intTooBig (gy9 a + gy9 b) = false:=by
  unfold Builtin.Int.intTooBig
  refine decide_eq_false ?_
  have e : (bitsLine : Nat) = 134217728:=by decide
  show ¬ ((bits a : Int) + (bits b : Int) > ((bitsLine : Nat) : Int))
  rw [e]
  omega
 unfold IntMulOk
 rw [this]
 simp
theorem zc23 {X : Cx} : OpR X (jy5 .Mult) (rI (fun i j=>bits i + bits j <= 100000000) fun i j=>.int (i * j)):=opI fun _ _ _ _ _ _ _ hc q=>PyProof.Rows.mul_int q (zc22 hc)
theorem bits_add {n m : Int} {B : Nat} (h : bits n <= B) (hm : m.natAbs <= 1000) : bits (n + m) <= B + 10:=by
 have h1:=zc21 h
 refine za06 ?_
 have h2 : (n + m).natAbs <= n.natAbs + m.natAbs:=Int.natAbs_add_le n m
 have h3 : 2 ^ (B + 10) = 2 ^ B * 1024:=by rw [Nat.pow_add]
 rw [h3]
 have h4 : 1 <= 2 ^ B:=Nat.one_le_two_pow
 generalize 2 ^ B = X at *
 omega
section
variable {P : dy7} {w : World} {K : ay2} {mg : Str->Option Value} {base : Heap}
theorem zc24 {X : Bc} {W : Wl} {k : KB} {i j : Int} (hc : bits i + bits j <= 100000000) (h : k (.d (.int (i * j))) W) : OB X (jy5 .Mult) (.d (.int i)) (.d (.int j)) W k:=zJ5 zc23 hc h
def zd53 : RB:=fun as W k=>∃ n : Int,as = [.d (.int n)] /\ bits n <= 2000000 /\ ∀ r : Int,0 <= r->k (.d (.int r)) W
theorem scMx : zc0 ["_law_cell"] ["_law_cell"] (za0 zs5):=⟨rfl,rfl,rfl,by decide +kernel,rfl,by decide +kernel,by decide +kernel⟩
theorem zb01 {f : Addr} {fd : ey8} (F : Fun K "_law_mixed" "_law_mixed" zs5 f fd) : zj8 P w K mg base CX0 1 f fd ["_law_cell"] (spB K zd53):=by
 refine zp7 F scMx (fun as W k ⟨n,e,_⟩=>by subst e; rfl) fun cdv A outer s H E hr F0 A0 as W k hcl ⟨n,e,hb,hk⟩=>?_
 subst e
 have hc : bits 577350269189625764509148780501957455647601751270126876018603 <= 1000:=by decide +kernel
 have h10 : (0 : Int) < 10 ^ (60 : Int).toNat:=by decide +kernel
 exact za9 (ze2 (zf1 (zf1 (bv 0 rfl (za2 (zc24 (by omega) (zf1 (za2 (za2 (zd16 ⟨by decide,by decide,by decide⟩ (zV7 h10 (hk _ (Int.emod_nonneg _ (by omega))))))))))))))
abbrev pPa : List Str:=["_law_script", "_law_k"]
def ze54 : RB:=fun as W k=>∃ (ns : List Int) (i : Nat),as = [.s ns,.d (.int i)] /\ (∀ m∈ns,bits m <= 2 ^ 20) /\ i <= 50 /\ ∀ m : Int,0 <= m->k (.o W.length) (W++[wl m])
theorem scPk : zc0 pPa pPa (za0 zI1):=⟨rfl,rfl,rfl,by decide +kernel,rfl,by decide +kernel,by decide +kernel⟩
theorem zc25 {f fM : Addr} {fd dM : ey8} (F : Fun K "_law_pack" "_law_pack" zI1 f fd) (T : Txt mg) (DM : Def K mg "_law_mixed" zs5 fM dM ["_law_cell"]) : zj8 P w K mg base CX0 2 f fd pPa (spB K ze54):=by
 have N:=@zb01 P w K mg base _ _ DM.fn
 refine zp7 F scPk (fun as W k ⟨ns,i,e,_⟩=>by subst e; rfl) fun cdv A outer s H E hr F0 A0 as W k hcl ⟨ns,i,e,hb,hi,hk⟩=>?_
 subst e
 refine za3 (zf2 (zc2 rfl (bv 1 rfl (zb7 rfl T.len_ zj0 (za1 (bv 0 rfl (zs3 (za68 ⟨_,rfl,?_⟩))))))))
 by_cases h : (i : Int) < ns.length
 ·rw [decide_eq_true h]
  have hlt : i < ns.length:=by omega
  have h1:=hb ns[i] (ry6 hlt)
  have h2 : bits (ns[i] + 17 * (i : Int)) <= 2 ^ 20 + 10:=bits_add h1 (by omega)
  have e20 : (2 : Nat) ^ 20 = 1048576:=by decide
  refine zl2 (za9 (ze2 (zg8 (za1 (zb0 N (hr.mono (by decide)) rfl DM.at_ DM.fn.kp DM.bd (za1 (zf1 (zb9 (by intro _ _; rfl) (bv 0 rfl (bv 1 rfl (zW3 (n:=ns[i]) (zb2 (by simp [hlt])) (zf1 (za2 (bv 1 rfl (zV6 (.inl ⟨by decide,by decide⟩) (zh8 ⟨_,rfl,by omega,fun r r0=>⟨by show 1 <= by0; decide,hk r r0⟩⟩))))))))))))))))
 ·rw [decide_eq_false h]
  have e30 : (2 : Nat) ^ 30 = 1073741824:=by decide
  have h2 : bits (6089 * (i : Int) + 5) <= 30:=za06 (by omega)
  refine zf7 (ze5 (za9 (ze2 (zg8 (za1 (zb0 N (hr.mono (by decide)) rfl DM.at_ DM.fn.kp DM.bd (za1 (zf1 (zf1 (za2 (bv 1 rfl (zV6 (.inl ⟨by decide,by decide⟩) (za2 (zh8 ⟨_,rfl,by omega,fun r r0=>⟨by show 1 <= by0; decide,hk r r0⟩⟩))))))))))))))
def ze55 : RB:=fun as W k=>∃ (p : Nat) (n : Int),as = [.o p,.d (.int n)] /\ zk8 W p /\ 1 <= n /\ n <= 1000000 /\ ∀ r W',0 <= r->r < n->zk9 W p W'->k (.d (.int r)) W'
abbrev pTk : List Str:=["_law_pack_here", "_law_size"]
abbrev nTk : List Str:=["_law_pack_here", "_law_size", "_law_digit"]
theorem scTk : zc0 nTk pTk (za0 zB4):=⟨rfl,rfl,rfl,by decide +kernel,rfl,by decide +kernel,by decide +kernel⟩
theorem ndTk : nTk.Nodup:=by decide +kernel
theorem za07 {f : Addr} {fd : ey8} (F : Fun K "_law_take" "_law_take" zB4 f fd) (T : Txt mg) : zj8 P w K mg base CX0 1 f fd pTk (spB K ze55):=by
 refine zp7 F scTk (fun as W k ⟨p,n,e,_⟩=>by subst e; rfl) fun cdv A outer s H E hr F0 A0 as W k hcl ⟨p,n,e,⟨a,hp,ha0⟩,hn1,hn2,hk⟩=>?_
 subst e
 refine za3 (zx2 (zb7 rfl T.divmod_ za99 (za4 (zb9 (by intro _ _; rfl) (bv 0 rfl (za2 (zu2 hp (e:=.d (.int a)) rfl (za1 (bv 1 rfl (zW0 ⟨by omega,by omega⟩ (zc03 rfl (zK5 (zd20 (bv 0 rfl (za2 (zd21 hp (m:=0) rfl (zK5 (zm9 (i:=2) ndTk rfl (Or.inl rfl) (zc02 ?_)))))))))))))))))))
 exact za9 (ze2 (bv 2 rfl (hk _ _ (Int.emod_nonneg _ (by omega)) (Int.emod_lt_of_pos _ (by omega)) ⟨a / n,rfl,Int.ediv_nonneg ha0 (by omega)⟩)))
end
def rot (t : Nat) : Str:=py1 LET (some (t : Int)) none++py1 LET none (some (t : Int))
def chr (t k : Nat) : Str:=⟨#[(rot t).cps.toList.getD k 0]⟩
def zQ7 (t z : Nat) : Str:=py1 (rot t) (some 4) (some (4 + (z : Int)))
def rep1 (s : Str) (n : Nat) : Str:=if n = 1 then s else repS s n
def nmOf (p t z k : Nat) : Str:=if p = 0 then rep1 (chr t 0) (1 + (z + k) % 8) else if p = 1 then chr t k++zQ7 t z else zQ7 t z++chr t k
set_option maxHeartbeats 4000000 in
theorem za09 : ∀ t : Fin 26,(rot t.1).length = 26:=by decide +kernel
set_option maxHeartbeats 8000000 in
theorem zL3 : ∀ p : Fin 3,∀ t : Fin 26,∀ z : Fin 8,((ey5 4).map (nmOf p.1 t.1 z.1)).Nodup /\ ((ey5 4).map (nmOf p.1 t.1 z.1)).all isNm = true /\ (zQ7 t.1 z.1).length <= 8:=by decide +kernel
structure zc26 (hs : List Str) : Prop where
 nm : ∀ x∈hs,isNm x = true
 nd : hs.Nodup
 two : 2 <= hs.length
 le : hs.length <= 4
theorem zB5 {p t z n : Nat} (hp : p < 3) (ht : t < 26) (hz : z < 8) (h2 : 2 <= n) (hn : n <= 4) : zc26 ((ey5 n).map (nmOf p t z)):=by
 obtain ⟨h1,h3,_⟩:=zL3 ⟨p,hp⟩ ⟨t,ht⟩ ⟨z,hz⟩
 have e : (ey5 n).map (nmOf p t z) = ((ey5 4).map (nmOf p t z)).take n:=by
  rw [<- List.map_take,List.take_range,qy1 hn]
 refine ⟨fun x hx=>?_,?_,by simpa using h2,by simpa using hn⟩
 ·rw [e] at hx
  exact List.all_eq_true.mp h3 x (ly6 hx)
 ·rw [e]
  exact h1.sublist (List.take_sublist _ _)
theorem za10 {t k : Nat} (ht : t < 26) (hk : k < 26) : atI (rot t).cps.toList (k : Int) = some ((rot t).cps.toList.getD k 0):=by
 refine zb2 ?_
 have hl : (rot t).cps.toList.length = 26:=by
  have:=za09 ⟨t,ht⟩
  rw [hy9]
  exact this
 rw [List.getD_eq_getElem?_getD,ay7 (by omega)]
 rfl
def onI (g : Nat->Str) : PyData->PyData
 | .int z=>.str (g z.toNat)
 | d=>d
theorem zI3 (g : Nat->Str) (m : Nat) : (ze9 0 m).map (onI g) = ((ey5 m).map g).map .str:=by
 unfold ze9
 rw [gy7,gy7]
 exact oy9 fun k _=>by simp [onI]
theorem zv3 {n : Nat} {d : PyData} (h : d∈ze9 0 n) : ∃ k : Nat,k < n /\ d = .int k:=by
 unfold ze9 at h
 obtain ⟨k,hk,rfl⟩:=dy6.mp h
 exact ⟨k,my0.mp hk,by simp⟩
theorem zh3 (n : Nat) : (ze9 0 n).length = n:=by unfold ze9; simp
section
variable {P : dy7} {w : World} {K : ay2} {mg : Str->Option Value} {base : Heap}
def zd54 : RB:=fun as W k=>∃ p : Nat,as = [.o p] /\ zk8 W p /\ ∀ (hs : List Str) W',zc26 hs->zk9 W p W'->k (.d (.list (hs.map .str))) W'
abbrev nHd : List Str:=["_law_pack_here", "_law_letters", "_law_turn", "_law_pick", "_law_size", "_law_amount"]
theorem scHd : zc0 nHd ["_law_pack_here"] (za0 zk7):=⟨rfl,rfl,rfl,by decide +kernel,rfl,by decide +kernel,by decide +kernel⟩
theorem ndHd : nHd.Nodup:=by decide +kernel
def cH1 : Scope:=match za5 zk7 with
 | [_,_,_,_,_,_,.If _ [.Return (some (.ListComp _ _ sc _)) _] _ _,_,_]=>sc
 | _=>zx5
def cH2 : Scope:=match za5 zk7 with
 | [_,_,_,_,_,_,_,.If _ [.Return (some (.ListComp _ _ sc _)) _] _ _,_]=>sc
 | _=>zx5
def cH3 : Scope:=match za5 zk7 with
 | [_,_,_,_,_,_,_,_,.Return (some (.ListComp _ _ sc _)) _]=>sc
 | _=>zx5
theorem csH1 : zc3 nHd (za0 zk7) ["_law_k"] ["_law_letters", "_law_size"] [1,4] cH1:=⟨rfl,by decide +kernel,by decide +kernel,by decide +kernel,rfl,by decide +kernel⟩
theorem csH2 : zc3 nHd (za0 zk7) ["_law_k"] ["_law_letters", "_law_size"] [1,4] cH2:=⟨rfl,by decide +kernel,by decide +kernel,by decide +kernel,rfl,by decide +kernel⟩
theorem csH3 : zc3 nHd (za0 zk7) ["_law_k"] ["_law_letters", "_law_size"] [1,4] cH3:=⟨rfl,by decide +kernel,by decide +kernel,by decide +kernel,rfl,by decide +kernel⟩
theorem ndH : (["_law_k", "_law_letters", "_law_size"] : List Str).Nodup:=by decide +kernel
set_option maxHeartbeats 1000000 in
theorem zb02 {f fT : Addr} {fd dT : ey8} (F : Fun K "_law_hands" "_law_hands" zk7 f fd) (T : Txt mg) (DT : Def K mg "_law_take" zB4 fT dT pTk) : zj8 P w K mg base CX0 2 f fd ["_law_pack_here"] (spB K zd54):=by
 have N:=@za07 P w K mg base _ _ DT.fn T
 refine zp7 F scHd (fun as W k ⟨p,e,_⟩=>by subst e; rfl) fun cdv A outer s H E hr F0 A0 as W k hcl ⟨p,e,hp,hk⟩=>?_
 subst e
 have hpl:=hp.lt
 refine za3 (zc5 (i:=1) ndHd rfl (Or.inr rfl) (ze4 ?_))
 refine za3 (zc5 (i:=2) ndHd rfl (Or.inl rfl) (zb0 N (hr.mono (by decide)) rfl DT.at_ DT.fn.kp DT.bd (za4 (bv 0 rfl (za1 (za2 ⟨p,26,rfl,hp,by decide,by decide,fun r W1 a0 a1 pw1=>?_⟩))))))
 obtain ⟨t,rfl⟩ : ∃ n : Nat,r = n:=⟨r.toNat,by omega⟩
 have ht : t < 26:=by omega
 have hrl:=za09 ⟨t,ht⟩
 have hcat : (py1 LET (some (t : Int)) none).length + (py1 LET none (some (t : Int))).length <= by0:=by
  have e : (rot t).length = (py1 LET (some (t : Int)) none).length + (py1 LET none (some (t : Int))).length:=by
   have:=zK0 (py1 LET (some (t : Int)) none++py1 LET none (some (t : Int)))
   rw [zd29,cy5,zK0,zK0] at this
   exact this.symm
  rw [<- e,hrl]
  decide
 refine za3 (zc5 (i:=1) ndHd rfl (Or.inr rfl) (zf1 (zc7 (bv 1 rfl (zb8 (bv 2 rfl ⟨_,rfl,zg3 (zJ4 (z:=LET) (by decide) (zc7 (bv 1 rfl (zg3 (zb8 (bv 2 rfl ⟨_,rfl,zJ4 (z:=LET) (by decide) (zG7 hcat ?_)⟩))))))⟩))))))
 refine za3 (zc5 (i:=3) ndHd rfl (Or.inl rfl) (zb0 N (hr.mono (by decide)) rfl DT.at_ DT.fn.kp DT.bd (za4 (bv 0 rfl (za1 (za2 ⟨p,3,rfl,pw1.at hpl,by decide,by decide,fun r W2 b0 b1 pw2=>?_⟩))))))
 obtain ⟨q,rfl⟩ : ∃ n : Nat,r = n:=⟨r.toNat,by omega⟩
 have pw2:=pw1.trans pw2
 refine za3 (zc5 (i:=4) ndHd rfl (Or.inr rfl) (zb0 N (hr.mono (by decide)) rfl DT.at_ DT.fn.kp DT.bd (za4 (bv 0 rfl (za1 (za2 ⟨p,8,rfl,pw2.at hpl,by decide,by decide,fun r W3 c0 c1 pw3=>?_⟩))))))
 obtain ⟨z,rfl⟩ : ∃ n : Nat,r = n:=⟨r.toNat,by omega⟩
 have hz : z < 8:=by omega
 have pw3:=pw2.trans pw3
 refine za3 (zc5 (i:=5) ndHd rfl (Or.inl rfl) (zf1 (za2 (zb0 N (hr.mono (by decide)) rfl DT.at_ DT.fn.kp DT.bd (za4 (bv 0 rfl (za1 (za2 ⟨p,3,rfl,pw3.at hpl,by decide,by decide,fun r W4 d0 d1 pw4=>zh8 ?_⟩))))))))
 have pw4:=pw3.trans pw4
 obtain ⟨m,hm,hm2,hm4⟩ : ∃ m : Nat,2 + r = (m : Int) /\ 2 <= m /\ m <= 4:=⟨(2 + r).toNat,by omega,by omega,by omega⟩
 rw [hm]
 have hsz : (ze9 0 m).length <= by0:=by rw [zh3]; exact za8 (by omega)
 have hlr : (rot t).length <= by0:=by rw [hrl]; decide
 have htl : (zQ7 t z).length <= 8:=(zL3 ⟨0,by decide⟩ ⟨t,ht⟩ ⟨z,hz⟩).2.2
 refine za3 (zf2 (zc2 rfl (bv 3 rfl (za2 (zx1 ⟨_,rfl,?_⟩)))))
 by_cases e0 : (q : Int) = 0
 ·rw [decide_eq_true e0]
  refine zl2 (za9 (ze2 (zf0 rfl csH1 (zg4 rfl T.range_ (bv 5 rfl ⟨_,rfl,by omega,by omega,zn0 (onI (nmOf 0 t z)) trivial hsz ?_ ?_⟩)))))
  ·intro d hd
   obtain ⟨kk,hk1,rfl⟩:=zv3 hd
   refine zd1 (i:=0) ndH rfl (by decide) (fun _ _ _ _ _=>Or.inl rfl) (fun _ _ _ _ _=>rfl) fun cl C ex s H=>?_
   refine zf1 (zb9 (by intro _ _; rfl) (bv 1 rfl (za2 (zV2 hlr (za10 ht (k:=0) (by decide)) (zf1 (za2 (zf1 (zf1 (bv 2 rfl (bv 0 rfl (zh8 (za2 (zV7 (by decide) (zh8 ?_))))))))))))))
   rw [show (1 : Int) + ((z : Int) + (kk : Int)) % 8 = ((1 + (z + kk) % 8 : Nat) : Int) by omega]
   refine zc05 (by omega) (by omega) (by show 1 <= 1000; decide) fun y y1 y2 _=>⟨?_,rfl⟩
   have : y = rep1 (chr t 0) (1 + (z + kk) % 8):=by
    unfold rep1
    split
    ·exact y2 ‹_›
    ·exact y1 ‹_› (by show 1 ≠ 0; decide)
   rw [this]
   show El.d (.str _) = .d (.str (nmOf 0 t z ((kk : Int)).toNat))
   rw [hy1]
   rfl
  ·show _
   rw [show (m : Int).toNat = m from rfl,zI3]
   exact hk _ _ (zB5 (by decide) ht hz hm2 hm4) pw4
 ·rw [decide_eq_false e0]
  refine zf7 (ze5 (za3 (zf2 (zc2 rfl (bv 3 rfl (za2 (zx1 ⟨_,rfl,?_⟩)))))))
  by_cases e1 : (q : Int) = 1
  ·rw [decide_eq_true e1]
   refine zl2 (za9 (ze2 (zf0 rfl csH2 (zg4 rfl T.range_ (bv 5 rfl ⟨_,rfl,by omega,by omega,zn0 (onI (nmOf 1 t z)) trivial hsz ?_ ?_⟩)))))
   ·intro d hd
    obtain ⟨kk,hk1,rfl⟩:=zv3 hd
    refine zd1 (i:=0) ndH rfl (by decide) (fun _ _ _ _ _=>Or.inl rfl) (fun _ _ _ _ _=>rfl) fun cl C ex s H=>?_
    refine zf1 (zb9 (by intro _ _; rfl) (bv 1 rfl (bv 0 rfl (zV2 hlr (za10 ht (k:=kk) (by omega)) (zc7 (bv 1 rfl (zb8 (za2 ⟨_,rfl,zb8 (zf1 (za2 (bv 2 rfl (zh8 ⟨_,rfl,zJ4 hlr (zG7 ?_ ⟨?_,rfl⟩)⟩))))⟩))))))))
    ·show 1 + (zQ7 t z).length <= by0
     exact za8 (by omega)
    ·show El.d (.str _) = .d (.str (nmOf 1 t z ((kk : Int)).toNat))
     rw [hy1]
     rfl
   ·rw [show (m : Int).toNat = m from rfl,zI3]
    exact hk _ _ (zB5 (by decide) ht hz hm2 hm4) pw4
  ·rw [decide_eq_false e1]
   refine zf7 (ze5 (za9 (ze2 (zf0 rfl csH3 (zg4 rfl T.range_ (bv 5 rfl ⟨_,rfl,by omega,by omega,zn0 (onI (nmOf 2 t z)) trivial hsz ?_ ?_⟩))))))
   ·intro d hd
    obtain ⟨kk,hk1,rfl⟩:=zv3 hd
    refine zd1 (i:=0) ndH rfl (by decide) (fun _ _ _ _ _=>Or.inl rfl) (fun _ _ _ _ _=>rfl) fun cl C ex s H=>?_
    refine zf1 (zc7 (bv 1 rfl (zb8 (za2 ⟨_,rfl,zb8 (zf1 (za2 (bv 2 rfl (zh8 ⟨_,rfl,zJ4 hlr (zb9 (by intro _ _; rfl) (bv 1 rfl (bv 0 rfl (zV2 hlr (za10 ht (k:=kk) (by omega)) (zG7 ?_ ⟨?_,rfl⟩)))))⟩))))⟩))))
    ·show (zQ7 t z).length + 1 <= by0
     exact za8 (by omega)
    ·show El.d (.str _) = .d (.str (nmOf 2 t z ((kk : Int)).toNat))
     rw [hy1]
     rfl
   ·rw [show (m : Int).toNat = m from rfl,zI3]
    exact hk _ _ (zB5 (by decide) ht hz hm2 hm4) pw4
end
/-- what the top leaves of words and deeds -/
structure TxtN (K : ay2) (mg : Str->Option Value) (kA : Addr) : Prop where
 t : Txt mg
 letters : ∃ t,mg "LETTERS" = some (.str LET t)
 longest : ∃ t,mg "LONGEST_NAME" = some (.int 8 t)
 kinds : mg "KINDS" = some (.ref kA)
 kindsT : ∀ H,SqT K H kA [.str "send",.str "take"]
section
variable {P : dy7} {w : World} {K : ay2} {mg : Str->Option Value} {base : Heap} {kA : Addr}
def ze56 : RB:=fun es W k=>∃ x : Str,es = [.d (.str x)] /\ isNm x = true /\ k (.d (.bool true)) W
theorem zd55 : zc0 ["thing"] ["thing"] (za0 zs6):=⟨rfl,rfl,rfl,by decide +kernel,rfl,by decide +kernel,by decide +kernel⟩
def ze57 : Scope:=match za5 zs6 with
 | [_,.Return (some (.Call _ [.ListComp _ _ sc _] _ _)) _]=>sc
 | _=>zx5
theorem zc27 : (["sign"] : List Str).Nodup:=by decide +kernel
theorem zd56 : zc3 ["thing"] (za0 zs6) ["sign"] [] [] ze57:=⟨rfl,by decide +kernel,by decide +kernel,by decide +kernel,rfl,by decide +kernel⟩
theorem zc28 {f : Addr} {fd : ey8} (F : Fun K "is_name" "is_name" zs6 f fd) (T : TxtN K mg kA) : zj8 P w K mg base CX0 1 f fd ["thing"] (spB K ze56):=by
 obtain ⟨tl,hlong⟩:=T.longest
 obtain ⟨tt,hlet⟩:=T.letters
 refine zp7 F zd55 (fun es W k ⟨x,e,_⟩=>by subst e; rfl) fun cdv A outer s H E hr F0 A0 es W k hcl ⟨x,e,hx,hk⟩=>?_
 subst e
 obtain ⟨h1,h2,h3⟩:=zb44.mp hx
 have h1 : 1 <= x.length:=by simp [cs] at h1; exact h1
 have h2 : x.length <= 8:=by simp [cs] at h2; exact h2
 refine za3 (zf2 (BW.bt (zm8 (zg2 (zg7 (zd6 rfl T.t.isi zo7 rfl T.t.str_ zb00 (by simp) (bv 0 rfl ⟨_,.inl rfl,_,rfl,zf7 (zm3 (zg2 (zJ9 (za2 (zb7 rfl T.t.len_ zj0 (za1 (bv 0 rfl (zb89 (za8 (by omega)) (zO4 ⟨_,rfl,?_⟩)))))))))⟩)))))))
 rw [decide_eq_true (by omega)]
 refine zl2 (gI hlong (zO4 ⟨_,rfl,?_⟩))
 rw [decide_eq_true (by omega)]
 refine zf7 (ze5 ?_)
 refine za9 (ze2 (zb7 rfl T.t.all_ za03 (za1 (zf0 rfl zd56 (zd24 (bv 0 rfl ⟨x,rfl,zn0 (fun _=>.bool true) trivial ?_ ?_ ?_⟩))))))
 ·unfold zu4
  rw [ay3]
  exact cy6 h2 (by decide)
 ·intro d hd'
  obtain ⟨c,hc,rfl⟩:=dy6.mp hd'
  refine zd1 (i:=0) zc27 rfl (by decide) (fun _ _ _ _ _=>Or.inl rfl) (fun _ _ _ _ _=>rfl) fun cl C ex s H=>?_
  refine zm7 rfl (bv 0 rfl (gS hlet (zd17 ⟨?_,rfl⟩)))
  have:=h3 c hc
  rw [zd28]
  simp [this]
 ·refine zD9 rfl (bs:=(zu4 x).map fun _=>true) (.inl ?_) ?_
  ·rw [gy7]; rfl
  ·rw [show ((zu4 x).map fun _=>true).all id = true by simp]
   exact hk
end
section
variable {P : dy7} {w : World} {K : ay2} {mg : Str->Option Value} {base : Heap} {kA : Addr}
def ze58 : RB:=fun es W k=>∃ d : za6,es = [.d (dP d)] /\ d.Ok /\ k (.d (.bool true)) W
abbrev nDd : List Str:=["thing", "kind", "giver", "taker", "word"]
theorem zd57 : zc0 nDd ["thing"] (za0 zB3):=⟨rfl,rfl,rfl,by decide +kernel,rfl,by decide +kernel,by decide +kernel⟩
theorem ndDd : nDd.Nodup:=by decide +kernel
theorem zd58 (d : za6) : d.kd∈(["send", "take"] : List Str):=by rcases zd30 d with e | e <;> simp [e]
theorem zc29 {f fN : Addr} {fd dN : ey8} (F : Fun K "is_deed" "is_deed" zB3 f fd) (T : TxtN K mg kA) (DN : Def K mg "is_name" zs6 fN dN ["thing"]) : zj8 P w K mg base CX0 2 f fd ["thing"] (spB K ze58):=by
 have N:=@zc28 P w K mg base kA _ _ DN.fn T
 refine zp7 F zd57 (fun es W k ⟨d,e,_⟩=>by subst e; rfl) fun cdv A outer s H E hr F0 A0 es W k hcl ⟨d,e,hd,hk⟩=>?_
 subst e
 have hkd:=zd58 d
 refine za3 (zf2 (BW.bt (zm8 (zg2 (zg7 (zd6 rfl T.t.isi zo7 rfl T.t.tuple_ zk2 (by simp) (bv 0 rfl ⟨_,.inl rfl,_,rfl,zf7 (zm3 (zc2 rfl (zb7 rfl T.t.len_ zj0 (za1 (bv 0 rfl (zg9 (za2 (zD7 ⟨_,rfl,zf7 (ze5 ?_)⟩))))))))⟩)))))))
 refine za3 (zx2 (bv 0 rfl (zs0 rfl (.cons (i:=1) ndDd rfl (Or.inl rfl) (.cons (i:=2) ndDd rfl (Or.inl rfl) (.cons (i:=3) ndDd rfl (Or.inl rfl) (.cons (i:=4) ndDd rfl (Or.inl rfl) .nil)))) rfl ?_)))
 refine za3 (zf2 (BW.bt (zm8 (zg2 (zg7 (zd6 rfl T.t.isi zo7 rfl T.t.str_ zb00 (by simp) (bv 1 rfl ⟨_,.inl rfl,_,rfl,zf7 (zm3 (zc2 rfl (bv 1 rfl (zG6 rfl T.kinds (show RelV (.ref kA) _ from rfl) (fun F=>Rq.tup (T.kindsT F) (.cons (.str _) (.cons (.str _) .nil))) (zb88 (xs:=["send", "take"]) (.inr rfl) ⟨_,rfl,?_⟩)))))⟩)))))))
 rw [decide_eq_true hkd]
 refine zf7 (ze5 (za9 (ze2 (zu0 (zb0 N (hr.mono (by decide)) rfl DN.at_ DN.fn.kp DN.bd (za1 (bv 2 rfl ⟨_,rfl,hd.x,_,rfl,zl2 (zu0 (zb0 N (hr.mono (by decide)) rfl DN.at_ DN.fn.kp DN.bd (za1 (bv 3 rfl ⟨_,rfl,hd.y,_,rfl,zl2 (zu0 (zb0 N (hr.mono (by decide)) rfl DN.at_ DN.fn.kp DN.bd (za1 (bv 4 rfl ⟨_,rfl,hd.w,_,rfl,zl2 (zt9 (zm7 rfl (bv 2 rfl (bv 3 rfl (zJ6 ?_)))))⟩))))⟩))))⟩)))))))
 rw [decide_eq_false hd.ne]
 exact hk
end
structure Ln where
 x : Str
 y : Str
 j : Nat
 ws : List Str
abbrev Ln.key (e : Ln) : List Key:=[.inr e.x,.inr e.y]
def zf5 (L : List Ln) (x y : Str) : Option Ln:=L.find? fun e=>decide (e.key = [.inr x,.inr y])
/-- the words under way from x to y -/
def zj3 (L : List Ln) (x y : Str) : List Str:=((zf5 L x y).map (·.ws)).getD []
structure zj1 (W : Wl) (q : Nat) (L : List Ln) : Prop where
 at_ : W[q]? = some (.dT (L.map fun e=>(e.key,El.o e.j)))
 obj : ∀ e∈L,W[e.j]? = some (.lst (zb4 (e.ws.map .str)))
 nd : (L.map (·.j)).Nodup
 nq : ∀ e∈L,e.j ≠ q
theorem zB6 (L : List Ln) (x y : Str) : zP0 (L.map fun e=>(e.key,El.o e.j)) [.inr x,.inr y] = (zf5 L x y).map fun e=>El.o e.j:=by
 unfold zP0 zf5
 rw [List.find?_map,Option.map_map]
 rfl
theorem zl6 {L : List Ln} {x y : Str} {e : Ln} (h : zf5 L x y = some e) : e∈L /\ e.x = x /\ e.y = y:=by
 have h1:=List.mem_of_find?_eq_some h
 have h2:=List.find?_some h
 simp at h2
 exact ⟨h1,h2.1,h2.2⟩
section
variable {P : dy7} {w : World} {K : ay2} {mg : Str->Option Value} {base : Heap} {kA : Addr}
def rCan : RB:=fun as W k=>∃ (q : Nat) (d : za6) (L : List Ln),as = [.o q,.d (dP d)] /\ d.Ok /\ zj1 W q L /\ (∀ e∈L,∀ z∈e.ws,ry9 z = true) /\ k (.d (.bool (!d.tk || decide ((zj3 L d.x d.y).take 1 = [d.w])))) W
abbrev nCa : List Str:=["lines", "deed", "kind", "giver", "taker", "word"]
theorem scCa : zc0 nCa ["lines", "deed"] (za0 zR3):=⟨rfl,rfl,rfl,by decide +kernel,rfl,by decide +kernel,by decide +kernel⟩
theorem ndCa : nCa.Nodup:=by decide +kernel
theorem zd59 {f : Addr} {fd : ey8} (F : Fun K "can_be_done" "can_be_done" zR3 f fd) (T : TxtN K mg kA) : zj8 P w K mg base CX0 1 f fd ["lines", "deed"] (spB K rCan):=by
 refine zp7 F scCa (fun as W k ⟨q,d,L,e,_⟩=>by subst e; rfl) fun cdv A outer s H E hr F0 A0 as W k hcl ⟨q,d,L,e,hok,hL,hsk,hk⟩=>?_
 subst e
 refine za3 (zx2 (bv 1 rfl (zs0 rfl (.cons (i:=2) ndCa rfl (Or.inl rfl) (.cons (i:=3) ndCa rfl (Or.inl rfl) (.cons (i:=4) ndCa rfl (Or.inl rfl) (.cons (i:=5) ndCa rfl (Or.inl rfl) .nil)))) rfl ?_)))
 refine za9 (ze2 (zd14 (zm7 rfl (bv 2 rfl (ze4 (zf9 ⟨_,rfl,?_⟩))))))
 by_cases ht : d.tk = true
 ·have hkd : d.kd ≠ "send" := by
   unfold za6.kd
   rw [ht]
   decide +kernel
  rw [decide_eq_false hkd]
  rw [ht] at hk
  refine zf7 (zt9 (zm7 rfl (zc7 (zg6 jy9 PySem.F.slot_dict_get PySem.F.type_dict_get (bv 0 rfl ⟨.inr ⟨rfl,.inr ⟨_,hL.at_⟩⟩,za4 (zw9 (za4 (bv 3 rfl (za1 (bv 4 rfl ⟨[.str d.x,.str d.y],rfl,(by show 2 <= by0; decide),?_⟩)))))⟩)))))
  refine za1 (zD4 (zk5 ⟨[],rfl,dy8 _,za82 (ks:=[.inr d.x,.inr d.y]) hr.units hL.at_ ?_⟩))
  rw [zB6]
  have fin : ∀ zs : List Str,(∀ z∈zs,ry9 z = true)->zj3 L d.x d.y = zs->BE ⟨(zN8 CX0 P w K mg base nCa "can_be_done" (za0 zR3) f cdv A outer s H E).nox,F0,A0,fun _ _ _=>False⟩ [some (.o q),some (.d (dP d)),some (.d (.str d.kd)),some (.d (.str d.x)),some (.d (.str d.y)),some (.d (.str d.w))] W (match za5 zR3 with | [_,.Return (some (.BoolOp _ [_,.Compare _ _ [r] _] _)) _]=>r | _=>.Constant .none 0 ⟨0,0,0,0⟩) (fun y W2=>OB ⟨(zN8 CX0 P w K mg base nCa "can_be_done" (za0 zR3) f cdv A outer s H E).nox,F0,A0,fun _ _ _=>False⟩ (fy7 .Eq) (.d (.list ((zs.take 1).map .str))) y W2 k):=fun zs hz hw=>by
   refine zD4 (za1 (bv 5 rfl ⟨[.str d.w],rfl,(by show 1 <= by0; decide),zO5 hr.units (d:=.list ((zs.take 1).map .str)) (e:=.list ([d.w].map .str)) (.inl rfl) (.inl rfl) (zK3 fun z h=>hz z (ly6 h)) (zK3 (by simp [zh0 hok.w])) ?_⟩))
   rw [show ey0 (.list ((zs.take 1).map .str)) (.list ([d.w].map .str)) = decide (zs.take 1 = [d.w]) by simp only [ey0]; exact zK1 _ _,<- hw]
   simpa using hk
  cases hf : zf5 L d.x d.y with
  | none =>
   refine zg3 (zb8 (za2 ⟨1,rfl,zb39 ?_⟩))
   have:=fin [] (by simp) (by unfold zj3; rw [hf]; rfl)
   rw [show zx0 ([] : List PyData) none (some 1) = [] from zW7 [] 1]
   exact this
  | some e =>
   obtain ⟨he,hx,hy⟩:=zl6 hf
   refine zg3 (zb8 (za2 ⟨1,rfl,zb40 (hL.obj e he) ?_⟩))
   have:=fin e.ws (hsk e he) (by unfold zj3; rw [hf]; rfl)
   rw [show zx0 (e.ws.map PyData.str) none (some 1) = (e.ws.take 1).map .str by rw [List.map_take]; exact zW7 _ 1]
   exact this
 ·have ht : d.tk = false:=by simpa using ht
  have hkd : d.kd = "send" := by unfold za6.kd; rw [ht]; rfl
  rw [decide_eq_true hkd]
  rw [ht] at hk
  exact zl2 hk
end
/-- at most m lines of at most m words each,all names -/
structure zm4 (m : Nat) (L : List Ln) : Prop where
 len : L.length <= m
 ws : ∀ e∈L,e.ws.length <= m /\ ∀ z∈e.ws,isNm z = true
theorem zm4.sok {m : Nat} {L : List Ln} (h : zm4 m L) : ∀ e∈L,∀ z∈e.ws,ry9 z = true:=fun e he z hz=>zh0 ((h.ws e he).2 z hz)
def zv4 (d : za6) (ws : List Str) : List Str:=if d.tk then ws.tail else ws++[d.w]
/-- the lines behind a deed -/
structure Step (L : List Ln) (d : za6) (L' : List Ln) : Prop where
 here : (zf5 L' d.x d.y).map (·.ws) = some (zv4 d (zj3 L d.x d.y))
 else_ : ∀ x y,¬ (x = d.x /\ y = d.y)->(zf5 L' x y).map (·.ws) = (zf5 L x y).map (·.ws)
/-- what is no line stays -/
def Frame (W : Wl) (q : Nat) (L : List Ln) (W' : Wl) : Prop:=W.length <= W'.length /\ ∀ i,i < W.length->i ≠ q->(∀ e∈L,e.j ≠ i)->W'[i]? = W[i]?
def putL (L : List Ln) (x y : Str) (ws : List Str) : List Ln:=L.map fun e=>if e.key = [.inr x,.inr y] then { e with ws:=ws } else e
theorem zL4 (L : List Ln) (x y : Str) (ws : List Str) (x' y' : Str) : zf5 (putL L x y ws) x' y' = (zf5 L x' y').map fun e=>if e.key = [.inr x,.inr y] then { e with ws:=ws } else e:=by
 unfold zf5 putL
 rw [List.find?_map]
 congr 1
 apply congrArg (fun p=>List.find? p L)
 funext e
 simp only [sy5]
 split <;> rfl
theorem za11 {L : List Ln} {n : Ln} {x y : Str} (h : zf5 L x y = none) : zf5 (L++[n]) x y = if n.key = [.inr x,.inr y] then some n else none:=by
 unfold zf5 at *
 rw [List.find?_append,h]
 simp [my4]
 split <;> simp_all
theorem zQ8 {L : List Ln} {n : Ln} {x y : Str} (h : ¬ n.key = [.inr x,.inr y]) : zf5 (L++[n]) x y = zf5 L x y:=by
 unfold zf5
 rw [List.find?_append,show List.find? (fun e : Ln=>decide (e.key = [.inr x,.inr y])) [n] = none by rw [my4]; simp only [decide_eq_false h]; rfl]
 simp
theorem zb04 (L : List Ln) (x y : Str) (ws : List Str) : (putL L x y ws).map (fun e=>(e.key,El.o e.j)) = L.map fun e=>(e.key,El.o e.j):=by
 unfold putL
 rw [gy7]
 apply oy9
 intro e he
 simp only [sy5]
 split <;> rfl
theorem zd60 (L : List Ln) (x y : Str) (ws : List Str) : (putL L x y ws).map (·.j) = L.map (·.j):=by
 unfold putL
 rw [gy7]
 apply oy9
 intro e he
 simp only [sy5]
 split <;> rfl
theorem ze59 {L : List Ln} (nd : (L.map (·.j)).Nodup) {a b : Ln} (ha : a∈L) (hb : b∈L) (h : a.j = b.j) : a = b:=by
 induction L with
 | nil=>simp at ha
 | cons c L ih =>
  rw [fy4,ny9] at nd
  have no : ∀ z∈L,c.j ≠ z.j:=fun z hz e=>nd.1 (dy6.mpr ⟨z,hz,e.symm⟩)
  rcases cy4.mp ha with ea | ha'
  ·rcases cy4.mp hb with eb | hb'
   ·rw [ea,eb]
   ·rw [ea] at h
    exact absurd h (no b hb')
  ·rcases cy4.mp hb with eb | hb'
   ·rw [eb] at h
    exact absurd h.symm (no a ha')
   ·exact ih nd.2 ha' hb'
/-- a line is there: its words change -/
theorem zj1.put {W : Wl} {q : Nat} {L : List Ln} (h : zj1 W q L) {e : Ln} {x y : Str} (he : zf5 L x y = some e) (ws : List Str) (V : Wl) (uniq : ∀ a∈L,a.key = [.inr x,.inr y]->a = e) :
  zj1 ((W++V).set e.j (.lst (zb4 (ws.map .str)))) q (putL L x y ws) /\ Frame W q L ((W++V).set e.j (.lst (zb4 (ws.map .str)))):=by
 obtain ⟨hm,hx,hy⟩:=zl6 he
 have hq : q < W.length:=(ay0.mp h.at_).1
 have hj : e.j < W.length:=(ay0.mp (h.obj e hm)).1
 have old : ∀ {i : Nat} {o : OD},W[i]? = some o->i ≠ e.j->((W++V).set e.j (.lst (zb4 (ws.map .str))))[i]? = some o:=fun {i o} ho hi=>by
  have hl : i < W.length:=(ay0.mp ho).1
  rw [ey6 (iy5 hi),ay8 hl]
  exact ho
 refine ⟨⟨?_,fun a ha=>?_,by rw [zd60]; exact h.nd,fun a ha=>?_⟩,by simp,fun i hi iq hL=>?_⟩
 ·rw [zb04]
  exact old h.at_ (iy5 (h.nq e hm))
 ·obtain ⟨b,hb,rfl⟩:=dy6.mp ha
  by_cases hk : b.key = [.inr x,.inr y]
  ·rw [if_pos hk,uniq b hb hk]
   show ((W++V).set e.j _)[e.j]? = _
   rw [dy3 (by rw [cy5]; omega)]
  ·rw [if_neg hk]
   refine old (h.obj b hb) fun z=>hk ?_
   rw [ze59 h.nd hb hm z,<- hx,<- hy]
 ·obtain ⟨b,hb,rfl⟩:=dy6.mp ha
  have:=h.nq b hb
  split <;> exact this
 ·rw [ey6 (hL e hm),ay8 hi]
/-- a new line -/
def newW (W : Wl) (q : Nat) (L : List Ln) (x y : Str) (ws : List Str) : Wl:=((W++[OD.lst []]).set q (OD.dT (L.map (fun e : Ln=>(e.key,El.o e.j))++[([.inr x,.inr y],.o W.length)]))).set W.length (OD.lst (zb4 (ws.map .str)))
theorem zj1.new {W : Wl} {q : Nat} {L : List Ln} (h : zj1 W q L) (x y : Str) (ws : List Str) : zj1 (newW W q L x y ws) q (L++[⟨x,y,W.length,ws⟩]) /\ Frame W q L (newW W q L x y ws):=by
 unfold newW
 have hq : q < W.length:=(ay0.mp h.at_).1
 have hj : ∀ e∈L,e.j < W.length:=fun e he=>(ay0.mp (h.obj e he)).1
 refine ⟨⟨?_,fun a ha=>?_,?_,fun a ha=>?_⟩,by simp,fun i hi iq hL=>?_⟩
 ·rw [ey6 (by omega),dy3 (by simp; omega),fy1]
  rfl
 ·rcases by9.mp ha with ha | ha
  ·rw [ey6 (my1 (hj a ha)),ey6 (iy5 (h.nq a ha)),ay8 (hj a ha)]
   exact h.obj a ha
  ·cases cy9.mp ha
   show (List.set _ W.length _)[W.length]? = _
   rw [dy3 (by simp)]
 ·rw [fy1]
  exact zo5 h.nd fun z=>by
   obtain ⟨e,he,z⟩:=dy6.mp z
   have:=hj e he
   simp at z
   omega
 ·rcases by9.mp ha with ha | ha
  ·exact h.nq a ha
  ·cases cy9.mp ha
   show W.length ≠ q
   omega
 ·rw [ey6 (by omega),ey6 (iy5 iq),ay8 hi]
/-- the lists of the lines: old ones,new ones -/
def NewJ (n : Nat) (L L' : List Ln) : Prop:=∀ e∈L',(∃ e0∈L,e0.j = e.j) \/ n <= e.j
theorem NewJ.put (n : Nat) (L : List Ln) (x y : Str) (ws : List Str) : NewJ n L (putL L x y ws):=fun a ha=>by
 obtain ⟨b,hb,rfl⟩:=dy6.mp ha
 refine .inl ⟨b,hb,?_⟩
 split <;> rfl
theorem NewJ.new {n : Nat} {L : List Ln} {e : Ln} (h : n <= e.j) : NewJ n L (L++[e]):=fun a ha=>by
 rcases by9.mp ha with ha | ha
 ·exact .inl ⟨a,ha,rfl⟩
 ·cases cy9.mp ha
  exact .inr h
def zg5 (L : List Ln) : Prop:=(L.map Ln.key).Nodup
theorem zg5.uniq {L : List Ln} (h : zg5 L) {e : Ln} {x y : Str} (he : zf5 L x y = some e) : ∀ a∈L,a.key = [.inr x,.inr y]->a = e:=by
 obtain ⟨hm,hx,hy⟩:=zl6 he
 have hk : e.key = [.inr x,.inr y]:=by rw [<- hx,<- hy]
 unfold zg5 at h
 clear he
 induction L with
 | nil=>simp at hm
 | cons c L ih =>
  rw [fy4,ny9] at h
  have no : ∀ z∈L,c.key ≠ z.key:=fun z hz e=>h.1 (dy6.mpr ⟨z,hz,e.symm⟩)
  intro a ha hak
  rcases cy4.mp ha with ea | ha'
  ·rcases cy4.mp hm with eb | hb'
   ·rw [ea,eb]
   ·exact absurd (by rw [<- ea,hak,hk]) (no e hb')
  ·rcases cy4.mp hm with eb | hb'
   ·exact absurd (by rw [<- eb,hak,hk]) (no a ha')
   ·exact ih h.2 hb' a ha' hak
theorem zg5.put {L : List Ln} (h : zg5 L) (x y : Str) (ws : List Str) : zg5 (putL L x y ws):=by
 unfold zg5 putL at *
 rw [gy7,show (Ln.key ∘ fun e : Ln=>if e.key = [.inr x,.inr y] then { e with ws:=ws } else e) = Ln.key by funext e; simp only [sy5]; split <;> rfl]
 exact h
theorem find_none {L : List Ln} {x y : Str} (h : zf5 L x y = none) : ([.inr x,.inr y] : List Key) ∉ L.map Ln.key:=fun z=>by
 obtain ⟨e,he,hk⟩:=dy6.mp z
 have:=List.find?_eq_none.mp h e he
 exact this (by simpa using hk)
theorem zg5.new {L : List Ln} (h : zg5 L) {x y : Str} (hn : zf5 L x y = none) (j : Nat) (ws : List Str) : zg5 (L++[⟨x,y,j,ws⟩]):=by
 unfold zg5 at *
 rw [fy1]
 exact zo5 h (find_none hn)
theorem zm4.put {m : Nat} {L : List Ln} (h : zm4 m L) (x y : Str) {ws : List Str} (h1 : ws.length <= m + 1) (h2 : ∀ z∈ws,isNm z = true) : zm4 (m + 1) (putL L x y ws):=⟨by unfold putL; rw [ay3]; exact Nat.le_succ_of_le h.len,fun a ha=>by
 obtain ⟨b,hb,rfl⟩:=dy6.mp ha
 split
 ·exact ⟨h1,h2⟩
 ·exact ⟨Nat.le_succ_of_le (h.ws b hb).1,(h.ws b hb).2⟩⟩
theorem zm4.new {m : Nat} {L : List Ln} (h : zm4 m L) (x y : Str) (j : Nat) {ws : List Str} (h1 : ws.length <= m + 1) (h2 : ∀ z∈ws,isNm z = true) : zm4 (m + 1) (L++[⟨x,y,j,ws⟩]):=⟨by rw [cy5]; exact Nat.succ_le_succ h.len,fun a ha=>by
 rcases by9.mp ha with ha | ha
 ·exact ⟨Nat.le_succ_of_le (h.ws a ha).1,(h.ws a ha).2⟩
 ·cases cy9.mp ha
  exact ⟨h1,h2⟩⟩
theorem Step.put {L : List Ln} {d : za6} {e : Ln} (he : zf5 L d.x d.y = some e) {ws : List Str} (hw : ws = zv4 d e.ws) : Step L d (putL L d.x d.y ws):=by
 have hk : e.key = [.inr d.x,.inr d.y]:=by obtain ⟨_,hx,hy⟩:=zl6 he; rw [<- hx,<- hy]
 constructor
 ·rw [zL4,he]
  simp only [sy3,if_pos hk]
  unfold zj3
  rw [he,hw]
  rfl
 ·intro x y hne
  rw [zL4]
  cases h : zf5 L x y with
  | none=>rfl
  | some a =>
   obtain ⟨_,hx,hy⟩:=zl6 h
   have : ¬ a.key = [.inr d.x,.inr d.y]:=fun z=>hne (by rw [<- hx,<- hy]; simpa using z)
   simp only [sy3,if_neg this]
theorem Step.new {L : List Ln} {d : za6} (hn : zf5 L d.x d.y = none) (j : Nat) {ws : List Str} (hw : ws = zv4 d []) : Step L d (L++[⟨d.x,d.y,j,ws⟩]):=by
 constructor
 ·rw [za11 hn,if_pos rfl,hw]
  unfold zj3
  rw [hn]
  rfl
 ·intro x y hne
  rw [zQ8 (fun z=>hne (by simpa [eq_comm] using z))]
section
variable {P : dy7} {w : World} {K : ay2} {mg : Str->Option Value} {base : Heap} {kA : Addr}
def rDo : RB:=fun as W k=>∃ (q : Nat) (d : za6) (L : List Ln) (m : Nat),as = [.o q,.d (dP d)] /\ d.Ok /\ zj1 W q L /\ zg5 L /\ zm4 m L /\ m <= 1000 /\ (d.tk = true->zj3 L d.x d.y ≠ []) /\
 ∀ W' L',zj1 W' q L'->zg5 L'->zm4 (m + 1) L'->Step L d L'->Frame W q L W'->NewJ W.length L L'->k (.d .none) W'
abbrev nDo : List Str:=["lines", "deed", "kind", "giver", "taker", "word", "words"]
theorem scDo : zc0 nDo ["lines", "deed"] (za0 sDo):=⟨rfl,rfl,rfl,by decide +kernel,rfl,by decide +kernel,by decide +kernel⟩
theorem ndDo : nDo.Nodup:=by decide +kernel
theorem ze61 {f : Addr} {fd : ey8} (F : Fun K "do_deed" "do_deed" sDo f fd) (T : TxtN K mg kA) : zj8 P w K mg base CX0 1 f fd ["lines", "deed"] (spB K rDo):=by
 refine zp7 F scDo (fun as W k ⟨q,d,L,m,e,_⟩=>by subst e; rfl) fun cdv A outer s H E hr F0 A0 as W k hcl ⟨q,d,L,m,e,hok,hL,hK,hS,hm,ht,hk⟩=>?_
 subst e
 have hq : q < W.length:=(ay0.mp hL.at_).1
 have hL1 : ∀ {a : Nat},a <= 2000->a < by0:=fun h=>Nat.lt_of_le_of_lt h (by1 (show 2000 < 3000 by decide) (za8 (by decide)))
 refine za3 (zx2 (bv 1 rfl (zs0 rfl (.cons (i:=2) ndDo rfl (Or.inl rfl) (.cons (i:=3) ndDo rfl (Or.inl rfl) (.cons (i:=4) ndDo rfl (Or.inl rfl) (.cons (i:=5) ndDo rfl (Or.inl rfl) .nil)))) rfl ?_)))
 refine za3 (zc5 (i:=6) ndDo rfl (Or.inl rfl) (zg6 jy9 jy6 py8 (bv 0 rfl ⟨.inr ⟨rfl,.inr ⟨_,hL.at_⟩⟩,za4 (zc01 (za4 (bv 3 rfl (za1 (bv 4 rfl ⟨[.inr d.x,.inr d.y],rfl,(by show 2 <= by0; decide),za1 (zg8 (zk5 ⟨dy8 _,?_⟩))⟩)))))⟩)))
 refine zx4 hr.units (by rw [ay8 hq]; exact hL.at_) (fun e he=>?_) (fun hn=>⟨?_,?_⟩)
 ·rw [zB6] at he
  cases hf : zf5 L d.x d.y with
  | none=>rw [hf] at he; cases he
  | some l =>
   rw [hf] at he
   cases he
   obtain ⟨hmem,hx,hy⟩:=zl6 hf
   obtain ⟨hwl,hwn⟩:=hS.ws l hmem
   have hlj : l.j < W.length:=(ay0.mp (hL.obj l hmem)).1
   have hobj : (W++[OD.lst []])[l.j]? = some (.lst (zb4 (l.ws.map .str))):=by rw [ay8 hlj]; exact hL.obj l hmem
   have go : ∀ ws : List Str,ws = zv4 d l.ws->ws.length <= m + 1->(∀ z∈ws,isNm z = true)->k (.d .none) ((W++[OD.lst []]).set l.j (.lst (zb4 (ws.map .str)))):=fun ws e1 e2 e3=>by
    obtain ⟨a,b⟩:=hL.put hf ws [OD.lst []] (hK.uniq hf)
    exact hk _ _ a (hK.put _ _ _) (hS.put _ _ e2 e3) (Step.put hf e1) b (NewJ.put _ _ _ _ _)
   refine za9 (zf2 (zc2 rfl (bv 2 rfl (ze4 (zf9 ⟨_,rfl,?_⟩)))))
   by_cases htk : d.tk = true
   ·have hkd : d.kd ≠ "send" := by
     unfold za6.kd
     rw [htk]
     decide +kernel
    rw [decide_eq_false hkd]
    have hne:=ht htk
    unfold zj3 at hne
    rw [hf] at hne
    cases hws : l.ws with
    | nil=>exact absurd hws hne
    | cons z rest =>
     rw [hws] at hobj hwl hwn
     refine zf7 (za9 (ze6 (zg6 cy0 PySem.F.slot_list_pop PySem.F.type_list_pop (bv 6 rfl ⟨.inl ⟨rfl,_,hobj⟩,za1 (za2 (zb91 (y:=.d (.str z)) (es:=zb4 (rest.map .str)) hobj ?_))⟩))))
     exact go rest (by unfold zv4; rw [if_pos htk,hws]; rfl) (by simp at hwl; omega) fun y hy=>hwn y (by8 _ hy)
   ·have htk : d.tk = false:=by simpa using htk
    have hkd : d.kd = "send" := by unfold za6.kd; rw [htk]; rfl
    rw [decide_eq_true hkd]
    refine zl2 (za9 (ze6 (zg6 cy0 ey3 ey4 (bv 6 rfl ⟨.inl ⟨rfl,_,hobj⟩,za1 (bv 5 rfl (zd7 hobj ?_ ?_))⟩))))
    ·simp only [zb4,ay3]
     exact hL1 (by omega)
    ·have:=go (l.ws++[d.w]) (by unfold zv4; rw [htk]; rfl) (by rw [cy5]; simp; omega) (fun z hz=>by
      rcases by9.mp hz with hz | hz
      ·exact hwn z hz
      ·cases cy9.mp hz; exact hok.w)
     simpa [zb4] using this
 ·rw [ay3]
  have:=hS.len
  exact hL1 (by omega)
 ·rw [zB6] at hn
  have hf : zf5 L d.x d.y = none:=by
   cases h : zf5 L d.x d.y with
   | none=>rfl
   | some l=>rw [h] at hn; cases hn
  have hw0 : zj3 L d.x d.y = []:=by unfold zj3; rw [hf]; rfl
  have htk : d.tk = false:=by
   cases h : d.tk with
   | false=>rfl
   | true=>exact absurd hw0 (ht h)
  have hkd : d.kd = "send" := by unfold za6.kd; rw [htk]; rfl
  refine za9 (zf2 (zc2 rfl (bv 2 rfl (ze4 (zf9 ⟨_,rfl,?_⟩)))))
  rw [decide_eq_true hkd]
  have hobj : ((W++[OD.lst []]).set q (OD.dT (L.map (fun e : Ln=>(e.key,El.o e.j))++[([.inr d.x,.inr d.y],.o W.length)])))[W.length]? = some (.lst []):=by
   rw [ey6 (by omega)]
   simp
  refine zl2 (za9 (ze6 (zg6 cy0 ey3 ey4 (bv 6 rfl ⟨.inl ⟨rfl,_,hobj⟩,za1 (bv 5 rfl (zd7 hobj (hL1 (by simp)) ?_))⟩))))
  obtain ⟨a,b⟩:=hL.new d.x d.y [d.w]
  exact hk _ _ a (hK.new hf _ _) (hS.new _ _ _ (by simp) (by simp [hok.w])) (Step.new hf _ (by unfold zv4; rw [htk]; rfl)) b (NewJ.new (ay5 _))
end
abbrev Wd:=Str->Str->List Str
def zB7 (f : Wd) (d : za6) : Wd:=fun x y=>if x = d.x /\ y = d.y then zv4 d (f x y) else f x y
def zB8 (ds : List za6) : Wd:=ds.foldl zB7 fun _ _=>[]
def canF (f : Wd) (d : za6) : Bool:=!d.tk || decide ((f d.x d.y).take 1 = [d.w])
def Goes (ds : List za6) : Prop:=∀ i d,ds[i]? = some d->canF (zB8 (ds.take i)) d = true
theorem zL5 {ds : List za6} {i : Nat} {d : za6} (h : ds[i]? = some d) : zB8 (ds.take (i + 1)) = zB7 (zB8 (ds.take i)) d:=by
 unfold zB8
 rw [gy1,h]
 simp [List.foldl_append]
theorem Step.words {L L' : List Ln} {d : za6} (h : Step L d L') {f : Wd} (hf : ∀ x y,zj3 L x y = f x y) : ∀ x y,zj3 L' x y = zB7 f d x y:=fun x y=>by
 unfold zB7
 by_cases e : x = d.x /\ y = d.y
 ·obtain ⟨rfl,rfl⟩:=e
  rw [if_pos ⟨rfl,rfl⟩,<- hf]
  show ((zf5 L' d.x d.y).map (·.ws)).getD [] = _
  rw [h.here]
  rfl
 ·rw [if_neg e,<- hf]
  show ((zf5 L' x y).map (·.ws)).getD [] = ((zf5 L x y).map (·.ws)).getD []
  rw [h.else_ x y e]
/-- the lines of W',all behind the first n objects -/
structure zr3 (W : Wl) (q : Nat) (m : Nat) (f : Wd) (W' : Wl) (L : List Ln) : Prop where
 at_ : zj1 W' q L
 ks : zg5 L
 sm : zm4 m L
 fs : ∀ x y,zj3 L x y = f x y
 js : ∀ e∈L,W.length <= e.j
 le : W.length <= W'.length
 old : ∀ i,i < W.length->i ≠ q->W'[i]? = W[i]?
theorem zr3.step {W W1 W2 : Wl} {q m : Nat} {f : Wd} {L L2 : List Ln} {d : za6} (h : zr3 W q m f W1 L) (a : zj1 W2 q L2) (b : zg5 L2) (c : zm4 (m + 1) L2) (s : Step L d L2) (fr : Frame W1 q L W2) (nj : NewJ W1.length L L2) : zr3 W q (m + 1) (zB7 f d) W2 L2 where
 at_:=a
 ks:=b
 sm:=c
 fs:=s.words h.fs
 js:=fun e he=>by
  rcases nj e he with ⟨e0,h0,h1⟩ | h1
  ·rw [<- h1]; exact h.js e0 h0
  ·exact cy6 h.le h1
 le:=cy6 h.le fr.1
 old:=fun i hi iq=>(fr.2 i (by1 hi h.le) iq fun e he z=>by have:=h.js e he; omega).trans (h.old i hi iq)
theorem zd62 {f : Wd} {d : za6} (h : canF f d = true) (ht : d.tk = true) : f d.x d.y ≠ []:=fun z=>by
 unfold canF at h
 rw [ht,z] at h
 simp at h
theorem zg5.self {L : List Ln} (h : zg5 L) {e : Ln} (he : e∈L) : zf5 L e.x e.y = some e:=by
 cases hf : zf5 L e.x e.y with
 | none=>exact absurd (dy6.mpr ⟨e,he,rfl⟩) (find_none hf)
 | some a=>rw [h.uniq hf e he rfl]
theorem Step.keys {L L' : List Ln} {d : za6} {p : Str->Str->Prop} (h : Step L d L') (nd : zg5 L') (hK : ∀ e∈L,p e.x e.y) (hd : p d.x d.y) : ∀ e∈L',p e.x e.y:=fun e he=>by
 by_cases hx : e.x = d.x /\ e.y = d.y
 ·rw [hx.1,hx.2]; exact hd
 ·have h1:=h.else_ e.x e.y hx
  rw [nd.self he] at h1
  cases hf : zf5 L e.x e.y with
  | none=>rw [hf] at h1; cases h1
  | some a =>
   obtain ⟨m,h2,h3⟩:=zl6 hf
   have:=hK a m
   rw [h2,h3] at this
   exact this
section
variable {P : dy7} {w : World} {K : ay2} {mg : Str->Option Value} {base : Heap} {kA : Addr}
def zc30 : RB:=fun as W k=>∃ ds : List za6,as = [.d (rP ds)] /\ (∀ d∈ds,d.Ok) /\ ds.length <= 900 /\ Goes ds /\ ∀ V L,zr3 W W.length ds.length (zB8 ds) (W++V) L->(∀ e∈L,∃ d∈ds,d.x = e.x /\ d.y = e.y)->k (.o W.length) (W++V)
abbrev nBh : List Str:=["row", "lines", "number", "deed"]
theorem scBh : zc0 nBh ["row"] (za0 zn1):=⟨rfl,rfl,rfl,by decide +kernel,rfl,by decide +kernel,by decide +kernel⟩
theorem ndBh : nBh.Nodup:=by decide +kernel
theorem za13 {f fN fD fC fO : Addr} {fd dN dD dC dO : ey8} (F : Fun K "lines_behind" "lines_behind" zn1 f fd) (T : TxtN K mg kA) (DN : Def K mg "is_name" zs6 fN dN ["thing"]) (DD : Def K mg "is_deed" zB3 fD dD ["thing"]) (DC : Def K mg "can_be_done" zR3 fC dC ["lines", "deed"]) (DO : Def K mg "do_deed" sDo fO dO ["lines", "deed"]) :
  zj8 P w K mg base CX0 3 f fd ["row"] (spB K zc30):=by
 have ND:=@zc29 P w K mg base kA _ _ _ _ DD.fn T DN
 have NC:=@zd59 P w K mg base kA _ _ DC.fn T
 have NO:=@ze61 P w K mg base kA _ _ DO.fn T
 refine zp7 F scBh (fun as W k ⟨ds,e,_⟩=>by subst e; rfl) fun cdv A outer s H E hr F0 A0 as W k hcl ⟨ds,e,hok,hl,hgo,hk⟩=>?_
 subst e
 refine za3 (zf2 (zg2 (zg7 (zd6 rfl T.t.isi zo7 rfl T.t.tuple_ zk2 (by simp) (bv 0 rfl ⟨_,.inl rfl,_,rfl,?_⟩)))))
 refine zf7 (ze5 (za3 (zc5 (i:=1) ndBh rfl (Or.inl rfl) (zK4 ?_))))
 have start : zr3 W W.length 0 (fun _ _=>[]) (W++[.dT []]) []:=⟨⟨by simp,by simp,by simp,by simp⟩,by simp [zg5],⟨by simp,by simp⟩,fun _ _=>rfl,by simp,by simp,fun i hi _=>ay8 hi⟩
 refine za3 (zX2 gy8 rfl rfl T.t.enum_ (za1 (bv 0 rfl ⟨ds.map dP,W.length,fun i S' W'=>∃ o2 o3 L,S' = [some (.d (rP ds)),some (.o W.length),o2,o3] /\ zr3 W W.length i (zB8 (ds.take i)) W' L /\ ∀ e∈L,∃ d∈ds,d.x = e.x /\ d.y = e.y,rfl,ay5 _,by simp,⟨none,none,[],rfl,start,by simp⟩,?_,?_⟩)))
 ·rintro i dd S' W' hd ⟨o2,o3,L,rfl,hL,hK⟩
  rw [ay4] at hd
  cases hy : ds[i]? with
  | none=>rw [hy] at hd; cases hd
  | some d =>
   rw [hy] at hd
   cases hd
   have hdk:=hok d (by3 hy)
   have hi : i < ds.length:=(ay0.mp hy).1
   have hcan:=hgo i d hy
   refine zs0 rfl (.cons (i:=2) ndBh rfl (Or.inl rfl) (.cons (i:=3) ndBh rfl (Or.inl rfl) .nil)) rfl ?_
   refine za3 (zf2 (BW.bt (zm8 (zg2 (zg7 (zb0 ND (hr.mono (by decide)) rfl DD.at_ DD.fn.kp DD.bd (za1 (bv 3 rfl ⟨d,rfl,hdk,_,rfl,?_⟩))))))))
   refine zf7 (zm3 (zg2 (zg7 (zb0 NC (hr.mono (by decide)) rfl DC.at_ DC.fn.kp DC.bd (za4 (bv 1 rfl (za1 (bv 3 rfl ⟨W.length,d,L,rfl,hdk,hL.at_,hL.sm.sok,_,rfl,?_⟩))))))))
   rw [hL.fs]
   have hc' : (!d.tk || decide ((zB8 (ds.take i) d.x d.y).take 1 = [d.w])) = true:=hcan
   rw [hc']
   refine zf7 (ze5 (za9 (ze6 (zb0 NO (hr.mono (by decide)) rfl DO.at_ DO.fn.kp DO.bd (za4 (bv 1 rfl (za1 (bv 3 rfl ⟨W.length,d,L,i,rfl,hdk,hL.at_,hL.ks,hL.sm,by omega,fun ht=>by rw [hL.fs]; exact zd62 hcan ht,fun W2 L2 a b c st fr nj=>?_⟩))))))))
   refine ⟨_,_,L2,rfl,?_,st.keys (p:=fun x y=>∃ d∈ds,d.x = x /\ d.y = y) b hK ⟨d,by3 hy,rfl,rfl⟩⟩
   rw [zL5 hy]
   exact hL.step a b c st fr nj
 ·rintro S' W' ⟨o2,o3,L,rfl,hL,hK⟩
  obtain ⟨V,rfl⟩ : ∃ V,W' = W++V:=⟨W'.drop W.length,by
   refine my2 fun i=>?_
   by_cases hi : i < W.length
   ·rw [ay8 hi]
    exact hL.old i hi (cy7 hi)
   ·rw [dy1 (by omega),gy2]
    congr 1
    omega⟩
  rw [ay3,hy6] at hL
  exact za9 (ze2 (bv 1 rfl (hk V L hL hK)))
end
structure Lt where
 x : Str
 y : Str
 w : Str
 deriving DecidableEq
structure Lt.Ok (l : Lt) : Prop where
 x : isNm l.x = true
 y : isNm l.y = true
 w : isNm l.w = true
 ne : l.x ≠ l.y
def lP (l : Lt) : PyData:=.tuple [.str l.x,.str l.y,.str l.w]
def same (a b : Lt) : Bool:=decide (a.x = b.x /\ a.y = b.y)
def addF (found : List Lt) (l : Lt) : List Lt:=if found.all (fun o=>!same l o) then found++[l] else found
def zc8 (ls : List Lt) : List Lt:=ls.foldl addF []
theorem zv5 (ls : List Lt) (l : Lt) : zc8 (ls++[l]) = addF (zc8 ls) l:=by simp [zc8]
theorem zE9 (ls : List Lt) : (zc8 ls).length <= ls.length:=by
 have : ∀ (ls acc : List Lt),(ls.foldl addF acc).length <= acc.length + ls.length:=by
  intro ls
  induction ls with
  | nil=>intro acc; simp
  | cons a r ih =>
   intro acc
   have h:=ih (addF acc a)
   have h2 : (addF acc a).length <= acc.length + 1:=by
    unfold addF
    split <;> simp
   simp only [List.foldl_cons,ry2]
   omega
 have:=this ls []
 simpa [zc8] using this
theorem za14 (a b : Lt) : same a b = same b a:=by
 unfold same
 congr 1
 simp only [eq_comm]
/-- each of the first ones is the first of its pair; each pair that waits has one -/
theorem zl0 : ∀ (n : Nat) (ls : List Lt),ls.length = n->(∀ l∈zc8 ls,∃ pre post,ls = pre++l :: post /\ ∀ o∈pre,same o l = false) /\ ∀ l∈ls,∃ o∈zc8 ls,same l o = true:=by
 intro n
 induction n with
 | zero =>
  intro ls h
  have : ls = []:=oy6.mp h
  subst this
  exact ⟨by simp [zc8],by simp⟩
 | succ n ih =>
  intro ls h
  obtain ⟨qs,q,rfl⟩ : ∃ qs q,ls = qs++[q]:=⟨ls.dropLast,ls.getLast (by intro z; subst z; simp at h),(List.dropLast_concat_getLast _).symm⟩
  obtain ⟨i1,i2⟩:=ih qs (by simpa using h)
  rw [zv5]
  unfold addF
  by_cases c : (zc8 qs).all (fun o=>!same q o) = true
  ·rw [if_pos c]
   constructor
   ·intro l hl
    rcases by9.mp hl with hl | hl
    ·obtain ⟨pre,post,e,hp⟩:=i1 l hl
     exact ⟨pre,post++[q],by rw [e]; simp,hp⟩
    ·have hl : l = q:=by simpa using hl
     subst hl
     refine ⟨qs,[],rfl,fun o ho=>?_⟩
     cases hs : same o l with
     | false=>rfl
     | true =>
      obtain ⟨f,hf,hof⟩:=i2 o ho
      have:=List.all_eq_true.mp c f hf
      have h3 : same l f = true:=by
       unfold same at *
       simp only [decide_eq_true_eq] at *
       exact ⟨hs.1.symm.trans hof.1,hs.2.symm.trans hof.2⟩
      rw [h3] at this
      simp at this
   ·intro l hl
    rcases by9.mp hl with hl | hl
    ·obtain ⟨f,hf,e⟩:=i2 l hl
     exact ⟨f,fy6 _ hf,e⟩
    ·have hl : l = q:=by simpa using hl
     subst hl
     exact ⟨l,by simp,by simp [same]⟩
  ·rw [if_neg c]
   constructor
   ·intro l hl
    obtain ⟨pre,post,e,hp⟩:=i1 l hl
    exact ⟨pre,post++[q],by rw [e]; simp,hp⟩
   ·intro l hl
    rcases by9.mp hl with hl | hl
    ·exact i2 l hl
    ·have hl : l = q:=by simpa using hl
     subst hl
     exact Classical.byContradiction fun z=>c (List.all_eq_true.mpr fun o ho=>by
      cases e : same l o with
      | false=>rfl
      | true=>exact (z ⟨o,ho,e⟩).elim)
theorem zr4 {ls : List Lt} {l : Lt} (h : l∈zc8 ls) : l∈ls:=by
 obtain ⟨pre,post,e,_⟩:=(zl0 _ ls rfl).1 l h
 rw [e]; simp
theorem za15 {ls : List Lt} (h : ls ≠ []) : zc8 ls ≠ []:=by
 cases ls with
 | nil=>exact absurd rfl h
 | cons a r =>
  obtain ⟨o,ho,_⟩:=(zl0 _ (a :: r) rfl).2 a (by simp)
  intro z
  rw [z] at ho
  simp at ho
/-- the words that wait of a pair -/
def zo8 (ls : List Lt) (x y : Str) : List Str:=(ls.filter fun l=>decide (l.x = x /\ l.y = y)).map (·.w)
theorem za16 (ls : List Lt) (l : Lt) (x y : Str) : zo8 (ls++[l]) x y = if x = l.x /\ y = l.y then zo8 ls x y++[l.w] else zo8 ls x y:=by
 unfold zo8
 rw [gy5,fy1]
 by_cases e : x = l.x /\ y = l.y
 ·rw [if_pos e]
  simp [ky2,e.1.symm,e.2.symm]
 ·rw [if_neg e]
  have : ¬ (l.x = x /\ l.y = y):=fun z=>e ⟨z.1.symm,z.2.symm⟩
  simp [ky2,this]
theorem zv6 {pre post : List Lt} {l : Lt} (hp : ∀ o∈pre,same o l = false) (x y : Str) : zo8 (pre++l :: post) l.x l.y = l.w :: zo8 (pre++post) l.x l.y /\ (¬ (x = l.x /\ y = l.y)->zo8 (pre++l :: post) x y = zo8 (pre++post) x y):=by
 have h0 : pre.filter (fun o=>decide (o.x = l.x /\ o.y = l.y)) = []:=by
  rw [List.filter_eq_nil_iff]
  intro o ho
  have:=hp o ho
  unfold same at this
  simpa using this
 constructor
 ·unfold zo8
  rw [gy5,gy5,h0]
  simp [ky2]
 ·intro e
  have : ¬ (l.x = x /\ l.y = y):=fun z=>e ⟨z.1.symm,z.2.symm⟩
  unfold zo8
  rw [gy5,gy5]
  simp [ky2,this]
theorem za17 (ds : List za6) (d : za6) : zB8 (ds++[d]) = zB7 (zB8 ds) d:=by simp [zB8]
theorem zF0 {ds : List za6} {d : za6} (h : Goes ds) (hc : canF (zB8 ds) d = true) : Goes (ds++[d]):=by
 intro i e he
 by_cases hi : i < ds.length
 ·rw [ay8 hi] at he
  rw [py2 (by omega)]
  exact h i e he
 ·have : i = ds.length:=by
   have:=(ay0.mp he).1
   simp at this
   omega
  subst this
  rw [dy1 (ay5 _)] at he
  simp at he
  subst he
  rw [py2 (ay5 _),hy6]
  exact hc
/-- the row and what waits behind it -/
structure Tale (ds : List za6) (ls : List Lt) : Prop where
 ok : ∀ d∈ds,d.Ok
 lo : ∀ l∈ls,l.Ok
 go : Goes ds
 ws : ∀ x y,zB8 ds x y = zo8 ls x y
theorem zd63 : Tale [] []:=⟨by simp,by simp,fun i d h=>by simp at h,fun x y=>rfl⟩
theorem Tale.send {ds : List za6} {ls : List Lt} (h : Tale ds ls) {l : Lt} (hl : l.Ok) : Tale (ds++[⟨false,l.x,l.y,l.w⟩]) (ls++[l]) where
 ok:=fun d hd=>by
  rcases by9.mp hd with hd | hd
  ·exact h.ok d hd
  ·simp at hd; subst hd; exact ⟨hl.x,hl.y,hl.w,hl.ne⟩
 lo:=fun o ho=>by
  rcases by9.mp ho with ho | ho
  ·exact h.lo o ho
  ·simp at ho; subst ho; exact hl
 go:=zF0 h.go rfl
 ws:=fun x y=>by
  rw [za17,za16]
  unfold zB7 zv4
  simp only [h.ws]
  rfl
theorem Tale.take {ds : List za6} {pre post : List Lt} {l : Lt} (h : Tale ds (pre++l :: post)) (hp : ∀ o∈pre,same o l = false) : Tale (ds++[⟨true,l.x,l.y,l.w⟩]) (pre++post) where
 ok:=fun d hd=>by
  have hl:=h.lo l (by simp)
  rcases by9.mp hd with hd | hd
  ·exact h.ok d hd
  ·simp at hd; subst hd; exact ⟨hl.x,hl.y,hl.w,hl.ne⟩
 lo:=fun o ho=>h.lo o (by
  rcases by9.mp ho with ho | ho
  ·simp [ho]
  ·simp [ho])
 go:=zF0 h.go (by
  unfold canF
  simp only [Bool.not_true,Bool.false_or,decide_eq_true_eq]
  rw [h.ws,(zv6 hp l.x l.y).1]
  rfl)
 ws:=fun x y=>by
  rw [za17]
  unfold zB7 zv4
  simp only [h.ws]
  by_cases e : x = l.x /\ y = l.y
  ·obtain ⟨rfl,rfl⟩:=e
   rw [if_pos ⟨rfl,rfl⟩,(zv6 hp l.x l.y).1]
   rfl
  ·rw [if_neg e,(zv6 hp x y).2 e]
theorem cut2 (l : Lt) : zx0 [PyData.str l.x,.str l.y,.str l.w] none (some 2) = [.str l.x,.str l.y]:=rfl
theorem zh5 {x y : Str} (hx : isNm x = true) (hy : isNm y = true) : Dat (.tuple [.str x,.str y]):=by
 constructor
 ·simp [iy4,ey2,zh0 hx,zh0 hy]
 ·simp [qy3,fy9]
theorem za18 (x y x' y' : Str) : ey0 (.tuple [.str x,.str y]) (.tuple [.str x',.str y']) = decide (x = x' /\ y = y'):=by
 simp only [ey0,jy4,Bool.and_true]
 rw [gy4]
 simp
theorem zb07 {l : Lt} (h : l.Ok) : (lP l).canLay0 = true /\ (lP l).depth <= 2:=by
 constructor
 ·simp [lP,iy4,ey2,zh0 h.x,zh0 h.y,zh0 h.w]
 ·simp [lP,qy3,fy9]
theorem zF1 : ∀ {ls : List Lt},(∀ l∈ls,l.Ok)->ey2 (ls.map lP) = true
 | [],_=>rfl
 | l :: ls,h=>by
  simp [ey2,(zb07 (h l by5)).1,zF1 fun o ho=>h o (by8 _ ho)]
theorem zd64 (a b : Lt) : ey0 (lP a) (lP b) = decide (a = b):=by
 obtain ⟨ax,ay,aw⟩:=a
 obtain ⟨bx,by_,bw⟩:=b
 simp only [lP,ey0,jy4,Bool.and_true]
 rw [gy4]
 simp
theorem za19 {l : Lt} (h : l.Ok) : Dat (lP l):=⟨(zb07 h).1,by have:=(zb07 h).2; omega⟩
theorem gLr {W W1 : Wl} {o u : OD} (hl : W1.length = W.length) : (W1++[o,u])[W.length]? = some o /\ (W1++[o,u])[W.length + 1]? = some u:=by rw [<- hl]; simp
theorem sLr {W W1 : Wl} {o u v : OD} (hl : W1.length = W.length) : (W1++[o,u]).set W.length v = W1++[v,u] /\ (W1++[o,u]).set (W.length + 1) v = W1++[o,v]:=by rw [<- hl]; simp
section
variable {P : dy7} {w : World} {K : ay2} {mg : Str->Option Value} {base : Heap}
def zc31 : RB:=fun as W k=>∃ (j : Nat) (ls : List Lt),as = [.o j] /\ W[j]? = some (.lst (zb4 (ls.map lP))) /\ (∀ l∈ls,l.Ok) /\ ls.length <= 1000 /\ k (.d (.list ((zc8 ls).map lP))) W
abbrev nFs : List Str:=["_law_waiting", "_law_found", "_law_letter"]
theorem scFs : zc0 nFs ["_law_waiting"] (za0 zi9):=⟨rfl,rfl,rfl,by decide +kernel,rfl,by decide +kernel,by decide +kernel⟩
theorem ndFs : nFs.Nodup:=by decide +kernel
def cFs : Scope:=match za5 zi9 with
 | [_,.For _ _ [.If (.Call _ [.ListComp _ _ sc _] _ _) _ _ _] _ _,_]=>sc
 | _=>zx5
theorem csFs : zc3 nFs (za0 zi9) ["_law_other"] ["_law_letter"] [2] cFs:=⟨rfl,by decide +kernel,by decide +kernel,by decide +kernel,rfl,by decide +kernel⟩
theorem ndFc : (["_law_other", "_law_letter"] : List Str).Nodup:=by decide +kernel
def neqL (l : Lt) : PyData->PyData
 | .tuple [.str x,.str y,_]=>.bool (!decide (l.x = x /\ l.y = y))
 | d=>d
theorem zF2 {f : Addr} {fd : ey8} (F : Fun K "_law_firsts" "_law_firsts" zi9 f fd) (T : Txt mg) : zj8 P w K mg base CX0 1 f fd ["_law_waiting"] (spB K zc31):=by
 refine zp7 F scFs (fun as W k ⟨j,ls,e,_⟩=>by subst e; rfl) fun cdv A outer s H E hr F0 A0 as W k hcl ⟨j,ls,e,hj,hok,hl,hk⟩=>?_
 subst e
 have gj : ∀ V,(W++V)[j]? = some (.lst (zb4 (ls.map lP))):=fun V=>by rw [ay8 (ay0.mp hj).1]; exact hj
 refine za3 (zc5 (i:=1) ndFs rfl (Or.inl rfl) (zg8 (zk5 ⟨dy8 _,?_⟩)))
 refine za3 (zx3 gy8 rfl (zJ7 (bv 0 rfl ⟨j,ls.map lP,rfl,gj _,W.length,fun v S' W'=>∃ o2,S' = [some (.o j),some (.o W.length),o2] /\ W' = W++[.lst (zb4 ((zc8 (ls.take v)).map lP))],ay5 _,(ay0.mp hj).1,by simp,⟨none,rfl,rfl⟩,fun v S' W' _ ⟨o2,_,e⟩=>by rw [e]; exact gj _,?_,?_⟩)))
 ·rintro v z S' W' hz ⟨o2,rfl,rfl⟩
  rw [ay4] at hz
  obtain ⟨l,hg,rfl⟩:=fy0.mp hz
  have hlo:=hok l (by3 hg)
  have et : ls.take (v + 1) = ls.take v++[l]:=by rw [gy1,hg]; rfl
  have hfl : (zc8 (ls.take v)).length <= 1000:=by have:=zE9 (ls.take v); rw [iy2] at this; omega
  have fok : ∀ o∈zc8 (ls.take v),o.Ok:=fun o ho=>hok o (ly6 (zr4 ho))
  refine zm9 (i:=2) ndFs rfl (Or.inr rfl) ?_
  refine za9 (zf2 (zg7 (zb7 rfl T.all_ za03 (za1 (zf0 rfl csFs (zJ7 (bv 1 rfl ⟨W.length,(zc8 (ls.take v)).map lP,rfl,zc9,zn0 (neqL l) zc9 ?_ ?_ ?_⟩)))))))
  ·rw [ay3]; exact za8 (by omega)
  ·intro d hd
   obtain ⟨o,ho,rfl⟩:=dy6.mp hd
   have oo:=fok o ho
   refine zd1 (i:=0) ndFc rfl (by decide) (fun _ _ _ _ _=>Or.inl rfl) (fun _ _ _ _ _=>rfl) fun cl C ex s H=>?_
   refine zm7 rfl (zc7 (bv 1 rfl (zg3 (zb8 (za2 ⟨_,rfl,zh7 (zc7 (bv 0 rfl (zg3 (zb8 (za2 ⟨_,rfl,zh7 ?_⟩)))))⟩)))))
   rw [cut2,cut2]
   refine za69 hr.units (.inl rfl) (.inl rfl) (zh5 hlo.x hlo.y) (zh5 oo.x oo.y) ⟨?_,rfl⟩
   rw [za18]
   rfl
  ·have e : ((zc8 (ls.take v)).map lP).map (neqL l) = ((zc8 (ls.take v)).map fun o=>!same l o).map .bool:=by rw [gy7,gy7]; rfl
   rw [e]
   refine zD9 rfl (.inl rfl) ⟨_,rfl,?_⟩
   have hall : ((zc8 (ls.take v)).map fun o=>!same l o).all id = (zc8 (ls.take v)).all fun o=>!same l o:=by rw [List.all_map]; rfl
   have ea : zc8 (ls.take (v + 1)) = addF (zc8 (ls.take v)) l:=by rw [et,zv5]
   unfold addF at ea
   rw [hall]
   by_cases c : ((zc8 (ls.take v)).all fun o=>!same l o) = true
   ·rw [if_pos c] at ea
    rw [c]
    refine zl2 (za9 (ze6 (zg6 cy0 ey3 ey4 (bv 1 rfl ⟨.inl ⟨rfl,_,zc9⟩,za1 (bv 2 rfl (zd7 zc9 (by1 (show _ < 2000 by simp [zb4]; omega) (za8 (by decide))) ?_))⟩))))
    rw [zq2]
    exact ⟨_,rfl,by rw [ea]; simp [zb4]⟩
   ·rw [if_neg c] at ea
    rw [Bool.not_eq_true] at c
    rw [c]
    exact zf7 (ze5 ⟨_,rfl,by rw [ea]⟩)
 ·rintro S' W' ⟨o2,rfl,rfl⟩
  rw [ay3,hy6]
  exact za9 (za71 (bv 1 rfl ⟨_,W,[],rfl,rfl,rfl,hcl,hk⟩))
end
theorem zf3 {k : Nat} {A : Around} (r : zt1 k A) : A.units + 100 < cLine:=by have:=r.un; omega
def wdsT : List Str:=["x", "yes", "no", "go", "xy", "abcdefgh"]
theorem zc32 : ∀ z∈wdsT,isNm z = true:=by decide +kernel
theorem zb53 {ls : List Lt} (h : ∀ l∈ls,l.Ok) : Dat (.list (ls.map lP)):=by
 have h1:=zF1 h
 have h2 : fy9 (ls.map lP) <= 2:=by
  clear h1
  induction ls with
  | nil=>simp [fy9]
  | cons l ls ih =>
   have a:=(zb07 (h l by5)).2
   have b:=ih fun o ho=>h o (by8 _ ho)
   simp only [fy4,fy9]
   omega
 constructor
 ·simp [iy4,h1]
 ·simp only [qy3]
  omega
theorem zc33 (ls : List Lt) : ey0 (.list (ls.map lP)) (.list []) = decide (ls = []):=by
 cases ls with
 | nil=>rfl
 | cons l ls=>rfl
theorem za20 {pre post : List Lt} {l : Lt} (hp : ∀ o∈pre,same o l = false) : ((pre++l :: post).map lP).findIdx? (fun z=>ey0 z (lP l)) = some pre.length:=by
 rw [List.findIdx?_map]
 have e : ((fun z=>ey0 z (lP l)) ∘ lP) = fun o=>decide (o = l):=funext fun o=>zd64 o l
 rw [e,List.findIdx?_eq_some_iff_getElem]
 refine ⟨by simp,by simp,fun j hj=>?_⟩
 rw [List.getElem_append_left hj]
 have:=hp pre[j] (ry6 hj)
 simp only [decide_eq_true_eq]
 intro z
 rw [z] at this
 simp [same] at this
section
variable {P : dy7} {w : World} {K : ay2} {mg : Str->Option Value} {base : Heap}
structure zd66 (ds : List za6) : Prop where
 ok : ∀ d∈ds,d.Ok
 go : Goes ds
 len : ds.length <= 12
 none_ : ∀ x y,zB8 ds x y = []
def zd67 : RB:=fun as W k=>∃ (p : Nat) (hs : List Str),as = [.o p,.d (.list (hs.map .str)),.d (.int 6)] /\ zk8 W p /\ zc26 hs /\ ∀ (ds : List za6) W',zd66 ds->zk9 W p W'->k (.d (rP ds)) W'
abbrev pSt : List Str:=["_law_pack_here", "_law_hands_here", "_law_most"]
abbrev nSt : List Str:=["_law_pack_here", "_law_hands_here", "_law_most", "_law_words", "_law_many", "_law_row", "_law_waiting", "_law_sent", "_law_turn", "_law_firsts_here", "_law_at", "_law_to", "_law_letter"]
theorem scSt : zc0 nSt pSt (za0 zu9):=⟨rfl,rfl,rfl,by decide +kernel,rfl,by decide +kernel,by decide +kernel⟩
theorem zR4 : nSt.Nodup:=by decide +kernel
abbrev sSt (p : Nat) (hs : List Str) (many sent : Nat) (W : Wl) (o8 o9 oa ob oc : Option El) : Sl:=[some (.o p),some (.d (.list (hs.map .str))),some (.d (.int 6)),some (.d (.list (wdsT.map .str))),some (.d (.int many)),some (.o W.length),some (.o (W.length + 1)),some (.d (.int sent)),o8,o9,oa,ob,oc]
abbrev rowW (W1 : Wl) (ds : List za6) (ls : List Lt) : Wl:=W1++[.lst (zb4 (ds.map dP)),.lst (zb4 (ls.map lP))]
abbrev iSt (p : Nat) (hs : List Str) (many : Nat) (W : Wl) : Nat->Sl->Wl->Prop:=fun i S' W'=>∃ (sent : Nat) (o8 o9 oa ob oc : Option El) (W1 : Wl) (ds : List za6) (ls : List Lt),S' = sSt p hs many sent W o8 o9 oa ob oc /\ W' = rowW W1 ds ls /\ zk9 W p W1 /\ Tale ds ls /\ ls.length + i = 2 * sent /\ sent <= many /\ ds.length = i
theorem zc34 (ls : List Lt) (l : Lt) : zb4 (ls.map lP)++[El.d (lP l)] = zb4 ((ls++[l]).map lP):=by simp [zb4]
theorem zb08 (W : Wl) (ds : List za6) (d : za6) (ls : List Lt) (l : Lt) : W++[OD.lst (zb4 (ds.map dP)++[El.d (dP d)]),OD.lst (zb4 (ls.map lP)++[El.d (lP l)])] = rowW W (ds++[d]) (ls++[l]):=by simp [zb4]
theorem zb09 (W : Wl) (ds : List za6) (d : za6) (ls : List Lt) : W++[OD.lst (zb4 (ds.map dP)++[El.d (dP d)]),OD.lst (zb4 (ls.map lP))] = rowW W (ds++[d]) ls:=by simp [zb4]
set_option maxHeartbeats 1000000 in
theorem zb10 {f fT fF : Addr} {fd dT dF : ey8} (F : Fun K "_law_story" "_law_story" zu9 f fd) (T : Txt mg) (DT : Def K mg "_law_take" zB4 fT dT pTk) (DF : Def K mg "_law_firsts" zi9 fF dF ["_law_waiting"]) : zj8 P w K mg base CX0 2 f fd pSt (spB K zd67):=by
 have N:=@za07 P w K mg base _ _ DT.fn T
 have NF:=@zF2 P w K mg base _ _ DF.fn T
 refine zp7 F scSt (fun as W k ⟨p,hs,e,_⟩=>by subst e; rfl) fun cdv A outer s H E hr F0 A0 as W k hcl ⟨p,hs,e,hp,hh,hk⟩=>?_
 subst e
 have hpl:=hp.lt
 have hhl:=hh.le
 have hh2:=hh.two
 refine za3 (zc5 (i:=3) zR4 rfl (Or.inl rfl) (zD4 (za4 (ze4 (za4 (ze4 (za4 (ze4 (za4 (ze4 (za4 (ze4 (za1 (ze4 ⟨wdsT.map .str,rfl,(by show 6 <= by0; decide),?_⟩))))))))))))))
 refine za3 (zc5 (i:=4) zR4 rfl (Or.inl rfl) (zb0 N (hr.mono (by decide)) rfl DT.at_ DT.fn.kp DT.bd (za4 (bv 0 rfl (za1 (zf1 (bv 2 rfl (za2 (zh8 ⟨p,_,rfl,hp,by decide,by decide,fun m W0 m0 m1 pw0=>?_⟩)))))))))
 have m1 : m < 7:=m1
 obtain ⟨many,rfl⟩ : ∃ n : Nat,m = n:=⟨m.toNat,by omega⟩
 have hl0:=pw0.len
 refine za3 (zc5 (i:=5) zR4 rfl (Or.inl rfl) (zg8 (zk5 ⟨dy8 _,?_⟩)))
 refine za3 (zc5 (i:=6) zR4 rfl (Or.inl rfl) (zg8 (zk5 ⟨dy8 _,?_⟩)))
 refine za3 (zc5 (i:=7) zR4 rfl (Or.inl rfl) (za2 ?_))
 refine za3 (zx3 gy8 rfl (zg4 rfl T.range_ (zf1 (za2 (bv 4 rfl (zV6 (.inl ⟨by decide,by decide⟩) ⟨_,rfl,by omega,by omega,W.length,iSt p hs many W,ay5 _,dy8 _,by simp [hl0],⟨0,none,none,none,none,none,W0,[],[],by rw [cy5,hl0]; rfl,by simp [zb4],pw0,zd63,by simp,dy8 _,rfl⟩,fun _ _ _ _ _=>trivial,?_,?_⟩))))))
 ·rintro i z S' W' hz ⟨sent,o8,o9,oa,ob,oc,W1,ds,ls,rfl,rfl,pw1,tl,hcnt,hsm,hdl⟩
  have hi : i < 2 * many:=by have:=(ay0.mp hz).1; rw [zh3] at this; omega
  have hl1:=pw1.len
  refine zm9 (i:=8) zR4 rfl (Or.inl rfl) ?_
  refine za3 (zc5 (i:=9) zR4 rfl (Or.inl rfl) (zb0 NF (hr.mono (by decide)) rfl DF.at_ DF.fn.kp DF.bd (za1 (bv 6 rfl ⟨W.length + 1,ls,rfl,(gLr hl1).2,tl.lo,by omega,?_⟩))))
  have fok : ∀ o∈zc8 ls,o.Ok:=fun o ho=>tl.lo o (zr4 ho)
  have hfl:=zE9 ls
  refine za9 (zf2 (BT.mono (k:=fun b Wc=>∃ W2,Wc = rowW W2 ds ls /\ zk9 W p W2 /\ (b = true->sent < many) /\ (b = false->ls ≠ [])) (BW.bt (zJ3 (zc2 rfl (bv 7 rfl (bv 4 rfl (za68 ⟨_,rfl,?_⟩)))))) fun b Wc hb=>?_))
  ·by_cases hsl : sent < many
   ·rw [decide_eq_true (by omega)]
    refine zl2 (zz2 (BW.bt (zm8 (zc2 rfl (bv 9 rfl (zD4 (zk5 ⟨[],rfl,dy8 _,zO5 hr.units (.inl rfl) (.inl rfl) (zb53 fok) (zb53 (ls:=[]) (by simp)) ⟨_,rfl,?_⟩⟩)))))))
    rw [zc33]
    by_cases hf : zc8 ls = []
    ·rw [decide_eq_true hf]
     exact zl2 ⟨W1,rfl,pw1,fun _=>hsl,fun z=>by cases z⟩
    ·rw [decide_eq_false hf]
     refine zf7 (zm3 (zc2 rfl (zb0 N (hr.mono (by decide)) rfl DT.at_ DT.fn.kp DT.bd (za4 (bv 0 rfl (za1 (za2 ⟨p,2,rfl,(pw1.at hpl).app,by decide,by decide,fun r W2 r0 r1 pw2=>za2 (zx1 ⟨_,rfl,?_⟩)⟩)))))))
     obtain ⟨W2,rfl,qw2⟩:=pw2.app (by rw [hl1]; exact hpl)
     exact ⟨W2,rfl,pw1.trans qw2,fun _=>hsl,fun _ z=>hf (by rw [z]; rfl)⟩
   ·rw [decide_eq_false (by omega)]
    refine zf7 ⟨W1,rfl,pw1,(fun z=>by cases z),fun _ z=>?_⟩
    subst z
    simp at hcnt
    omega
  obtain ⟨W2,rfl,pw2,hb1,hb2⟩:=hb
  have hl2:=pw2.len
  cases b with
  | true =>
   have hsl:=hb1 rfl
   refine zl2 (za3 (zc5 (i:=10) zR4 rfl (Or.inl rfl) (zb0 N (hr.mono (by decide)) rfl DT.at_ DT.fn.kp DT.bd (za4 (bv 0 rfl (za1 (zb7 rfl T.len_ zj0 (za1 (bv 1 rfl (zr0 (.inl rfl) ⟨p,_,rfl,(pw2.at hpl).app,?_,?_,fun a W3 b0 b1 pw3=>?_⟩))))))))))
   ·rw [ay3]; omega
   ·rw [ay3]; omega
   rw [ay3] at b1
   obtain ⟨a,rfl⟩ : ∃ n : Nat,a = n:=⟨a.toNat,by omega⟩
   obtain ⟨W3,rfl,qw3⟩:=pw3.app (by rw [hl2]; exact hpl)
   have pw3:=pw2.trans qw3
   have hl3:=pw3.len
   refine za3 (zc5 (i:=11) zR4 rfl (Or.inl rfl) (zf1 (zf1 (zf1 (bv 10 rfl (za2 (zh8 (zb0 N (hr.mono (by decide)) rfl DT.at_ DT.fn.kp DT.bd (za4 (bv 0 rfl (za1 (zf1 (zb7 rfl T.len_ zj0 (za1 (bv 1 rfl (zr0 (.inl rfl) (za2 (zV5 ⟨p,_,rfl,(pw3.at hpl).app,?_,?_,fun b W4 c0 c1 pw4=>zh8 (zb7 rfl T.len_ zj0 (za1 (bv 1 rfl (zr0 (.inl rfl) (zV7 ?_ ?_)))))⟩))))))))))))))))))
   ·rw [ay3]; omega
   ·rw [ay3]; omega
   ·rw [ay3]; omega
   rw [ay3] at c1 ⊢
   obtain ⟨W4,rfl,qw4⟩:=pw4.app (by rw [hl3]; exact hpl)
   have pw4:=pw3.trans qw4
   have hl4:=pw4.len
   obtain ⟨c,hc,hcl',hne⟩ : ∃ c : Nat,((a : Int) + 1 + b) % (hs.length : Int) = (c : Int) /\ c < hs.length /\ a ≠ c:=by
    have h1 : 0 <= ((a : Int) + 1 + b) % (hs.length : Int):=Int.emod_nonneg _ (by omega)
    have h2 : ((a : Int) + 1 + b) % (hs.length : Int) < hs.length:=Int.emod_lt_of_pos _ (by omega)
    refine ⟨(((a : Int) + 1 + b) % (hs.length : Int)).toNat,by omega,by omega,fun z=>?_⟩
    by_cases hlt : (a : Int) + 1 + b < hs.length
    ·rw [Int.emod_eq_of_lt (by omega) hlt] at z
     omega
    ·have : ((a : Int) + 1 + b) % (hs.length : Int) = (a : Int) + 1 + b - hs.length:=by
      rw [<- Int.sub_emod_right,Int.emod_eq_of_lt (by omega) (by omega)]
     rw [this] at z
     omega
   rw [hc]
   obtain ⟨x,hx⟩ : ∃ y,hs[a]? = some y:=⟨hs[a]'(by omega),by simp⟩
   obtain ⟨y,hy⟩ : ∃ y,hs[c]? = some y:=⟨hs[c]'(by omega),by simp⟩
   have hxm:=by3 hx
   have hym:=by3 hy
   have hxy : x ≠ y:=by
    intro z
    subst z
    obtain ⟨l1,e1⟩:=ay0.mp hx
    obtain ⟨l2,e2⟩:=ay0.mp hy
    exact hne ((py0 hh.nd).mp (e1.trans e2.symm))
   refine za3 (zc5 (i:=12) zR4 rfl (Or.inl rfl) (zw9 (za4 (zb9 (by intro _ _; rfl) (bv 1 rfl (bv 10 rfl (zu1 (d:=.str x) (zb2 (by simp [hx])) (za4 (zb9 (by intro _ _; rfl) (bv 1 rfl (bv 11 rfl (zu1 (d:=.str y) (zb2 (by simp [hy])) (za1 (zb9 (by intro _ _; rfl) (bv 3 rfl (zb0 N (hr.mono (by decide)) rfl DT.at_ DT.fn.kp DT.bd (za4 (bv 0 rfl (za1 (za2 ⟨p,6,rfl,(pw4.at hpl).app,by decide,by decide,fun r W5 d0 d1 pw5=>?_⟩))))))))))))))))))))
   obtain ⟨W5,rfl,qw5⟩:=pw5.app (by rw [hl4]; exact hpl)
   have pw5:=pw4.trans qw5
   have hl5:=pw5.len
   obtain ⟨c',rfl⟩ : ∃ n : Nat,r = n:=⟨r.toNat,by omega⟩
   obtain ⟨z,hz⟩ : ∃ z,wdsT[c']? = some z:=⟨wdsT[c']'(by show c' < 6; omega),ay7 _⟩
   have lok : Lt.Ok ⟨x,y,z⟩:=⟨hh.nm x hxm,hh.nm y hym,zc32 z (by3 hz),hxy⟩
   refine zu1 (d:=.str z) (zb2 (by rw [ay4,hz]; rfl)) ⟨[.str x,.str y,.str z],rfl,(by show 3 <= by0; decide),?_⟩
   refine za3 (ze6 (zg6 cy0 ey3 ey4 (bv 5 rfl ⟨.inl ⟨rfl,_,(gLr hl5).1⟩,za1 (zf1 (zw9 (za1 (ze4 ⟨[.str "send"],rfl,(by show 1 <= by0; decide),bv 12 rfl (zz3 (by show 1 + 3 <= by0; decide) (zd7 (gLr hl5).1 (by1 (show _ < 100 by simp [zb4]; omega) (za8 (by decide))) ?_))⟩))))⟩)))
   rw [(sLr hl5).1]
   refine za3 (ze6 (zg6 cy0 ey3 ey4 (bv 6 rfl ⟨.inl ⟨rfl,_,(gLr hl5).2⟩,za1 (bv 12 rfl (zd7 (gLr hl5).2 (by1 (show _ < 100 by simp [zb4]; omega) (za8 (by decide))) ?_))⟩)))
   rw [(sLr hl5).2]
   refine za9 (zc5 (i:=7) zR4 rfl (Or.inl rfl) (zf1 (bv 7 rfl (za2 (zh8 ?_)))))
   exact ⟨sent + 1,_,_,_,_,_,W5,ds++[(⟨false,x,y,z⟩ : za6)],ls++[(⟨x,y,z⟩ : Lt)],rfl,zb08 W5 ds ⟨false,x,y,z⟩ ls ⟨x,y,z⟩,pw5,tl.send (l:=⟨x,y,z⟩) lok,by simp; omega,by omega,by simp [hdl]⟩
  | false =>
   have hne:=za15 (hb2 rfl)
   have hpos:=List.length_pos_iff.mpr hne
   refine zf7 (za3 (zc5 (i:=12) zR4 rfl (Or.inl rfl) (zb9 (by intro _ _; rfl) (bv 9 rfl (zb0 N (hr.mono (by decide)) rfl DT.at_ DT.fn.kp DT.bd (za4 (bv 0 rfl (za1 (zb7 rfl T.len_ zj0 (za1 (bv 9 rfl (zr0 (.inl rfl) ⟨p,_,rfl,(pw2.at hpl).app,?_,?_,fun r W3 b0 b1 pw3=>?_⟩))))))))))))
   ·rw [ay3]; omega
   ·rw [ay3]; omega
   rw [ay3] at b1
   obtain ⟨W3,rfl,qw3⟩:=pw3.app (by rw [hl2]; exact hpl)
   have pz3:=pw2.trans qw3
   have hl3:=pz3.len
   obtain ⟨c,rfl⟩ : ∃ n : Nat,r = n:=⟨r.toNat,by omega⟩
   obtain ⟨l,hlc⟩ : ∃ l,(zc8 ls)[c]? = some l:=⟨(zc8 ls)[c]'(by omega),by simp⟩
   have hlm:=by3 hlc
   obtain ⟨pre,post,el,hpre⟩:=(zl0 _ ls rfl).1 l hlm
   have lok:=fok l hlm
   refine zu1 (d:=lP l) (zb2 (by rw [ay4,hlc]; rfl)) ?_
   refine za3 (ze6 (zg6 cy0 ey3 ey4 (bv 5 rfl ⟨.inl ⟨rfl,_,(gLr hl3).1⟩,za1 (zf1 (zw9 (za1 (ze4 ⟨[.str "take"],rfl,(by show 1 <= by0; decide),bv 12 rfl (zz3 (by show 1 + 3 <= by0; decide) (zd7 (gLr hl3).1 (by1 (show _ < 100 by simp [zb4]; omega) (za8 (by decide))) ?_))⟩))))⟩)))
   rw [(sLr hl3).1]
   refine za9 (ze6 (zg6 cy0 PySem.F.slot_list_remove PySem.F.type_list_remove (bv 6 rfl ⟨.inl ⟨rfl,_,(gLr hl3).2⟩,za1 (bv 12 rfl (zE4 (m:=pre.length) (zf3 hr) (gLr hl3).2 (zF1 tl.lo) (za19 lok) (by rw [el]; exact za20 hpre) (by rw [ay3]; exact za8 (by omega)) ?_))⟩)))
   rw [(sLr hl3).2]
   subst el
   have er : ((pre++l :: post).map lP).eraseIdx pre.length = (pre++post).map lP:=by
    rw [fy1,fy4,List.eraseIdx_append_of_length_le (by simp)]
    simp
   rw [er]
   refine ⟨sent,_,_,_,_,_,W3,ds++[(⟨true,l.x,l.y,l.w⟩ : za6)],pre++post,rfl,zb09 W3 ds ⟨true,l.x,l.y,l.w⟩ (pre++post),pz3,tl.take hpre,?_,hsm,by simp [hdl]⟩
   simp at hcnt ⊢
   omega
 ·rintro S' W' ⟨sent,o8,o9,oa,ob,oc,W1,ds,ls,rfl,rfl,pw1,tl,hcnt,hsm,hdl⟩
  rw [zh3,show ((2 : Int) * (many : Int)).toNat = 2 * many by omega] at hcnt hdl
  have hls : ls = []:=oy6.mp (by omega)
  subst hls
  refine za9 (zl4 (zp6 rfl T.tuple_ zk2 (za1 (bv 5 rfl (zz5 (.inr ⟨_,rfl,(gLr pw1.len).1⟩) ⟨_,W1,[_,_],rfl,rfl,pw1.len.symm,pw1.closed hcl,hk ds W1 ⟨tl.ok,tl.go,by omega,fun x y=>by rw [tl.ws]; rfl⟩ pw1⟩)))))
end
def handOf (d : za6) : Str:=if d.tk then d.y else d.x
def numsOf (ds : List za6) (i : Nat) (p : za6->Bool) : List Nat:=(ey5 i).filter fun k=>match ds[k]? with | some d=>p d | none=>false
theorem zn5 {ds : List za6} {i : Nat} {d : za6} (h : ds[i]? = some d) (p : za6->Bool) : numsOf ds (i + 1) p = numsOf ds i p++if p d = true then [i] else []:=by
 unfold numsOf
 rw [List.range_succ,gy5]
 congr 1
 simp only [ky2,List.filter_nil,h]
theorem zL6 {ds : List za6} {i k : Nat} {p : za6->Bool} : k∈numsOf ds i p ↔ k < i /\ ∃ d,ds[k]? = some d /\ p d = true:=by
 unfold numsOf
 rw [jy8,my0]
 cases ds[k]? with
 | none=>simp
 | some d=>simp
theorem zv7 {ds : List za6} {i : Nat} {p : za6->Bool} (h : ∀ k d,k < i->ds[k]? = some d->p d = false) : numsOf ds i p = []:=by
 rw [List.eq_nil_iff_forall_not_mem]
 intro k hk
 obtain ⟨h1,d,h2,h3⟩:=zL6.mp hk
 rw [h k d h1 h2] at h3
 cases h3
theorem zj4 (ds : List za6) (i : Nat) (p : za6->Bool) : (numsOf ds i p).length <= i:=by
 have:=qy2 (fun k=>match ds[k]? with | some d=>p d | none=>false) (ey5 i)
 rw [oy3] at this
 exact this
def ze7 (h : Str) (d : za6) : Bool:=decide (handOf d = h)
def zd9 (xy : Str × Str) (d : za6) : Bool:=!d.tk && decide ((d.x,d.y) = xy)
def zc6 (xy : Str × Str) (d : za6) : Bool:=d.tk && decide ((d.x,d.y) = xy)
def za7 (ns : List Nat) : List PyData:=ns.map fun (n : Nat)=>PyData.int n
def ln (ns : List Nat) : OD:=.lst (zb4 (za7 ns))
theorem zo9 (ns : List Nat) (i : Nat) : OD.lst (zb4 (za7 ns)++[El.d (.int i)]) = ln (ns++[i]):=by simp [ln,za7,zb4]
abbrev VE:=Str × Nat
abbrev LE:=(Str × Str) × Nat × Nat
abbrev kvV (e : VE) : Key × El:=(.inr e.1,.o e.2)
abbrev kvL (e : LE) : List Key × El:=([.inr e.1.1,.inr e.1.2],.t [.inr e.2.1,.inr e.2.2])
structure VN (ds : List za6) (W : Wl) (q : Nat) (Vs : List VE) (i : Nat) : Prop where
 at_ : W[q]? = some (.dK (Vs.map kvV))
 obj : ∀ e∈Vs,W[e.2]? = some (ln (numsOf ds i (ze7 e.1)))
 nd : (Vs.map (·.1)).Nodup
 all : ∀ k d,k < i->ds[k]? = some d->handOf d∈Vs.map (·.1)
structure LN (ds : List za6) (W : Wl) (q : Nat) (Ls : List LE) (i : Nat) : Prop where
 at_ : W[q]? = some (.dT (Ls.map kvL))
 obj : ∀ e∈Ls,W[e.2.1]? = some (ln (numsOf ds i (zd9 e.1))) /\ W[e.2.2]? = some (ln (numsOf ds i (zc6 e.1)))
 nd : (Ls.map (·.1)).Nodup
 all : ∀ k d,k < i->ds[k]? = some d->(d.x,d.y)∈Ls.map (·.1)
structure Ap (q r n : Nat) (Vs : List VE) (Ls : List LE) : Prop where
 qr : q ≠ r /\ q < n /\ r < n
 v : ∀ e∈Vs,e.2 ≠ q /\ e.2 ≠ r /\ e.2 < n
 vv : (Vs.map (·.2)).Nodup
 vl : ∀ e∈Vs,∀ l∈Ls,e.2 ≠ l.2.1 /\ e.2 ≠ l.2.2
 l : ∀ l∈Ls,(l.2.1 ≠ q /\ l.2.1 ≠ r /\ l.2.1 < n) /\ l.2.2 ≠ q /\ l.2.2 ≠ r /\ l.2.2 < n
 ll : ∀ l∈Ls,∀ m∈Ls,(l.2.1 = m.2.1->l = m) /\ (l.2.2 = m.2.2->l = m) /\ l.2.1 ≠ m.2.2
theorem VN.frame {ds : List za6} {W W' : Wl} {q i : Nat} {Vs : List VE} (h : VN ds W q Vs i) (hq : W'[q]? = W[q]?) (ho : ∀ e∈Vs,W'[e.2]? = W[e.2]?) : VN ds W' q Vs i:=⟨hq.trans h.at_,fun e he=>(ho e he).trans (h.obj e he),h.nd,h.all⟩
theorem LN.frame {ds : List za6} {W W' : Wl} {q i : Nat} {Ls : List LE} (h : LN ds W q Ls i) (hq : W'[q]? = W[q]?) (ho : ∀ e∈Ls,W'[e.2.1]? = W[e.2.1]? /\ W'[e.2.2]? = W[e.2.2]?) : LN ds W' q Ls i:=⟨hq.trans h.at_,fun e he=>⟨(ho e he).1.trans (h.obj e he).1,(ho e he).2.trans (h.obj e he).2⟩,h.nd,h.all⟩
theorem Ap.up {q r n n' : Nat} {Vs : List VE} {Ls : List LE} (h : Ap q r n Vs Ls) (hn : n <= n') : Ap q r n' Vs Ls :=
 ⟨⟨h.qr.1,by have:=h.qr; omega,by have:=h.qr; omega⟩,fun e he=>⟨(h.v e he).1,(h.v e he).2.1,by have:=(h.v e he).2.2; omega⟩,h.vv,h.vl,fun l hl=>⟨⟨(h.l l hl).1.1,(h.l l hl).1.2.1,by have:=(h.l l hl).1.2.2; omega⟩,(h.l l hl).2.1,(h.l l hl).2.2.1,by have:=(h.l l hl).2.2.2; omega⟩,h.ll⟩
theorem Ap.newV {q r n : Nat} {Vs : List VE} {Ls : List LE} (h : Ap q r n Vs Ls) (x : Str) : Ap q r (n + 1) (Vs++[(x,n)]) Ls:=by
 have u:=h.up (sy6 n)
 have hqr:=h.qr
 refine ⟨u.qr,fun e he=>?_,?_,fun e he l hl=>?_,u.l,h.ll⟩
 ·rcases by9.mp he with he | he
  ·exact u.v e he
  ·cases cy9.mp he
   exact ⟨by show n ≠ q; omega,by show n ≠ r; omega,my7 n⟩
 ·rw [fy1]
  refine zo5 h.vv fun z=>?_
  obtain ⟨e,he,e1⟩:=dy6.mp z
  have e1 : e.2 = n:=e1
  have:=(h.v e he).2.2
  omega
 ·have hl':=h.l l hl
  rcases by9.mp he with he | he
  ·exact h.vl e he l hl
  ·cases cy9.mp he
   exact ⟨by show n ≠ l.2.1; omega,by show n ≠ l.2.2; omega⟩
theorem Ap.newL {q r n : Nat} {Vs : List VE} {Ls : List LE} (h : Ap q r n Vs Ls) (xy : Str × Str) : Ap q r (n + 2) Vs (Ls++[(xy,n,n + 1)]):=by
 have u:=h.up (n':=n + 2) (by omega)
 have hqr:=h.qr
 refine ⟨u.qr,u.v,h.vv,fun e he l hl=>?_,fun l hl=>?_,fun l hl m hm=>?_⟩
 ·have hv:=h.v e he
  rcases by9.mp hl with hl | hl
  ·exact h.vl e he l hl
  ·cases cy9.mp hl
   exact ⟨by show e.2 ≠ n; omega,by show e.2 ≠ n + 1; omega⟩
 ·rcases by9.mp hl with hl | hl
  ·exact u.l l hl
  ·cases cy9.mp hl
   exact ⟨⟨by show n ≠ q; omega,by show n ≠ r; omega,by show n < n + 2; omega⟩,by show n + 1 ≠ q; omega,by show n + 1 ≠ r; omega,by show n + 1 < n + 2; omega⟩
 ·rcases by9.mp hl with hl | hl <;> rcases by9.mp hm with hm | hm
  ·exact h.ll l hl m hm
  ·cases cy9.mp hm
   have:=h.l l hl
   exact ⟨fun z=>by have z : l.2.1 = n:=z; omega,fun z=>by have z : l.2.2 = n + 1:=z; omega,by show l.2.1 ≠ n + 1; omega⟩
  ·cases cy9.mp hl
   have:=h.l m hm
   exact ⟨fun z=>by have z : n = m.2.1:=z; omega,fun z=>by have z : n + 1 = m.2.2:=z; omega,by show n ≠ m.2.2; omega⟩
  ·cases cy9.mp hl
   cases cy9.mp hm
   exact ⟨fun _=>rfl,fun _=>rfl,by show n ≠ n + 1; omega⟩
theorem zd8 {W : Wl} {i j : Nat} {o : OD} (h : j ≠ i) : (W.set i o)[j]? = W[j]?:=by rw [ey6 (iy5 h)]
theorem zh9 {W V : Wl} {i : Nat} (h : i < W.length) : (W++V)[i]? = W[i]?:=ay8 h
/-- a number is put down behind its hand -/
theorem VN.old {ds : List za6} {W : Wl} {q i : Nat} {Vs : List VE} {d : za6} (h : VN ds W q Vs i) (hv : ∀ e∈Vs,e.2 ≠ q) (vv : (Vs.map (·.2)).Nodup) (hd : ds[i]? = some d) {e : VE} (he : e∈Vs) (hh : e.1 = handOf d) : VN ds (W.set e.2 (ln (numsOf ds i (ze7 e.1)++[i]))) q Vs (i + 1):=by
 refine ⟨?_,fun a ha=>?_,h.nd,fun k c hk hc=>?_⟩
 ·rw [zd8 (iy5 (hv e he))]
  exact h.at_
 ·rw [zn5 hd]
  by_cases e1 : a.1 = e.1
  ·obtain rfl:=zL0 h.nd ha he e1
   rw [dy3 (ay0.mp (h.obj a ha)).1,if_pos (by simp [ze7,hh])]
  ·have : a.2 ≠ e.2:=fun z=>e1 (by rw [zL0 vv ha he z])
   rw [zd8 this,h.obj a ha,if_neg (by simp [ze7]; rw [<- hh]; exact fun z=>e1 z.symm),hy4]
 ·by_cases hki : k = i
  ·subst hki
   rw [hd] at hc
   cases hc
   rw [<- hh]
   exact dy6.mpr ⟨e,he,rfl⟩
  ·exact h.all k c (by omega) hc
theorem VN.new {ds : List za6} {W : Wl} {q i : Nat} {Vs : List VE} {d : za6} (h : VN ds W q Vs i) (hv : ∀ e∈Vs,e.2 ≠ q) (hd : ds[i]? = some d) (hn : handOf d ∉ Vs.map (·.1)) : VN ds (((W++[OD.lst []]).set q (.dK ((Vs++[(handOf d,W.length)]).map kvV))).set W.length (ln [i])) q (Vs++[(handOf d,W.length)]) (i + 1):=by
 have hq:=(ay0.mp h.at_).1
 refine ⟨?_,fun a ha=>?_,?_,fun k c hk hc=>?_⟩
 ·rw [zd8 (cy7 hq),dy3 (by simp; omega)]
 ·rw [zn5 hd]
  rcases by9.mp ha with ha | ha
  ·have hal:=(ay0.mp (h.obj a ha)).1
   have hne : ¬ handOf d = a.1:=fun z=>hn (by rw [z]; exact dy6.mpr ⟨a,ha,rfl⟩)
   rw [zd8 (cy7 hal),zd8 (hv a ha),zh9 hal,h.obj a ha,if_neg (by simp [ze7,hne]),hy4]
  ·cases cy9.mp ha
   rw [dy3 (by simp),if_pos (by simp [ze7]),zv7 fun k c hk hc=>?_]
   ·rfl
   ·show decide (handOf c = handOf d) = false
    exact decide_eq_false fun z=>hn (by rw [<- z]; exact h.all k c hk hc)
 ·rw [fy1]
  exact zo5 h.nd hn
 ·rw [fy1]
  by_cases hki : k = i
  ·subst hki
   rw [hd] at hc
   cases hc
   simp
  ·exact fy6 _ (h.all k c (by omega) hc)
/-- the place of a number among a pair's -/
def slot (d : za6) (e : LE) : Nat:=if d.tk then e.2.2 else e.2.1
def zw3 (d : za6) (xy : Str × Str) : za6->Bool:=if d.tk then zc6 xy else zd9 xy
theorem LN.old {ds : List za6} {W : Wl} {q i : Nat} {Ls : List LE} {d : za6} (h : LN ds W q Ls i) (hq : ∀ l∈Ls,l.2.1 ≠ q /\ l.2.2 ≠ q) (ll : ∀ l∈Ls,∀ m∈Ls,(l.2.1 = m.2.1->l = m) /\ (l.2.2 = m.2.2->l = m) /\ l.2.1 ≠ m.2.2) (hd : ds[i]? = some d) {e : LE} (he : e∈Ls) (hh : e.1 = (d.x,d.y)) :
  LN ds (W.set (slot d e) (ln (numsOf ds i (zw3 d e.1)++[i]))) q Ls (i + 1):=by
 have hsq : slot d e ≠ q:=by unfold slot; split; exact (hq e he).2; exact (hq e he).1
 have l1:=(ay0.mp (h.obj e he).1).1
 have l2:=(ay0.mp (h.obj e he).2).1
 refine ⟨?_,fun a ha=>?_,h.nd,fun k c hk hc=>?_⟩
 ·rw [zd8 (iy5 hsq)]
  exact h.at_
 ·rw [zn5 hd,zn5 hd]
  obtain ⟨o1,o2⟩:=h.obj a ha
  by_cases e1 : a.1 = e.1
  ·obtain rfl:=zL0 h.nd ha he e1
   unfold slot zw3
   cases htk : d.tk with
   | false =>
    simp only [ny2,if_false]
    rw [dy3 l1,zd8 (iy5 (ll a ha a ha).2.2),o2,if_pos (by simp [zd9,htk,hh]),if_neg (by simp [zc6,htk]),hy4]
    exact ⟨rfl,rfl⟩
   | true =>
    simp only [if_true]
    rw [zd8 (ll a ha a ha).2.2,dy3 l2,o1,if_neg (by simp [zd9,htk]),if_pos (by simp [zc6,htk,hh]),hy4]
    exact ⟨rfl,rfl⟩
  ·have n1 : a.2.1 ≠ slot d e:=by
    unfold slot
    split
    ·exact (ll a ha e he).2.2
    ·exact fun z=>e1 (by rw [(ll a ha e he).1 z])
   have n2 : a.2.2 ≠ slot d e:=by
    unfold slot
    split
    ·exact fun z=>e1 (by rw [(ll a ha e he).2.1 z])
    ·exact fun z=>(ll e he a ha).2.2 z.symm
   have hne : ¬ (d.x,d.y) = a.1:=fun z=>e1 (by rw [hh,z])
   rw [zd8 n1,zd8 n2,o1,o2,if_neg (by simp only [zd9,decide_eq_false hne,Bool.and_false]; decide),if_neg (by simp only [zc6,decide_eq_false hne,Bool.and_false]; decide),hy4,hy4]
   exact ⟨rfl,rfl⟩
 ·by_cases hki : k = i
  ·subst hki
   rw [hd] at hc
   cases hc
   rw [<- hh]
   exact dy6.mpr ⟨e,he,rfl⟩
  ·exact h.all k c (by omega) hc
/-- a new pair,nothing put down yet -/
theorem LN.fresh {ds : List za6} {W : Wl} {q i : Nat} {Ls : List LE} {xy : Str × Str} (h : LN ds W q Ls i) (hq : ∀ l∈Ls,l.2.1 ≠ q /\ l.2.2 ≠ q) (hn : xy ∉ Ls.map (·.1)) : LN ds ((W++[OD.lst [],OD.lst []]).set q (.dT ((Ls++[(xy,W.length,W.length + 1)]).map kvL))) q (Ls++[(xy,W.length,W.length + 1)]) i:=by
 have hql:=(ay0.mp h.at_).1
 refine ⟨?_,fun a ha=>?_,?_,fun k c hk hc=>?_⟩
 ·rw [dy3 (by simp; omega)]
 ·rcases by9.mp ha with ha | ha
  ·obtain ⟨o1,o2⟩:=h.obj a ha
   rw [zd8 (hq a ha).1,zd8 (hq a ha).2,zh9 (ay0.mp o1).1,zh9 (ay0.mp o2).1]
   exact ⟨o1,o2⟩
  ·cases cy9.mp ha
   have none_ : ∀ k c,k < i->ds[k]? = some c->¬ (c.x,c.y) = xy:=fun k c hk hc z=>hn (by rw [<- z]; exact h.all k c hk hc)
   rw [zd8 (my1 hql),zd8 (by show W.length + 1 ≠ q; omega),zv7 fun k c hk hc=>?_,zv7 fun k c hk hc=>?_]
   ·exact ⟨by simp [ln,za7,zb4],by simp [ln,za7,zb4]⟩
   ·simp only [zc6,decide_eq_false (none_ k c hk hc),Bool.and_false]
   ·simp only [zd9,decide_eq_false (none_ k c hk hc),Bool.and_false]
 ·rw [fy1]
  exact zo5 h.nd hn
 ·rw [fy1]
  exact fy6 _ (h.all k c hk hc)
theorem zp0 {X : Bc} {n : Nat} {S : Sl} {W : Wl} {D : DB} {st : Stmt} {rest : List Stmt} (Q : Sl->Wl->Prop) (h : BS X n S W st { D with nx:=Q }) (h2 : ∀ S' W',Q S' W'->BSs X n S' W' rest D) : BSs X n S W (st :: rest) D :=
 za3 fun pins s σ H E I ⟨F,A,hn,x0,r,sr,q⟩=>h pins s σ H E I ⟨F,A,hn,x0,r,sr,⟨fun F' A' W' H' S' σ' x r' sr' z=>q.nx F' A' W' H' S' σ' x r' sr' (h2 S' W' z),q.bk,q.ct,q.rt⟩⟩
theorem zd68 (Vs : List VE) (x : Str) : valK (Vs.map kvV) (.inr x) = (Vs.find? fun e=>decide (e.1 = x)).map fun e=>El.o e.2:=by
 unfold valK
 rw [List.find?_map,Option.map_map]
 congr 1
 refine congrArg (fun p=>List.find? p Vs) (funext fun e=>?_)
 simp
theorem zd69 (Ls : List LE) (x y : Str) : zP0 (Ls.map kvL) [.inr x,.inr y] = (Ls.find? fun e=>decide (e.1 = (x,y))).map fun e=>El.t [.inr e.2.1,.inr e.2.2]:=by
 unfold zP0
 rw [List.find?_map,Option.map_map]
 congr 1
 refine congrArg (fun p=>List.find? p Ls) (funext fun e=>?_)
 obtain ⟨⟨a,b⟩,c⟩:=e
 simp
section
variable {P : dy7} {w : World} {K : ay2} {mg : Str->Option Value} {base : Heap}
theorem zc35 {k : Nat} {A : Around} (r : zt1 k A) : A.units + 64 < cLine:=by have:=r.un; omega
theorem zF3 : ¬ ("take" : Str) = "send" := by decide +kernel
def zc36 : RB:=fun as W k=>∃ d : za6,as = [.d (dP d)] /\ k (.d (.str (handOf d))) W
theorem scHo : zc0 ["deed"] ["deed"] (za0 zk0):=⟨rfl,rfl,rfl,by decide +kernel,rfl,by decide +kernel,by decide +kernel⟩
theorem za21 {f : Addr} {fd : ey8} (F : Fun K "hand_of" "hand_of" zk0 f fd) : zj8 P w K mg base CX0 1 f fd ["deed"] (spB K zc36):=by
 refine zp7 F scHo (fun as W k ⟨d,e,_⟩=>by subst e; rfl) fun cdv A outer s H E hr F0 A0 as W k hcl ⟨d,e,hk⟩=>?_
 subst e
 obtain ⟨tk,x,y,z⟩:=d
 refine za9 (ze2 (zd15 (zc2 rfl (zb9 (by intro _ _; rfl) (bv 0 rfl (za2 (zb5 (d:=.str (za6.kd ⟨tk,x,y,z⟩)) rfl (ze4 (zf9 ⟨_,rfl,?_⟩)))))))))
 cases tk with
 | false =>
  rw [decide_eq_true (show za6.kd ⟨false,x,y,z⟩ = "send" from rfl)]
  exact zl2 (zb9 (by intro _ _; rfl) (bv 0 rfl (za2 (zb5 (d:=.str x) rfl hk))))
 | true =>
  rw [decide_eq_false (show ¬ za6.kd ⟨true,x,y,z⟩ = "send" from zF3)]
  exact zf7 (zb9 (by intro _ _; rfl) (bv 0 rfl (za2 (zb5 (d:=.str y) rfl hk))))
def zd70 : RB:=fun as W k=>∃ ds : List za6,as = [.d (rP ds)] /\ (∀ d∈ds,d.Ok) /\ ds.length <= 100 /\ ∀ (V : Wl) (Vs : List VE) (Ls : List LE),VN ds (W++V) W.length Vs ds.length->LN ds (W++V) (W.length + 1) Ls ds.length->Ap W.length (W.length + 1) (W++V).length Vs Ls->(∀ e∈Vs,W.length <= e.2)->(∀ l∈Ls,W.length <= l.2.1 /\ W.length <= l.2.2)->Vs.length <= ds.length->Ls.length <= ds.length->k (.t [.inr W.length,.inr (W.length + 1)]) (W++V)
abbrev nNb : List Str:=["story", "views", "letters", "number", "deed", "sent", "taken"]
theorem scNb : zc0 nNb ["story"] (za0 zq1):=⟨rfl,rfl,rfl,by decide +kernel,rfl,by decide +kernel,by decide +kernel⟩
theorem ndNb : nNb.Nodup:=by decide +kernel
abbrev iNb (ds : List za6) (W : Wl) : Nat->Sl->Wl->Prop:=fun i S' W'=>∃ (o3 o4 o5 o6 : Option El) (V : Wl) (Vs : List VE) (Ls : List LE),S' = [some (.d (rP ds)),some (.o W.length),some (.o (W.length + 1)),o3,o4,o5,o6] /\ W' = W++V /\ VN ds (W++V) W.length Vs i /\ LN ds (W++V) (W.length + 1) Ls i /\ Ap W.length (W.length + 1) (W++V).length Vs Ls /\ (∀ e∈Vs,W.length <= e.2) /\ (∀ l∈Ls,W.length <= l.2.1 /\ W.length <= l.2.2) /\ Vs.length <= i /\ Ls.length <= i
theorem VN.app {ds : List za6} {W V : Wl} {q i : Nat} {Vs : List VE} (h : VN ds W q Vs i) : VN ds (W++V) q Vs i:=h.frame (zh9 (ay0.mp h.at_).1) fun e he=>zh9 (ay0.mp (h.obj e he)).1
theorem LN.app {ds : List za6} {W V : Wl} {q i : Nat} {Ls : List LE} (h : LN ds W q Ls i) : LN ds (W++V) q Ls i:=h.frame (zh9 (ay0.mp h.at_).1) fun e he=>⟨zh9 (ay0.mp (h.obj e he).1).1,zh9 (ay0.mp (h.obj e he).2).1⟩
theorem set_drop {W V : Wl} {q : Nat} {o : OD} (h : W.length <= q) : (W++V).set q o = W++V.set (q - W.length) o:=List.set_append_right _ _ h
set_option maxHeartbeats 1000000 in
theorem zb11 {f fH : Addr} {fd dH : ey8} (F : Fun K "numbers_by" "numbers_by" zq1 f fd) (T : Txt mg) (DH : Def K mg "hand_of" zk0 fH dH ["deed"]) : zj8 P w K mg base CX0 2 f fd ["story"] (spB K zd70):=by
 have NH:=@za21 P w K mg base _ _ DH.fn
 refine zp7 F scNb (fun as W k ⟨ds,e,_⟩=>by subst e; rfl) fun cdv A outer s H E hr F0 A0 as W k hcl ⟨ds,e,hok,hl,hk⟩=>?_
 subst e
 refine za3 (zc5 (i:=1) ndNb rfl (Or.inl rfl) (za85 ?_))
 refine za3 (zc5 (i:=2) ndNb rfl (Or.inl rfl) (zK4 ?_))
 refine za3 (zX2 gy8 rfl rfl T.enum_ (za1 (bv 0 rfl ⟨ds.map dP,W.length,iNb ds W,rfl,ay5 _,by simp,⟨none,none,none,none,[.dK [],.dT []],[],[],by rw [cy5]; rfl,by simp,⟨by simp,by simp,by simp,fun k d h=>by omega⟩,⟨by simp,by simp,by simp,fun k d h=>by omega⟩,⟨⟨by omega,by simp,by simp⟩,by simp,by simp,by simp,by simp,by simp⟩,by simp,by simp,ay5 _,ay5 _⟩,?_,?_⟩)))
 ·rintro i z S' W' hz ⟨o3,o4,o5,o6,V,Vs,Ls,rfl,rfl,hv,hL,ap,bv',bl',lv,ll⟩
  rw [ay4] at hz
  obtain ⟨d,hd,rfl⟩:=fy0.mp hz
  have hi:=(ay0.mp hd).1
  have hdk:=hok d (by3 hd)
  refine zs0 rfl (.cons (i:=3) ndNb rfl (Or.inl rfl) (.cons (i:=4) ndNb rfl (Or.inl rfl) .nil)) rfl ?_
  refine zp0 (fun S' W'=>∃ (V : Wl) (Vs : List VE),S' = [some (.d (rP ds)),some (.o W.length),some (.o (W.length + 1)),some (.d (.int i)),some (.d (dP d)),o5,o6] /\ W' = W++V /\ VN ds (W++V) W.length Vs (i + 1) /\ LN ds (W++V) (W.length + 1) Ls i /\ Ap W.length (W.length + 1) (W++V).length Vs Ls /\ (∀ e∈Vs,W.length <= e.2) /\ Vs.length <= i + 1) (ze6 (zg6 cy0 ey3 ey4 (zg6 jy9 jy6 py8 (bv 1 rfl ⟨.inr ⟨rfl,.inl ⟨_,hv.at_⟩⟩,za4 (zb0 NH (hr.mono (by decide)) rfl DH.at_ DH.fn.kp DH.bd (za1 (bv 4 rfl ⟨d,rfl,za1 (zg8 (zk5 ⟨dy8 _,zQ1 (by rw [zh9 (ay0.mp hv.at_).1]; exact hv.at_) (fun e he=>?_) (fun he=>?_)⟩))⟩)))⟩)))) ?_
  ·rw [zd68] at he
   obtain ⟨e1,he1,rfl⟩:=fy0.mp he
   have hm:=List.mem_of_find?_eq_some he1
   have hh : e1.1 = handOf d:=by simpa using List.find?_some he1
   have hv1:=VN.app (V:=[OD.lst []]) hv
   have hg:=hv1.obj e1 hm
   refine ⟨.inl ⟨rfl,_,hg⟩,za1 (bv 3 rfl (zd7 hg (by1 (show _ < 200 by have:=zj4 ds i (ze7 e1.1); simp [zb4,za7]; omega) (za8 (by decide))) ?_))⟩
   rw [zo9]
   have h1:=hv1.old (fun e he=>(ap.v e he).1) ap.vv hd hm hh
   have h2:=(LN.app (V:=[OD.lst []]) hL).frame (W':=(W++V++[OD.lst []]).set e1.2 (ln (numsOf ds i (ze7 e1.1)++[i]))) (zd8 (iy5 (ap.v e1 hm).2.1)) (fun l hl=>⟨zd8 (iy5 (ap.vl e1 hm l hl).1),zd8 (iy5 (ap.vl e1 hm l hl).2)⟩)
   have h3 : Ap W.length (W.length + 1) ((W++V++[OD.lst []]).set e1.2 (ln (numsOf ds i (ze7 e1.1)++[i]))).length Vs Ls:=ap.up (by simp)
   rw [fy5,set_drop (bv' e1 hm)] at h1 h2 h3 ⊢
   exact ⟨_,Vs,rfl,rfl,h1,h2,h3,bv',by omega⟩
  ·rw [zd68] at he
   have hn : handOf d ∉ Vs.map (·.1):=fun z=>by
    obtain ⟨e1,hm,e2⟩:=dy6.mp z
    rw [Option.map_eq_none_iff] at he
    have:=List.find?_eq_none.mp he e1 hm
    exact this (decide_eq_true e2)
   refine ⟨by1 (show _ < 200 by rw [ay3]; omega) (za8 (by decide)),?_⟩
   have hnp : ∀ p∈Vs.map kvV,p.1 ≠ (Sum.inr (handOf d) : Key):=fun p hp z=>by
    obtain ⟨e1,hm,rfl⟩:=dy6.mp hp
    exact hn (dy6.mpr ⟨e1,hm,Sum.inr.inj z⟩)
   rw [za91 hnp]
   have ek : Vs.map kvV++[((Sum.inr (handOf d) : Key),El.o (W++V).length)] = (Vs++[(handOf d,(W++V).length)]).map kvV:=by simp
   rw [ek]
   have hq:=(ay0.mp hv.at_).1
   have hg : ((W++V++[OD.lst []]).set W.length (.dK ((Vs++[(handOf d,(W++V).length)]).map kvV)))[(W++V).length]? = some (.lst []):=by rw [zd8 (my1 hq)]; exact zc9
   refine ⟨.inl ⟨rfl,_,hg⟩,za1 (bv 3 rfl (zd7 hg (by1 (show _ < 200 by simp) (za8 (by decide))) ?_))⟩
   have e0 : OD.lst ([]++[El.d (.int i)]) = ln [i]:=by simp [ln,za7,zb4]
   rw [e0]
   have h1:=hv.new (fun e he=>(ap.v e he).1) hd hn
   have h2:=(LN.app (V:=[OD.lst []]) hL).frame (W':=((W++V++[OD.lst []]).set W.length (.dK ((Vs++[(handOf d,(W++V).length)]).map kvV))).set (W++V).length (ln [i])) (by rw [zd8 (cy7 (ay0.mp hL.at_).1),zd8 (by omega)]) (fun l hl=>⟨by rw [zd8 (cy7 (ap.l l hl).1.2.2),zd8 (ap.l l hl).1.1],by rw [zd8 (cy7 (ap.l l hl).2.2.2),zd8 (ap.l l hl).2.1]⟩)
   have h3 : Ap W.length (W.length + 1) (((W++V++[OD.lst []]).set W.length (.dK ((Vs++[(handOf d,(W++V).length)]).map kvV))).set (W++V).length (ln [i])).length (Vs++[(handOf d,(W++V).length)]) Ls:=by
    rw [ky8,ky8,cy5 (as:=W++V)]
    exact ap.newV _
   generalize hF : ((W++V++[OD.lst []]).set W.length (.dK ((Vs++[(handOf d,(W++V).length)]).map kvV))).set (W++V).length (ln [i]) = U at h1 h2 h3 ⊢
   obtain ⟨V2,rfl⟩ : ∃ V2,U = W++V2:=by
    rw [fy5,set_drop (ay5 _),set_drop (by simp)] at hF
    exact ⟨_,hF.symm⟩
   have h4 : ∀ e∈Vs++[(handOf d,(W++V).length)],W.length <= e.2:=fun e he=>by
    rcases by9.mp he with he | he
    ·exact bv' e he
    ·cases cy9.mp he
     show W.length <= (W++V).length
     simp
   exact ⟨_,_,rfl,rfl,h1,h2,h3,h4,by simp; omega⟩
  ·rintro S' W' ⟨V,Vs,rfl,rfl,hv,hL,ap,bv',lv⟩
   refine zp0 (fun S' W'=>∃ (V : Wl) (Ls : List LE) (l : LE),S' = [some (.d (rP ds)),some (.o W.length),some (.o (W.length + 1)),some (.d (.int i)),some (.d (dP d)),some (.o l.2.1),some (.o l.2.2)] /\ W' = W++V /\ l∈Ls /\ l.1 = (d.x,d.y) /\ VN ds (W++V) W.length Vs (i + 1) /\ LN ds (W++V) (W.length + 1) Ls i /\ Ap W.length (W.length + 1) (W++V).length Vs Ls /\ (∀ l∈Ls,W.length <= l.2.1 /\ W.length <= l.2.2) /\ Ls.length <= i + 1) (zx2 (zg6 jy9 jy6 py8 (bv 2 rfl ⟨.inr ⟨rfl,.inr ⟨_,hL.at_⟩⟩,za4 (zc7 (bv 4 rfl (zb8 (za2 ⟨1,rfl,zb8 (za2 ⟨3,rfl,zc11 (ks:=[.inr d.x,.inr d.y]) rfl (by show 2 < 4; decide) ?_⟩)⟩))))⟩))) ?_
   ·have hL1:=LN.app (V:=[OD.lst [],OD.lst []]) hL
    have hv1:=VN.app (V:=[OD.lst [],OD.lst []]) hv
    refine za1 (zX8 (za4 (zg8 (zk5 ⟨dy8 _,za1 (zg8 (zk5 ⟨dy8 _,⟨[.inr (W++V).length,.inr (W++V++[OD.lst []]).length],rfl,(by show 2 <= by0; decide),?_⟩⟩))⟩))))
    rw [fy5 (W++V),cy5 (as:=W++V)]
    refine zx4 (zc35 hr) hL1.at_ (fun e he=>?_) (fun he=>?_)
    ·rw [zd69] at he
     obtain ⟨l,he1,rfl⟩:=fy0.mp he
     have hm:=List.mem_of_find?_eq_some he1
     have hh : l.1 = (d.x,d.y):=by simpa using List.find?_some he1
     refine zA7 rfl (.cons (i:=5) ndNb rfl (Or.inl rfl) (.cons (i:=6) ndNb rfl (Or.inl rfl) .nil)) rfl ?_
     rw [fy5] at hL1 hv1 ⊢
     exact ⟨_,Ls,l,rfl,rfl,hm,hh,hv1,hL1,ap.up (by simp),bl',by omega⟩
    ·rw [zd69,Option.map_eq_none_iff] at he
     have hn : (d.x,d.y) ∉ Ls.map (·.1):=fun z=>by
      obtain ⟨e1,hm,e2⟩:=dy6.mp z
      have:=List.find?_eq_none.mp he e1 hm
      exact this (decide_eq_true e2)
     refine ⟨by1 (show _ < 200 by rw [ay3]; omega) (za8 (by decide)),?_⟩
     refine zA7 rfl (.cons (i:=5) ndNb rfl (Or.inl rfl) (.cons (i:=6) ndNb rfl (Or.inl rfl) .nil)) rfl ?_
     have ek : Ls.map kvL++[(([.inr d.x,.inr d.y] : List Key),El.t [.inr (W++V).length,.inr ((W++V).length + [OD.lst []].length)])] = (Ls++[((d.x,d.y),(W++V).length,(W++V).length + 1)]).map kvL:=by simp
     rw [ek]
     have hq:=(ay0.mp hL.at_).1
     have h1:=hL.fresh (fun l hl=>⟨(ap.l l hl).1.2.1,(ap.l l hl).2.2.1⟩) hn
     have h2:=hv1.frame (W':=(W++V++[OD.lst [],OD.lst []]).set (W.length + 1) (.dT ((Ls++[((d.x,d.y),(W++V).length,(W++V).length + 1)]).map kvL))) (zd8 (by omega)) (fun e he=>zd8 (ap.v e he).2.1)
     have h3 : Ap W.length (W.length + 1) ((W++V++[OD.lst [],OD.lst []]).set (W.length + 1) (.dT ((Ls++[((d.x,d.y),(W++V).length,(W++V).length + 1)]).map kvL))).length Vs (Ls++[((d.x,d.y),(W++V).length,(W++V).length + 1)]):=by
      rw [ky8,cy5 (as:=W++V)]
      exact ap.newL _
     have h4 : ∀ l∈Ls++[((d.x,d.y),(W++V).length,(W++V).length + 1)],W.length <= l.2.1 /\ W.length <= l.2.2:=fun l hl=>by
      rcases by9.mp hl with hl | hl
      ·exact bl' l hl
      ·cases cy9.mp hl
       show W.length <= (W++V).length /\ W.length <= (W++V).length + 1
       simp
       omega
     generalize hF : (W++V++[OD.lst [],OD.lst []]).set (W.length + 1) (.dT ((Ls++[((d.x,d.y),(W++V).length,(W++V).length + 1)]).map kvL)) = U at h1 h2 h3
     have hF' : (W++V++([OD.lst []]++[OD.lst []])).set (W.length + 1) (.dT ((Ls++[((d.x,d.y),(W++V).length,(W++V).length + 1)]).map kvL)) = U:=hF
     rw [hF']
     obtain ⟨V2,rfl⟩ : ∃ V2,U = W++V2:=by
      rw [fy5,set_drop (by omega)] at hF
      exact ⟨_,hF.symm⟩
     exact ⟨_,_,((d.x,d.y),(W++V).length,(W++V).length + 1),rfl,rfl,by simp,rfl,h2,h1,h3,h4,by simp; omega⟩
   ·rintro S' W' ⟨V,Ls,l,rfl,rfl,hl1,hl2,hv,hL,ap,bl',ll⟩
    have h1:=hL.old (fun l hl=>⟨(ap.l l hl).1.2.1,(ap.l l hl).2.2.1⟩) ap.ll hd hl1 hl2
    have hs : W.length <= slot d l:=by unfold slot; split; exact (bl' l hl1).2; exact (bl' l hl1).1
    have hn:=zj4 ds i (zw3 d l.1)
    have h2 : VN ds ((W++V).set (slot d l) (ln (numsOf ds i (zw3 d l.1)++[i]))) W.length Vs (i + 1):=hv.frame (zd8 (by unfold slot; split; exact iy5 (ap.l l hl1).2.1; exact iy5 (ap.l l hl1).1.1)) (fun e he=>zd8 (by unfold slot; split; exact (ap.vl e he l hl1).2; exact (ap.vl e he l hl1).1))
    have h3 : Ap W.length (W.length + 1) ((W++V).set (slot d l) (ln (numsOf ds i (zw3 d l.1)++[i]))).length Vs Ls:=by rw [ky8]; exact ap
    have fin : ∀ (o5 o6 : Option El),iNb ds W (i + 1) [some (.d (rP ds)),some (.o W.length),some (.o (W.length + 1)),some (.d (.int i)),some (.d (dP d)),o5,o6] ((W++V).set (slot d l) (ln (numsOf ds i (zw3 d l.1)++[i]))):=fun o5 o6=>by
     rw [set_drop hs] at h1 h2 h3 ⊢
     exact ⟨_,_,_,_,_,Vs,Ls,rfl,rfl,h2,h1,h3,bv',bl',lv,ll⟩
    refine za9 (zf2 (zc2 rfl (zb9 (by intro _ _; rfl) (bv 4 rfl (za2 (zb5 (d:=.str d.kd) rfl (ze4 (zf9 ⟨_,rfl,?_⟩))))))))
    cases htk : d.tk with
    | false =>
     rw [decide_eq_true (show d.kd = "send" by unfold za6.kd; rw [htk]; rfl)]
     have hsl : slot d l = l.2.1:=by unfold slot; rw [htk]; rfl
     have hpp : zw3 d l.1 = zd9 l.1:=by unfold zw3; rw [htk]; rfl
     rw [hsl,hpp] at fin
     rw [hpp] at hn
     have hg:=(hL.obj l hl1).1
     refine zl2 (za9 (ze6 (zg6 cy0 ey3 ey4 (bv 5 rfl ⟨.inl ⟨rfl,_,hg⟩,za1 (bv 3 rfl (zd7 hg (by1 (show _ < 200 by simp [zb4,za7]; omega) (za8 (by decide))) ?_))⟩))))
     rw [zo9]
     exact fin _ _
    | true =>
     rw [decide_eq_false (show ¬ d.kd = "send" by unfold za6.kd; rw [htk]; exact zF3)]
     have hsl : slot d l = l.2.2:=by unfold slot; rw [htk]; rfl
     have hpp : zw3 d l.1 = zc6 l.1:=by unfold zw3; rw [htk]; rfl
     rw [hsl,hpp] at fin
     rw [hpp] at hn
     have hg:=(hL.obj l hl1).2
     refine zf7 (za9 (ze6 (zg6 cy0 ey3 ey4 (bv 6 rfl ⟨.inl ⟨rfl,_,hg⟩,za1 (bv 3 rfl (zd7 hg (by1 (show _ < 200 by simp [zb4,za7]; omega) (za8 (by decide))) ?_))⟩))))
     rw [zo9]
     exact fin _ _
 ·rintro S' W' ⟨o3,o4,o5,o6,V,Vs,Ls,rfl,rfl,hv,hL,ap,bv',bl',lv,ll⟩
  rw [ay3] at hv hL lv ll
  exact za9 (ze2 (zX8 (za4 (bv 1 rfl (za1 (bv 2 rfl ⟨[.inr W.length,.inr (W.length + 1)],rfl,(by show 2 <= by0; decide),hk V Vs Ls hv hL ap bv' bl' lv ll⟩))))))
end
end K1
namespace L2
open PySem PySem.Spec PyProof.Rows
/-- x = [elt for ..]: the list is changed later,or holds things that are -/
theorem zb12 {X : Bc} {n : Nat} {S : Sl} {W : Wl} {D : DB} {tg iter elt : Expr} {ifs : List Expr} {O Fv : List Str} {cap : List Nat} {scope : Scope} {pos : Pos} {i : Nat} {x : Str} {pos' spos : Pos} (hN : X.N.Nodup) (hix : X.N[i]? = some x) (hx : Loc X.env.scope x) (hc : X.calm = true) (cs : zc3 X.N X.env.scope O Fv cap scope) (h : BI X S W tg iter (KCO X O Fv cap scope S tg elt ifs fun ys W'=>D.nx (S.set i (some (.o W'.length))) (W'++[.lst ys])))
  (hsw : swapsWith (.ListComp elt [⟨tg,iter,ifs,0⟩] scope pos) (some (.Name x pos')) spos.line X.env = pure true:=by rfl) (hs : ∀ x,hy8 iter X.env x = pure x:=by intro _; rfl)
  (hf : X.fn x = true \/ X.env.scope.names.lookup x = some .local:=by first | exact .inl rfl | exact .inr rfl | assumption) : BS X n S W (.Assign [.Name x pos'] (.ListComp elt [⟨tg,iter,ifs,0⟩] scope pos) spos) D :=
 .of (zU7 (g:=tUGc X (O++Fv) scope O.length tg) (tt:=tUTc X (O++Fv) scope ifs) (te:=tUEc X (O++Fv) scope elt) hN hix hx hc cs pi_U (fun cl C ex s H=>fun pins s' σ' H' v u Q I r ⟨t,h,_,q⟩=>h cl C ex s H pins s' σ' H' v u Q I r q) (fun cl C ex s H=>fun pins s' σ' H' Q I ⟨t,h,q⟩=>h cl C ex s H pins s' σ' H' Q I q)
  (fun cl C ex s H=>fun pins s' σ' H' Q I ⟨t,h,q⟩=>h cl C ex s H pins s' σ' H' Q I q) zb93 hsw hs hf) fun F A σ H E hn x0 r sr q=>zP9 h x0.am r sr fun F' A' W' H' ys vs p x r' z hp hk=>by
   obtain ⟨r2,y⟩:=r'.newO hp (o:=.lst ys) (u:=.lst vs) ⟨vs,rfl,z⟩
   exact q.nx _ _ _ _ _ _ ((x.trans y).ex1 hn) r2 ((sr.ext (x.trans y)).set (ElR.oo (k:=W'.length) (by rw [<- r'.len]; simp)) i) hk
end L2
namespace K1
open PySem L2
def ahd (es : List (Nat × Nat)) (t : Nat) : List Nat:=(es.filter fun e=>decide (e.2 = t)).map (·.1)
theorem zv8 (es : List (Nat × Nat)) (t : Nat) : (ahd es t).length <= es.length:=by
 unfold ahd
 rw [ay3]
 exact qy2 _ _
theorem zL7 (es : List (Nat × Nat)) (a c t : Nat) : ahd (es++[(a,c)]) t = if c = t then ahd es t++[a] else ahd es t:=by
 unfold ahd
 rw [gy5,fy1]
 by_cases h : c = t
 ·simp [ky2,h]
 ·simp [ky2,h]
def AW (U : Wl) (n : Nat) (es : List (Nat × Nat)) : Wl:=U++(((ey5 n).map fun t=>ln (ahd es t))++[OD.lst ((ey5 n).map fun t=>El.o (U.length + t))])
section
variable {U : Wl} {n : Nat} {es : List (Nat × Nat)}
theorem AW.len : (AW U n es).length = U.length + n + 1:=by simp [AW]; omega
theorem AW.at_ {c : Nat} (hc : c < n) : (AW U n es)[U.length + c]? = some (ln (ahd es c)):=by
 unfold AW
 rw [dy1 (by omega),ay8 (by simp; omega)]
 simp [hc]
theorem AW.ix : (AW U n es)[U.length + n]? = some (OD.lst ((ey5 n).map fun t=>El.o (U.length + t))):=by
 unfold AW
 rw [dy1 (by omega),dy1 (by simp)]
 simp
theorem AW.low {j : Nat} (h : j < U.length) : (AW U n es)[j]? = U[j]?:=zh9 h
theorem AW.fz {j : Nat} {o : OD} (h : j < U.length) : (AW U n es).set j o = AW (U.set j o) n es:=by
 unfold AW
 rw [List.set_append_left _ _ h,ky8]
theorem AW.add {a c : Nat} (hc : c < n) : (AW U n es).set (U.length + c) (ln (ahd es c++[a])) = AW U n (es++[(a,c)]):=by
 unfold AW
 rw [List.set_append_right _ _ (by omega),List.set_append_left _ _ (by simp; omega),Nat.add_sub_cancel_left]
 refine congrArg (U++·) (congrArg (·++_) (my2 fun t=>?_))
 by_cases h : c = t
 ·subst h
  rw [dy3 (by simpa using hc)]
  simp [hc,zL7]
 ·rw [ey6 h]
  by_cases ht : t < n
  ·simp [ht,zL7,h]
  ·simp [ht]
end
def zipE (ns : List Nat) : List (Nat × Nat):=ns.zip (ns.drop 1)
def edV (ds : List za6) (h : Str) : List (Nat × Nat):=zipE (numsOf ds ds.length (ze7 h))
def edS (ds : List za6) (p : Str × Str) : List (Nat × Nat):=(numsOf ds ds.length (zd9 p)).zip (numsOf ds ds.length (zc6 p))
def edT (ds : List za6) (r : Nat) (p : Str × Str) : List (Nat × Nat):=(numsOf ds ds.length (zc6 p)).zip ((numsOf ds ds.length (zd9 p)).drop r)
def zh6 (ds : List za6) (r : Nat) (hs : List Str) (ps : List (Str × Str)) : List (Nat × Nat):=hs.flatMap (edV ds)++ps.flatMap fun p=>edS ds p++edT ds r p
theorem za22 {α β : Type} {l : List α} {i : Nat} {a : α} (h : l[i]? = some a) (f : α->List β) : (l.take (i + 1)).flatMap f = (l.take i).flatMap f++f a:=by
 rw [gy1,h]
 simp
theorem za23 {α β : Type} {l : List α} {f : α->List β} {b : Nat} (h : ∀ a∈l,(f a).length <= b) : (l.flatMap f).length <= b * l.length:=by
 induction l with
 | nil=>simp
 | cons a l ih =>
  rw [List.flatMap_cons,cy5,ry2,Nat.mul_succ]
  have:=h a by5
  have:=ih fun x hx=>h x (by8 _ hx)
  omega
theorem za24 {xs ys : List Nat} {t : Nat} {d e : PyData} (h1 : (za7 xs)[t]? = some d) (h2 : (za7 ys)[t]? = some e) : ∃ a c : Nat,d = .int a /\ e = .int c /\ a∈xs /\ c∈ys /\ (xs.zip ys).take (t + 1) = (xs.zip ys).take t++[(a,c)]:=by
 unfold za7 at h1 h2
 rw [ay4] at h1 h2
 obtain ⟨a,ha,rfl⟩:=fy0.mp h1
 obtain ⟨c,hc,rfl⟩:=fy0.mp h2
 refine ⟨a,c,rfl,rfl,by3 ha,by3 hc,?_⟩
 have hz : (xs.zip ys)[t]? = some (a,c):=ny5.mpr ⟨ha,hc⟩
 rw [gy1,hz]
 rfl
theorem zl7 {ds : List za6} {i k : Nat} {p : za6->Bool} (h : k∈numsOf ds i p) : k < i:=(zL6.mp h).1
section
variable {P : dy7} {w : World} {K : ay2} {mg : Str->Option Value} {base : Heap}
def zd71 : RB:=fun as W k=>∃ (ds : List za6) (r : Nat),as = [.d (rP ds),.d (.int r)] /\ (∀ d∈ds,d.Ok) /\ ds.length <= 100 /\ ∀ (V : Wl) (hs : List Str) (ps : List (Str × Str)),hs.Nodup->(∀ k d,k < ds.length->ds[k]? = some d->handOf d∈hs)->ps.Nodup->(∀ k d,k < ds.length->ds[k]? = some d->(d.x,d.y)∈ps)->(zh6 ds r hs ps).length <= 50000->k (.o ((W++V).length + ds.length)) (AW (W++V) ds.length (zh6 ds r hs ps))
abbrev nAa : List Str:=["story", "rooms", "views", "letters", "ahead", "numbers", "first", "second", "sent", "taken", "sending", "taking"]
theorem scAa : zc0 nAa ["story", "rooms"] (za0 zw2):=⟨rfl,rfl,rfl,by decide +kernel,rfl,by decide +kernel,by decide +kernel⟩
theorem zR5 : nAa.Nodup:=by decide +kernel
def cAa : Scope:=match za5 zw2 with
 | [_,.Assign _ (.ListComp _ _ sc _) _,_,_,_]=>sc
 | _=>zx5
theorem csAa : zc3 nAa (za0 zw2) ["deed"] [] [] cAa:=⟨rfl,by decide +kernel,by decide +kernel,by decide +kernel,rfl,by decide +kernel⟩
theorem ndAc : (["deed"] : List Str).Nodup:=by decide +kernel
theorem za25 (ds : List za6) (h : Str) : (edV ds h).length <= ds.length:=by
 unfold edV zipE
 rw [List.length_zip]
 exact cy6 (Nat.min_le_left _ _) (zj4 _ _ _)
theorem set_same {W : Wl} {i : Nat} {o : OD} (h : W[i]? = some o) : W.set i o = W:=by
 obtain ⟨hl,rfl⟩:=ay0.mp h
 simp
theorem o_at {n c m : Nat} (h : c < n) : ((ey5 n).map fun t=>El.o (m + t))[c]? = some (El.o (m + c)):=by simp [h]
theorem zI4 (xs ys : List Nat) : (xs.zip ys).take (min (za7 xs).length (za7 ys).length) = xs.zip ys:=jy0 (by simp [za7])
theorem zc37 (ds : List za6) (p : Str × Str) : (edS ds p).length <= ds.length:=by
 unfold edS
 rw [List.length_zip]
 exact cy6 (Nat.min_le_left _ _) (zj4 _ _ _)
theorem zc38 (ds : List za6) (r : Nat) (p : Str × Str) : (edT ds r p).length <= ds.length:=by
 unfold edT
 rw [List.length_zip]
 exact cy6 (Nat.min_le_left _ _) (zj4 _ _ _)
theorem zb14 (n : Nat) (o : OD) : ky6 (n + 1) o = ky6 n o++[o]:=List.replicate_succ'
set_option maxHeartbeats 4000000 in
theorem zc39 {f fN fH : Addr} {fd dN dH : ey8} (F : Fun K "all_ahead" "all_ahead" zw2 f fd) (T : Txt mg) (DN : Def K mg "numbers_by" zq1 fN dN ["story"]) (DH : Def K mg "hand_of" zk0 fH dH ["deed"]) : zj8 P w K mg base CX0 3 f fd ["story", "rooms"] (spB K zd71):=by
 have NN:=@zb11 P w K mg base _ _ _ _ DN.fn T DH
 refine zp7 F scAa (fun as W k ⟨ds,r,e,_⟩=>by subst e; rfl) fun cdv A outer s H E hr F0 A0 as W k hcl ⟨ds,r,e,hok,hl,hk⟩=>?_
 subst e
 refine za3 (zx2 (zb0 NN (hr.mono (by decide)) rfl DN.at_ DN.fn.kp DN.bd (za1 (bv 0 rfl ⟨ds,rfl,hok,hl,fun V Vs Ls hv hL ap bv' bl' lv ll=>zA7 rfl (.cons (i:=2) zR5 rfl (Or.inl rfl) (.cons (i:=3) zR5 rfl (Or.inl rfl) .nil)) rfl ?_⟩))))
 have hU1 : W.length < (W++V).length:=ap.qr.2.1
 have hU2 : W.length + 1 < (W++V).length:=ap.qr.2.2
 have hWU : W.length <= (W++V).length:=by omega
 have hk':=hk V (Vs.map (·.1)) (Ls.map (·.1)) hv.nd hv.all hL.nd hL.all
 generalize W++V = U at hk' hv hL ap hU1 hU2 hWU ⊢
 refine za3 (zb12 (i:=4) zR5 rfl (Or.inl rfl) rfl csAa (zs2 (bv 0 rfl ⟨_,rfl,fun i ys W'=>W' = U++ky6 i (OD.lst []) /\ ys = (ey5 i).map (fun t=>El.o (U.length + t)),⟨by simp,rfl⟩,?_,?_,?_⟩)))
 ·rintro i ys W' hi ⟨rfl,rfl⟩
  exact ⟨qy6,by simp; exact za8 (by simp at hi; omega)⟩
 ·rintro i d ys W' hd ⟨rfl,rfl⟩
  refine zd1 (i:=0) ndAc rfl (by decide) (fun _ _ _ _ _=>Or.inl rfl) (fun _ _ _ _ _=>rfl) (zW1 (zl2 fun cl C ex s H=>?_))
  refine zg8 (zk5 ⟨dy8 _,?_,?_⟩)
  ·rw [zb14,fy5]
  ·rw [List.range_succ]
   simp
 ·rintro ys W' ⟨rfl,rfl⟩
  rw [ay3]
  have eA : U++ky6 ds.length (OD.lst [])++[OD.lst ((ey5 ds.length).map fun t=>El.o (U.length + t))] = AW U ds.length []:=by
   unfold AW
   rw [fy5]
   congr 2
   refine my2 fun t=>?_
   by_cases ht : t < ds.length
   ·simp [ht,ahd,ln,za7,zb4]
   ·simp [ht]
  have el : (U++ky6 ds.length (OD.lst [])).length = U.length + ds.length:=by simp
  rw [eA,el]
  refine zp0 (fun S' W'=>∃ o5 o6 o7 : Option El,S' = [some (.d (rP ds)),some (.d (.int r)),some (.o W.length),some (.o (W.length + 1)),some (.o (U.length + ds.length)),o5,o6,o7,none,none,none,none] /\ W' = AW U ds.length ((Vs.map (·.1)).flatMap (edV ds))) (zc13 (j:=W.length) (mb:=U.length) (kvs:=Vs.map kvV) (by rw [AW.low hU1]; exact hv.at_) hWU hU1 (by rw [AW.len]; omega) fun ob=>?_) ?_
  ·rw [AW.fz hU1]
   obtain ⟨Uf,hUe⟩ : ∃ Uf,Uf = U.set W.length (.fK ob (Vs.map kvV)):=⟨_,rfl⟩
   have hUf : U.length = Uf.length:=by rw [hUe,ky8]
   have hfz : Uf[W.length]? = some (.fK ob (Vs.map kvV)):=by rw [hUe,dy3 hU1]
   have hob : ∀ e∈Vs,Uf[e.2]? = some (ln (numsOf ds ds.length (ze7 e.1))):=fun e he=>by rw [hUe,zd8 (ap.v e he).1]; exact hv.obj e he
   have hbk : Uf.set W.length (.dK (Vs.map kvV)) = U:=by
    rw [hUe,List.set_set]
    exact set_same hv.at_
   rw [<- hUe,hUf]
   refine zY8 gy8 rfl (za90 (bv 2 rfl ⟨W.length,ob,Vs.map kvV,rfl,(AW.low (by omega)).trans hfz,Uf.length,fun i S' W'=>∃ o5 o6 o7 : Option El,S' = [some (.d (rP ds)),some (.d (.int r)),some (.o W.length),some (.o (W.length + 1)),some (.o (Uf.length + ds.length)),o5,o6,o7,none,none,none,none] /\ W' = AW Uf ds.length (((Vs.map (·.1)).take i).flatMap (edV ds)),ay5 _,by omega,by rw [AW.len]; omega,⟨none,none,none,rfl,rfl⟩,?_,?_,?_⟩))
   ·rintro i S' W' hi ⟨o5,o6,o7,rfl,rfl⟩
    exact (AW.low (by omega)).trans hfz
   ·rintro i d S' W' hd ⟨o5,o6,o7,rfl,rfl⟩
    rw [gy7,ay4] at hd
    obtain ⟨e,he,rfl⟩:=fy0.mp hd
    have hem:=by3 he
    have hel : e.2 < Uf.length:=by rw [<- hUf]; exact (ap.v e hem).2.2
    have hi:=(ay0.mp he).1
    have hse : (Vs.map (·.1))[i]? = some e.1:=by rw [ay4,he]; rfl
    have hel0 : (((Vs.map (·.1)).take i).flatMap (edV ds)).length <= 100 * 100:=by
     have:=za23 (l:=(Vs.map (·.1)).take i) (f:=edV ds) (b:=100) (fun h _=>cy6 (za25 ds h) hl)
     have h2 : ((Vs.map (·.1)).take i).length <= 100:=by simp; omega
     exact cy6 this (Nat.mul_le_mul_left _ h2)
    obtain ⟨ns,hns⟩ : ∃ ns,ns = numsOf ds ds.length (ze7 e.1):=⟨_,rfl⟩
    have hnl : ∀ x∈ns,x < ds.length:=fun x hx=>by rw [hns] at hx; exact zl7 hx
    have hnz : ns.length <= 100:=by rw [hns]; exact cy6 (zj4 _ _ _) hl
    have hgo : ∀ es,(AW Uf ds.length es)[e.2]? = some (.lst (zb4 (za7 ns))):=fun es=>(AW.low hel).trans (by rw [hob e hem,hns]; rfl)
    refine zm9 (i:=5) zR5 rfl (Or.inl rfl) ?_
    refine za9 (zH4 gy8 rfl rfl T.zip_ (za4 (bv 5 rfl (za1 (zc7 (bv 5 rfl (zb8 (za2 ⟨1,rfl,zg3 (lb_L (.inr ⟨_,rfl,hgo _⟩) ?_)⟩))))))))
    rw [show zx0 (za7 ns) (some 1) none = za7 (ns.drop 1) from (zz9 _ 1).trans (List.map_drop ..).symm]
    refine ⟨_,_,za7 ns,za7 (ns.drop 1),Uf.length,fun t S' W'=>∃ o6 o7 : Option El,S' = [some (.d (rP ds)),some (.d (.int r)),some (.o W.length),some (.o (W.length + 1)),some (.o (Uf.length + ds.length)),some (.o e.2),o6,o7,none,none,none,none] /\ W' = AW Uf ds.length (((Vs.map (·.1)).take i).flatMap (edV ds)++(zipE ns).take t),rfl,ay5 _,by rw [AW.len]; omega,⟨o6,o7,rfl,by simp⟩,?_,?_,?_,?_⟩
    ·rintro j (h | h)
     ·cases h; exact hel
     ·cases h
    ·rintro t S' W' ht ⟨o6,o7,rfl,rfl⟩
     exact ⟨.inr ⟨_,rfl,hgo _⟩,.inl rfl⟩
    ·rintro t d' e' S' W' h1 h2 ⟨o6,o7,rfl,rfl⟩
     obtain ⟨a,c,rfl,rfl,ha,hc,et⟩:=za24 h1 h2
     have hcn:=hnl c (ny7 hc)
     have htl : ((zipE ns).take t).length <= 100:=by unfold zipE; simp; omega
     have hin : ∀ es,(AW Uf ds.length es).length = (AW Uf ds.length es).length:=fun _=>rfl
     refine zs0 rfl (.cons (i:=6) zR5 rfl (Or.inl rfl) (.cons (i:=7) zR5 rfl (Or.inl rfl) .nil)) rfl ?_
     refine za9 (ze6 (zg6 cy0 ey3 ey4 (zb9 (by intro _ _; rfl) (bv 4 rfl (bv 7 rfl (zu2 AW.ix (zb2 (o_at hcn)) ⟨.inl ⟨rfl,_,AW.at_ hcn⟩,za1 (bv 6 rfl (zd7 (AW.at_ hcn) (by1 (show _ < 90000 from ?_) (za8 (by decide))) ?_))⟩))))))
     ·have:=zv8 (((Vs.map (·.1)).take i).flatMap (edV ds)++(zipE ns).take t) c
      rw [cy5] at this
      simp only [zb4,za7,ay3]
      omega
     ·rw [zo9,AW.add hcn]
      exact ⟨_,_,rfl,by rw [fy5]; exact congrArg (fun z=>AW Uf ds.length (((Vs.map (·.1)).take i).flatMap (edV ds)++z)) et.symm⟩
    ·rintro S' W' ⟨o6,o7,rfl,rfl⟩
     refine ⟨_,_,_,rfl,?_⟩
     rw [za22 hse,show edV ds e.1 = zipE ns by rw [hns]; rfl]
     unfold zipE
     rw [zI4]
   ·rintro S' W' ⟨o5,o6,o7,rfl,rfl⟩
    refine ⟨(AW.low (by omega)).trans hfz,o5,o6,o7,rfl,?_⟩
    rw [AW.fz (by omega),hbk,jy0 (by simp)]
  ·rintro S' W' ⟨o5,o6,o7,rfl,rfl⟩
   obtain ⟨E1,hE1⟩ : ∃ E1,E1 = (Vs.map (·.1)).flatMap (edV ds):=⟨_,rfl⟩
   have hE1l : E1.length <= 100 * 100:=by
    rw [hE1]
    have:=za23 (l:=Vs.map (·.1)) (f:=edV ds) (b:=100) (fun h _=>cy6 (za25 ds h) hl)
    have h2 : (Vs.map (·.1)).length <= 100:=by simp; omega
    exact cy6 this (Nat.mul_le_mul_left _ h2)
   have hEl : ∀ i,(((Ls.map (·.1)).take i).flatMap fun p=>edS ds p++edT ds r p).length <= 200 * 100:=fun i=>by
    have:=za23 (l:=(Ls.map (·.1)).take i) (f:=fun p=>edS ds p++edT ds r p) (b:=200) (fun p _=>by have h1:=zc37 ds p; have h2:=zc38 ds r p; simp only [cy5]; omega)
    have h2 : ((Ls.map (·.1)).take i).length <= 100:=by simp; omega
    exact cy6 this (Nat.mul_le_mul_left _ h2)
   rw [<- hE1]
   refine zp0 (fun S' W'=>∃ o5 o6 o7 o8 o9 oa ob : Option El,S' = [some (.d (rP ds)),some (.d (.int r)),some (.o W.length),some (.o (W.length + 1)),some (.o (U.length + ds.length)),o5,o6,o7,o8,o9,oa,ob] /\ W' = AW U ds.length (zh6 ds r (Vs.map (·.1)) (Ls.map (·.1)))) (zc14 (j:=W.length + 1) (mb:=U.length) (kvs:=Ls.map kvL) (by rw [AW.low hU2]; exact hL.at_) hWU hU2 (by rw [AW.len]; omega) fun ob=>?_) ?_
   ·rw [AW.fz hU2]
    obtain ⟨Uf,hUe⟩ : ∃ Uf,Uf = U.set (W.length + 1) (.fT ob (Ls.map kvL)):=⟨_,rfl⟩
    have hUf : U.length = Uf.length:=by rw [hUe,ky8]
    have hfz : Uf[W.length + 1]? = some (.fT ob (Ls.map kvL)):=by rw [hUe,dy3 hU2]
    have hob : ∀ l∈Ls,Uf[l.2.1]? = some (ln (numsOf ds ds.length (zd9 l.1))) /\ Uf[l.2.2]? = some (ln (numsOf ds ds.length (zc6 l.1))):=fun l hl=>by rw [hUe,zd8 (ap.l l hl).1.2.1,zd8 (ap.l l hl).2.2.1]; exact hL.obj l hl
    have hbk : Uf.set (W.length + 1) (.dT (Ls.map kvL)) = U:=by
     rw [hUe,List.set_set]
     exact set_same hL.at_
    rw [<- hUe,hUf]
    refine zY8 gy8 rfl (zY7 (bv 3 rfl ⟨W.length + 1,ob,Ls.map kvL,rfl,(AW.low (by omega)).trans hfz,Uf.length,fun i S' W'=>∃ o8 o9 oa ob : Option El,S' = [some (.d (rP ds)),some (.d (.int r)),some (.o W.length),some (.o (W.length + 1)),some (.o (Uf.length + ds.length)),o5,o6,o7,o8,o9,oa,ob] /\ W' = AW Uf ds.length (E1++((Ls.map (·.1)).take i).flatMap (fun p=>edS ds p++edT ds r p)),ay5 _,by omega,by rw [AW.len]; omega,⟨none,none,none,none,rfl,by simp⟩,?_,?_,?_⟩))
    ·rintro i S' W' hi ⟨o8,o9,oa,ob,rfl,rfl⟩
     exact (AW.low (by omega)).trans hfz
    ·rintro i d S' W' hd ⟨o8,o9,oa,ob',rfl,rfl⟩
     rw [gy7,ay4] at hd
     obtain ⟨l,he,rfl⟩:=fy0.mp hd
     have hem:=by3 he
     have hl1 : l.2.1 < Uf.length:=by rw [<- hUf]; exact (ap.l l hem).1.2.2
     have hl2 : l.2.2 < Uf.length:=by rw [<- hUf]; exact (ap.l l hem).2.2.2
     have hse : (Ls.map (·.1))[i]? = some l.1:=by rw [ay4,he]; rfl
     have hE0:=hEl i
     obtain ⟨ss,hss⟩ : ∃ ns,ns = numsOf ds ds.length (zd9 l.1):=⟨_,rfl⟩
     obtain ⟨ts,hts⟩ : ∃ ns,ns = numsOf ds ds.length (zc6 l.1):=⟨_,rfl⟩
     have hsl : ∀ x∈ss,x < ds.length:=fun x hx=>by rw [hss] at hx; exact zl7 hx
     have htl : ∀ x∈ts,x < ds.length:=fun x hx=>by rw [hts] at hx; exact zl7 hx
     have hsz : ss.length <= 100:=by rw [hss]; exact cy6 (zj4 _ _ _) hl
     have htz : ts.length <= 100:=by rw [hts]; exact cy6 (zj4 _ _ _) hl
     have hgs : ∀ es,(AW Uf ds.length es)[l.2.1]? = some (.lst (zb4 (za7 ss))):=fun es=>(AW.low hl1).trans (by rw [(hob l hem).1,hss]; rfl)
     have hgt : ∀ es,(AW Uf ds.length es)[l.2.2]? = some (.lst (zb4 (za7 ts))):=fun es=>(AW.low hl2).trans (by rw [(hob l hem).2,hts]; rfl)
     refine zA7 rfl (.cons (i:=8) zR5 rfl (Or.inl rfl) (.cons (i:=9) zR5 rfl (Or.inl rfl) .nil)) rfl ?_
     obtain ⟨E2,hE2⟩ : ∃ E2,E2 = (E1++((Ls.map (·.1)).take i).flatMap (fun p=>edS ds p++edT ds r p)):=⟨_,rfl⟩
     have hE2l : E2.length <= 30000:=by rw [hE2,cy5]; omega
     rw [<- hE2]
     refine zp0 (fun S' W'=>∃ oa ob : Option El,S' = [some (.d (rP ds)),some (.d (.int r)),some (.o W.length),some (.o (W.length + 1)),some (.o (Uf.length + ds.length)),o5,o6,o7,some (.o l.2.1),some (.o l.2.2),oa,ob] /\ W' = AW Uf ds.length (E2++ss.zip ts)) (zH4 gy8 rfl rfl T.zip_ (za4 (bv 8 rfl (za1 (bv 9 rfl ⟨_,_,za7 ss,za7 ts,Uf.length,fun t S' W'=>∃ oa ob : Option El,S' = [some (.d (rP ds)),some (.d (.int r)),some (.o W.length),some (.o (W.length + 1)),some (.o (Uf.length + ds.length)),o5,o6,o7,some (.o l.2.1),some (.o l.2.2),oa,ob] /\ W' = AW Uf ds.length (E2++(ss.zip ts).take t),rfl,ay5 _,by rw [AW.len]; omega,⟨_,_,rfl,by simp⟩,?_,?_,?_,?_⟩))))) ?_
     ·rintro j (h | h)
      ·cases h; exact hl1
      ·cases h; exact hl2
     ·rintro t S' W' ht ⟨oa,ob,rfl,rfl⟩
      exact ⟨.inr ⟨_,rfl,hgs _⟩,.inr ⟨_,rfl,hgt _⟩⟩
     ·rintro t d' e' S' W' h1 h2 ⟨oa,ob,rfl,rfl⟩
      obtain ⟨a,c,rfl,rfl,ha,hc,et⟩:=za24 h1 h2
      have hcn:=htl c hc
      have htk : ((ss.zip ts).take t).length <= 100:=by simp; omega
      refine zs0 rfl (.cons (i:=10) zR5 rfl (Or.inl rfl) (.cons (i:=11) zR5 rfl (Or.inl rfl) .nil)) rfl ?_
      refine za9 (ze6 (zg6 cy0 ey3 ey4 (zb9 (by intro _ _; rfl) (bv 4 rfl (bv 11 rfl (zu2 AW.ix (zb2 (o_at hcn)) ⟨.inl ⟨rfl,_,AW.at_ hcn⟩,za1 (bv 10 rfl (zd7 (AW.at_ hcn) (by1 (show _ < 90000 from ?_) (za8 (by decide))) ?_))⟩))))))
      ·have:=zv8 (E2++(ss.zip ts).take t) c
       rw [cy5] at this
       simp only [zb4,za7,ay3]
       omega
      ·rw [zo9,AW.add hcn]
       exact ⟨_,_,rfl,by rw [fy5]; exact congrArg (fun z=>AW Uf ds.length (E2++z)) et.symm⟩
     ·rintro S' W' ⟨oa,ob,rfl,rfl⟩
      rw [zI4]
      exact ⟨_,_,rfl,rfl⟩
     ·rintro S' W' ⟨oa,ob,rfl,rfl⟩
      have hst : (ss.zip ts).length <= 100:=by simp; omega
      refine za9 (zH4 gy8 rfl rfl T.zip_ (za4 (bv 9 rfl (za1 (zc7 (bv 8 rfl (zb8 (bv 1 rfl ⟨_,rfl,zg3 (lb_L (.inr ⟨_,rfl,hgs _⟩) ?_)⟩))))))))
      rw [show zx0 (za7 ss) (some (r : Int)) none = za7 (ss.drop r) from (zz9 _ r).trans (List.map_drop ..).symm]
      refine ⟨_,_,za7 ts,za7 (ss.drop r),Uf.length,fun t S' W'=>∃ oa ob : Option El,S' = [some (.d (rP ds)),some (.d (.int r)),some (.o W.length),some (.o (W.length + 1)),some (.o (Uf.length + ds.length)),o5,o6,o7,some (.o l.2.1),some (.o l.2.2),oa,ob] /\ W' = AW Uf ds.length (E2++ss.zip ts++(ts.zip (ss.drop r)).take t),rfl,ay5 _,by rw [AW.len]; omega,⟨_,_,rfl,by simp⟩,?_,?_,?_,?_⟩
      ·rintro j (h | h)
       ·cases h; exact hl2
       ·cases h
      ·rintro t S' W' ht ⟨oa,ob,rfl,rfl⟩
       exact ⟨.inr ⟨_,rfl,hgt _⟩,.inl rfl⟩
      ·rintro t d' e' S' W' h1 h2 ⟨oa,ob,rfl,rfl⟩
       obtain ⟨a,c,rfl,rfl,ha,hc,et⟩:=za24 h1 h2
       have hcn:=hsl c (ny7 hc)
       have htk : ((ts.zip (ss.drop r)).take t).length <= 100:=by simp; omega
       refine zs0 rfl (.cons (i:=11) zR5 rfl (Or.inl rfl) (.cons (i:=10) zR5 rfl (Or.inl rfl) .nil)) rfl ?_
       refine za9 (ze6 (zg6 cy0 ey3 ey4 (zb9 (by intro _ _; rfl) (bv 4 rfl (bv 10 rfl (zu2 AW.ix (zb2 (o_at hcn)) ⟨.inl ⟨rfl,_,AW.at_ hcn⟩,za1 (bv 11 rfl (zd7 (AW.at_ hcn) (by1 (show _ < 90000 from ?_) (za8 (by decide))) ?_))⟩))))))
       ·have:=zv8 (E2++ss.zip ts++(ts.zip (ss.drop r)).take t) c
        rw [cy5,cy5] at this
        simp only [zb4,za7,ay3]
        omega
       ·rw [zo9,AW.add hcn]
        exact ⟨_,_,rfl,by rw [fy5]; exact congrArg (fun z=>AW Uf ds.length (E2++ss.zip ts++z)) et.symm⟩
      ·rintro S' W' ⟨oa,ob,rfl,rfl⟩
       refine ⟨_,_,_,_,rfl,?_⟩
       rw [zI4,za22 hse,hE2,hss,hts]
       unfold edS edT
       simp only [fy5]
    ·rintro S' W' ⟨o8,o9,oa,ob,rfl,rfl⟩
     refine ⟨(AW.low (by omega)).trans hfz,o5,o6,o7,o8,o9,oa,ob,rfl,?_⟩
     rw [AW.fz (by omega),hbk,jy0 (by simp),hE1]
     rfl
   ·rintro S' W' ⟨o5,o6,o7,o8,o9,oa,ob,rfl,rfl⟩
    refine za9 (ze2 (bv 4 rfl (hk' ?_)))
    unfold zh6
    rw [cy5,<- hE1]
    have:=hEl Ls.length
    rw [jy0 (by simp)] at this
    omega
end
theorem zh1 : ∀ (ns : List Nat),ey2 (za7 ns) = true
 | []=>rfl
 | n :: ns=>by
  show (iy4 (.int n) && ey2 (za7 ns)) = true
  rw [zh1 ns]
  rfl
theorem zl8 (n : Int) : Dat (.int n):=⟨rfl,by simp [qy3]⟩
theorem zk3 (a b : Nat) : ey0 (.int a) (.int b) = decide (a = b):=by
 simp only [ey0]
 rw [gy4]
 simp
 omega
theorem any_nums (ns : List Nat) (n : Nat) : ((za7 ns).any fun z=>ey0 z (.int n)) = decide (n∈ns):=by
 unfold za7
 rw [List.any_map,gy4,List.any_eq_true]
 simp only [sy5,zk3,decide_eq_true_eq]
 constructor
 ·rintro ⟨a,ha,rfl⟩; exact ha
 ·intro h; exact ⟨n,h,rfl⟩
theorem zb55 {X : Bc} {W : Wl} {k : KB} {n : Nat} {ns : List Nat} {y : El} (hu : X.A.units + 100 < cLine) (hy : zD6 W y (za7 ns)) (h : k (.d (.bool (decide (n∈ns)))) W) : OB X (fy7 .In) (.d (.int n)) y W k:=by
 have h2 : k (.d (.bool ((za7 ns).any fun z=>ey0 z (.int n)))) W:=by rw [any_nums]; exact h
 exact zX3 false hu (.inl hy) (zl8 _) (zh1 _) h2
theorem zc40 {X : Bc} {W : Wl} {k : KB} {n : Nat} {ns : List Nat} {y : El} (hu : X.A.units + 100 < cLine) (hy : zD6 W y (za7 ns)) (h : k (.d (.bool (!decide (n∈ns)))) W) : OB X (fy7 .NotIn) (.d (.int n)) y W k:=by
 have h2 : k (.d (.bool (!(za7 ns).any fun z=>ey0 z (.int n)))) W:=by rw [any_nums]; exact h
 exact zX3 true hu (.inl hy) (zl8 _) (zh1 _) h2
theorem zc41 : ∀ (n : Nat) (l : List Nat),l.Nodup->(∀ x∈l,x < n)->l.length <= n
 | 0,[],_,_=>ay5 _
 | 0,a :: l,_,h=>absurd (h a by5) (Nat.not_lt_zero _)
 | n + 1,l,nd,h=>by
  have h1:=zc41 n (l.erase n) (nd.erase n) fun x hx=>by
   have h2:=h x (List.mem_of_mem_erase hx)
   have h3 : x ≠ n:=((List.Nodup.mem_erase_iff nd).mp hx).1
   omega
  have : l.length <= (l.erase n).length + 1:=by
   rw [List.length_erase]
   split <;> omega
  omega
def numOf : PyData->Nat
 | .int i=>i.toNat
 | _=>0
theorem zl9 (ns : List Nat) (p : Nat->Bool) : ((za7 ns).filter fun d=>p (numOf d)).map id = za7 (ns.filter p):=by
 rw [List.map_id]
 unfold za7
 rw [List.filter_map]
 congr 1
/-- the numbers left that must come ahead of x -/
def zF4 (es : List (Nat × Nat)) (L : List Nat) (x : Nat) : List Nat:=(ahd es x).filter fun y=>decide (y∈L)
theorem za26 {es : List (Nat × Nat)} {x y : Nat} : y∈ahd es x ↔ (y,x)∈es:=by
 unfold ahd
 rw [dy6]
 constructor
 ·rintro ⟨⟨a,b⟩,h,rfl⟩
  rw [jy8] at h
  have : b = x:=by simpa using h.2
  subst this
  exact h.1
 ·intro h
  exact ⟨(y,x),jy8.mpr ⟨h,by simp⟩,rfl⟩
/-- a round: each must come ahead of the next,the last ahead of the first -/
structure Round (es : List (Nat × Nat)) (L R : List Nat) : Prop where
 nd : R.Nodup
 sub : ∀ x∈R,x∈L
 next : ∀ i a b,R[i]? = some a->R[i + 1]? = some b->(a,b)∈es
 last : ∃ a b,R[0]? = some a /\ R.getLast? = some b /\ (b,a)∈es
/-- the way back -/
structure Back (es : List (Nat × Nat)) (L : List Nat) (p : List Nat) : Prop where
 ne : p ≠ []
 nd : p.Nodup
 sub : ∀ x∈p,x∈L
 prev : ∀ i a b,p[i]? = some a->p[i + 1]? = some b->(b,a)∈es
theorem Back.snoc {es : List (Nat × Nat)} {L p : List Nat} {x y : Nat} (h : Back es L (p++[x])) (hy : y∈L) (he : (y,x)∈es) (hn : y ∉ p++[x]) : Back es L (p++[x]++[y]) where
 ne:=by simp
 nd:=zo5 h.nd hn
 sub:=fun z hz=>by
  rcases by9.mp hz with hz | hz
  ·exact h.sub z hz
  ·cases cy9.mp hz; exact hy
 prev:=fun i a b ha hb=>by
  by_cases hi : i + 1 < (p++[x]).length
  ·rw [ay8 hi] at hb
   rw [ay8 (by omega)] at ha
   exact h.prev i a b ha hb
  ·have hl:=(ay0.mp hb).1
   have hi2 : i = p.length:=by simp at hi hl; omega
   subst hi2
   have e1 : (p++[x]++[y])[p.length]? = some x:=by simp
   have e2 : (p++[x]++[y])[p.length + 1]? = some y:=by simp
   rw [e1] at ha
   rw [e2] at hb
   cases ha
   cases hb
   exact he
theorem Back.round {es : List (Nat × Nat)} {L p : List Nat} {x y : Nat} {m : Nat} (h : Back es L (p++[x])) (he : (y,x)∈es) (hm : (p++[x])[m]? = some y) : Round es L ((p++[x]).drop m).reverse where
 nd:=(List.reverse_perm _).nodup_iff.mpr (List.Nodup.sublist (List.drop_sublist _ _) h.nd)
 sub:=fun z hz=>h.sub z (ny7 (List.mem_reverse.mp hz))
 next:=fun i a b ha hb=>by
  have hml:=(ay0.mp hm).1
  have hi:=(ay0.mp hb).1
  rw [List.length_reverse] at hi
  rw [List.getElem?_reverse (by omega)] at ha
  rw [List.getElem?_reverse (by omega)] at hb
  rw [gy2] at ha hb
  refine h.prev _ b a hb ?_
  rw [<- ha]
  congr 1
  rw [ky1] at hi ⊢
  omega
 last:=by
  have hml:=(ay0.mp hm).1
  refine ⟨x,y,?_,?_,he⟩
  ·rw [List.getElem?_reverse (by rw [ky1]; omega),gy2,ky1]
   rw [show m + ((p++[x]).length - m - 1 - 0) = p.length by simp at hml ⊢; omega]
   simp
  ·rw [List.getLast?_reverse,List.head?_drop]
   exact hm
section
variable {P : dy7} {w : World} {K : ay2} {mg : Str->Option Value} {base : Heap}
def zd73 : RB:=fun as W k=>∃ (j : Nat) (ns L : List Nat),as = [.o j,.d (.list (za7 L))] /\ W[j]? = some (ln ns) /\ ns.length <= 60000 /\ k (.d (.list (za7 (ns.filter fun y=>decide (y∈L))))) W
abbrev nWf : List Str:=["numbers", "left"]
theorem scWf : zc0 nWf nWf (za0 zn2):=⟨rfl,rfl,rfl,by decide +kernel,rfl,by decide +kernel,by decide +kernel⟩
def cWf : Scope:=match za5 zn2 with
 | [.Return (some (.ListComp _ _ sc _)) _]=>sc
 | _=>zx5
theorem csWf : zc3 nWf (za0 zn2) ["number"] ["left"] [1] cWf:=⟨rfl,by decide +kernel,by decide +kernel,by decide +kernel,rfl,by decide +kernel⟩
theorem ndWf : (["number", "left"] : List Str).Nodup:=by decide +kernel
theorem zL8 {f : Addr} {fd : ey8} (F : Fun K "waits_for" "waits_for" zn2 f fd) : zj8 P w K mg base CX0 1 f fd nWf (spB K zd73):=by
 refine zp7 F scWf (fun as W k ⟨j,ns,L,e,_⟩=>by subst e; rfl) fun cdv A outer s H E hr F0 A0 as W k hcl ⟨j,ns,L,e,hj,hl,hk⟩=>?_
 subst e
 refine za9 (ze2 (zf0 rfl csWf (zJ7 (bv 0 rfl ⟨j,za7 ns,rfl,hj,zh2 (fun d=>decide (numOf d∈L)) id hj ?_ ?_ ?_⟩))))
 ·unfold za7
  rw [ay3]
  exact za8 (by omega)
 ·intro z hz
  obtain ⟨x,hx,rfl⟩:=dy6.mp hz
  refine zd1 (i:=0) ndWf rfl (by decide) (fun _ _ _ _ _=>Or.inl rfl) (fun _ _ _ _ _=>rfl) ⟨fun cl C ex s H=>?_,fun _ cl C ex s H=>bv 0 rfl ⟨rfl,rfl⟩⟩
  refine zc2 rfl (bv 0 rfl (bv 1 rfl (zb55 (zf3 hr) (.inl rfl) ⟨_,rfl,rfl,rfl⟩)))
 ·rw [zl9 ns fun y=>decide (y∈L)]
  exact hk
def zd74 : RB:=fun as W k=>∃ (U Z : Wl) (n : Nat) (es : List (Nat × Nat)) (L : List Nat),as = [.d (.list (za7 L)),.o (U.length + n)] /\ W = AW U n es++Z /\ es.length <= 50000 /\ n <= 100 /\ L ≠ [] /\ (∀ x∈L,x < n) /\ (∀ x∈L,zF4 es L x ≠ []) /\ ∀ R,Round es L R->k (.d (.tuple (za7 R))) W
abbrev nRa : List Str:=["left", "ahead", "path", "back"]
theorem scRa : zc0 nRa ["left", "ahead"] (za0 zn3):=⟨rfl,rfl,rfl,by decide +kernel,rfl,by decide +kernel,by decide +kernel⟩
theorem ndRa : nRa.Nodup:=by decide +kernel
theorem zL9 {α : Type} (xs : List α) (x : α) : atI (xs++[x]) (-1) = some x:=by
 unfold atI
 have : ixN (xs++[x]).length (-1) = some xs.length:=by
  unfold ixN
  rw [cy5]
  simp
  omega
 rw [this]
 simp
theorem zB9 (a b : List Nat) : za7 (a++b) = za7 a++za7 b:=by simp [za7]
abbrev iRa (L : List Nat) (W : Wl) (q : Nat) (es : List (Nat × Nat)) : Sl->Wl->Prop:=fun S' W'=>∃ (p : List Nat) (x : Nat) (o3 : Option El),S' = [some (.d (.list (za7 L))),some (.o q),some (.o W.length),o3] /\ W' = W++[ln (p++[x])] /\ Back es L (p++[x])
set_option maxHeartbeats 1000000 in
theorem za27 {f fW : Addr} {fd dW : ey8} (F : Fun K "round_among" "round_among" zn3 f fd) (T : Txt mg) (DW : Def K mg "waits_for" zn2 fW dW nWf) : zj8 P w K mg base CX0 2 f fd ["left", "ahead"] (spB K zd74):=by
 have NW:=@zL8 P w K mg base _ _ DW.fn
 refine zp7 F scRa (fun as W k ⟨U,Z,n,es,L,e,_⟩=>by subst e; rfl) fun cdv A outer s H E hr F0 A0 as W k hcl ⟨U,Z,n,es,L,e,hW,hes,hn,hL0,hLn,hwt,hk⟩=>?_
 subst e
 obtain ⟨x0,L',hLc⟩ : ∃ x0 L',L = x0 :: L':=by
  cases L with
  | nil=>exact absurd rfl hL0
  | cons a r=>exact ⟨a,r,rfl⟩
 refine za3 (zc5 (i:=2) ndRa rfl (Or.inl rfl) (zg8 (za1 (zb9 (by intro _ _; rfl) (bv 0 rfl (za2 (zu1 (d:=.int x0) (by rw [hLc]; exact zb2 (k:=0) rfl) ⟨by show 1 <= by0; decide,?_⟩)))))))
 have hlow : ∀ V : Wl,∀ c,c < n->(W++V)[U.length + c]? = some (ln (ahd es c)):=fun V c hc=>by rw [zh9 (by rw [hW,cy5,AW.len]; omega),hW,zh9 (by rw [AW.len]; omega)]; exact AW.at_ hc
 have hix : ∀ V : Wl,(W++V)[U.length + n]? = some (OD.lst ((ey5 n).map fun t=>El.o (U.length + t))):=fun V=>by rw [zh9 (by rw [hW,cy5,AW.len]; omega),hW,zh9 (by rw [AW.len]; omega)]; exact AW.ix
 refine za9 (zJ8 (iRa L W (U.length + n) es) (fun _ W'=>match W'[W.length]? with | some (.lst es)=>1000 - es.length | _=>0) gy8 ⟨[],x0,none,rfl,by simp [ln,za7,zb4],⟨by simp,by simp,fun z hz=>by simp at hz; rw [hz,hLc]; exact by5,fun i a b h1 h2=>by simp at h2⟩⟩ ?_)
 rintro S' W' ⟨p,x,o3,rfl,rfl,bk⟩
 have hxL:=bk.sub x (by simp)
 have hxn:=hLn x hxL
 have hpl : (p++[x]).length <= 100:=cy6 (zc41 n _ bk.nd fun z hz=>hLn z (bk.sub z hz)) hn
 obtain ⟨y,ys,hy⟩ : ∃ y ys,zF4 es L x = y :: ys:=by
  cases h : zF4 es L x with
  | nil=>exact absurd h (hwt x hxL)
  | cons a r=>exact ⟨a,r,rfl⟩
 have hyw : y∈zF4 es L x:=by rw [hy]; exact by5
 have hyL : y∈L:=by simpa using (jy8.mp hyw).2
 have hye : (y,x)∈es:=za26.mp (jy8.mp hyw).1
 refine zg7 (za67 ⟨_,rfl,zl2 ?_⟩)
 refine za3 (zc5 (i:=3) ndRa rfl (Or.inl rfl) (zb9 (by intro _ _; rfl) (zb0 NW (hr.mono (by decide)) rfl DW.at_ DW.fn.kp DW.bd (za4 (zb9 (by intro _ _; rfl) (bv 1 rfl (zb9 (by intro _ _; rfl) (bv 2 rfl (zY1 (za2 ⟨1,rfl,ib_L (d:=.int x) (.inr ⟨_,rfl,zc9⟩) (by rw [zB9]; exact zL9 _ _) (zu2 (hix _) (zb2 (o_at hxn)) (za1 (bv 0 rfl ⟨_,ahd es x,L,rfl,hlow _ x hxn,cy6 (zv8 es x) (by omega),za2 (zu1 (d:=.int y) (by show atI (za7 (zF4 es L x)) 0 = _; rw [hy]; exact zb2 (k:=0) rfl) ?_)⟩)))⟩))))))))))
 refine za3 (zf2 (zc2 rfl (bv 3 rfl (bv 2 rfl (zb55 (zf3 hr) (.inr ⟨_,rfl,zc9⟩) ⟨_,rfl,?_⟩)))))
 by_cases hin : y∈p++[x]
 ·rw [decide_eq_true hin]
  obtain ⟨m,hm,hno⟩ : ∃ m,(p++[x])[m]? = some y /\ ∀ j z,j < m->(p++[x])[j]? = some z->z ≠ y:=by
   obtain ⟨m,hm,e⟩:=List.mem_iff_getElem.mp hin
   refine ⟨m,ay0.mpr ⟨hm,e⟩,fun j z hj hz e2=>?_⟩
   obtain ⟨h1,h2⟩:=ay0.mp hz
   have:=(py0 (h₀:=h1) (h₁:=hm) bk.nd).mp (by rw [h2,e,e2])
   exact cy7 hj this
  refine zl2 (za9 (zl4 (zp6 rfl T.tuple_ zk2 (za1 (zc16 (zc7 (bv 2 rfl (zb8 (zg6 cy0 gy6 iy7 (bv 2 rfl ⟨.inl ⟨rfl,_,zc9⟩,za1 (bv 3 rfl (zZ1 (m:=m) (z:=.int y) (zf3 hr) zc9 (zh1 _) (zl8 _) ?_ ?_ ?_ ?_ ⟨_,rfl,zg3 (lb_L (.inr ⟨_,rfl,zc9⟩) (zY1 (za2 ⟨1,rfl,_,rfl,.inl rfl,zz5 (.inl rfl) ⟨_,W,_,rfl,rfl,rfl,hcl,?_⟩⟩)))⟩))⟩))))))))))
  ·unfold za7; rw [ay3]; exact za8 (by omega)
  ·unfold za7; rw [ay4,hm]; rfl
  ·rw [zk3]; simp
  ·intro j z hj hz
   unfold za7 at hz
   rw [ay4] at hz
   obtain ⟨z',hz',rfl⟩:=fy0.mp hz
   rw [zk3]
   exact decide_eq_false (hno j z' hj hz')
  ·have e : (zx0 (za7 (p++[x])) (some (m : Int)) none).reverse = za7 ((p++[x]).drop m).reverse:=by
    rw [zz9]
    unfold za7
    rw [List.map_reverse,List.map_drop]
   rw [e]
   exact hk _ (bk.round hye hm)
 ·rw [decide_eq_false hin]
  refine zf7 (ze5 (za9 (ze6 (zg6 cy0 ey3 ey4 (bv 2 rfl ⟨.inl ⟨rfl,_,zc9⟩,za1 (bv 3 rfl (zd7 zc9 (by1 (show _ < 200 by simp [zb4,za7] at hpl ⊢; omega) (za8 (by decide))) ?_))⟩)))))
  rw [zq2,zo9]
  refine ⟨⟨p++[x],y,_,rfl,rfl,bk.snoc hyL hye hin⟩,?_⟩
  rw [zc9,zc9]
  simp only [ln]
  simp [zb4,za7] at hpl ⊢
  omega
end
/-- what must come ahead does -/
def Topo (es : List (Nat × Nat)) (D : List Nat) : Prop:=∀ a x b,D = a++x :: b->∀ y,(y,x)∈es->y∈a
theorem Topo.app {es : List (Nat × Nat)} {D Fr : List Nat} (h : Topo es D) (hf : ∀ x∈Fr,∀ y,(y,x)∈es->y∈D) : Topo es (D++Fr):=by
 intro a x b e y hy
 rcases List.append_eq_append_iff.mp e with ⟨c,e1,e2⟩ | ⟨c,e1,e2⟩
 ·have hx : x∈Fr:=by rw [e2]; simp
  rw [e1]
  exact fy6 _ (hf x hx y hy)
 ·cases c with
  | nil =>
   have hx : x∈Fr:=by simp at e2; rw [<- e2]; simp
   rw [hy4] at e1
   rw [<- e1]
   exact hf x hx y hy
  | cons c0 c =>
   simp at e2
   obtain ⟨rfl,e2⟩:=e2
   exact h a x c e1 y hy
def rowOf (ds : List za6) (D : List Nat) : List za6:=D.filterMap fun i=>ds[i]?
def zb15 (ds : List za6) (d : PyData) : PyData:=((ds.map dP)[numOf d]?).getD .none
theorem za28 {ds : List za6} : ∀ {D : List Nat},(∀ x∈D,x < ds.length)->(za7 D).map (zb15 ds) = (rowOf ds D).map dP
 | [],_=>rfl
 | x :: D,h=>by
  have hx:=h x by5
  have ih:=za28 (ds:=ds) (D:=D) fun y hy=>h y (by8 _ hy)
  have e1 : za7 (x :: D) = .int x :: za7 D:=rfl
  have e2 : rowOf ds (x :: D) = ds[x] :: rowOf ds D:=by
   unfold rowOf
   rw [ky5,ay7 hx]
  rw [e1,e2,fy4,fy4,ih]
  congr 1
  show ((ds.map dP)[numOf (.int x)]?).getD .none = dP ds[x]
  have : numOf (.int (x : Int)) = x:=by simp [numOf]
  rw [this]
  simp [hx]
theorem zM0 {ds : List za6} {r : Nat} {hs : List Str} {ps : List (Str × Str)} {e : Nat × Nat} (h : e∈zh6 ds r hs ps) : e.1 < ds.length /\ e.2 < ds.length:=by
 obtain ⟨a,b⟩:=e
 unfold zh6 at h
 rcases by9.mp h with h | h
 ·obtain ⟨x,_,hx⟩:=hy7.mp h
  unfold edV zipE at hx
  exact ⟨zl7 (ky7 hx).1,zl7 (ny7 (ky7 hx).2)⟩
 ·obtain ⟨x,_,hx⟩:=hy7.mp h
  rcases by9.mp hx with hx | hx
  ·unfold edS at hx
   exact ⟨zl7 (ky7 hx).1,zl7 (ky7 hx).2⟩
  ·unfold edT at hx
   exact ⟨zl7 (ky7 hx).1,zl7 (ny7 (ky7 hx).2)⟩
section
variable {P : dy7} {w : World} {K : ay2} {mg : Str->Option Value} {base : Heap}
/-- the hands and the pairs of a row -/
structure Keys (ds : List za6) (hs : List Str) (ps : List (Str × Str)) : Prop where
 hn : hs.Nodup
 ha : ∀ k d,k < ds.length->ds[k]? = some d->handOf d∈hs
 pn : ps.Nodup
 pa : ∀ k d,k < ds.length->ds[k]? = some d->(d.x,d.y)∈ps
/-- the told row or round -/
structure zI5 (ds : List za6) (r : Nat) (D : List Nat) : Prop where
 perm : D.Perm (ey5 ds.length)
 topo : ∃ hs ps,Keys ds hs ps /\ Topo (zh6 ds r hs ps) D
def rRor : RB:=fun as W k=>∃ (ds : List za6) (r : Nat),as = [.d (rP ds),.d (.int r)] /\ (∀ d∈ds,d.Ok) /\ ds.length <= 100 /\
 (∀ hs ps L R,Keys ds hs ps->(∀ x∈L,x < ds.length)->Round (zh6 ds r hs ps) L R->k (.d (.tuple [.str "round",.tuple (za7 R)])) W) /\ ∀ D,zI5 ds r D->k (.d (.tuple [.str "row",rP (rowOf ds D)])) W
abbrev nRr : List Str:=["story", "rooms", "ahead", "done", "left", "free"]
theorem scRr : zc0 nRr ["story", "rooms"] (za0 zQ6):=⟨rfl,rfl,rfl,by decide +kernel,rfl,by decide +kernel,by decide +kernel⟩
theorem ndRr : nRr.Nodup:=by decide +kernel
def cRr1 : Scope:=match za5 zQ6 with
 | [_,_,_,.While _ [.Assign _ (.ListComp _ _ sc _) _,_,_,_] _ _,_]=>sc
 | _=>zx5
def cRr2 : Scope:=match za5 zQ6 with
 | [_,_,_,.While _ [_,_,_,.Assign _ (.ListComp _ _ sc _) _] _ _,_]=>sc
 | _=>zx5
def cRr3 : Scope:=match za5 zQ6 with
 | [_,_,_,_,.Return (some (.Tuple [_,.Call _ [.ListComp _ _ sc _] _ _] _ _)) _]=>sc
 | _=>zx5
theorem ze63 : zc3 nRr (za0 zQ6) ["number"] ["ahead", "left"] [2,4] cRr1:=⟨rfl,by decide +kernel,by decide +kernel,by decide +kernel,rfl,by decide +kernel⟩
theorem ze64 : zc3 nRr (za0 zQ6) ["number"] ["free"] [5] cRr2:=⟨rfl,by decide +kernel,by decide +kernel,by decide +kernel,rfl,by decide +kernel⟩
theorem ze65 : zc3 nRr (za0 zQ6) ["number"] ["story"] [0] cRr3:=⟨rfl,by decide +kernel,by decide +kernel,by decide +kernel,rfl,by decide +kernel⟩
theorem ze66 : (["number", "ahead", "left"] : List Str).Nodup:=by decide +kernel
theorem ze67 : (["number", "free"] : List Str).Nodup:=by decide +kernel
theorem ze68 : (["number", "story"] : List Str).Nodup:=by decide +kernel
theorem zq3 (n : Nat) : ze9 0 n = za7 (ey5 n):=by
 unfold ze9 za7
 refine oy9 fun x _=>?_
 simp
def zk4 (es : List (Nat × Nat)) (L : List Nat) (x : Nat) : Bool:=(zF4 es L x).isEmpty
theorem zc42 {es : List (Nat × Nat)} (L : List Nat) : (L.filter fun x=>!decide (x∈L.filter (zk4 es L))) = L.filter fun x=>!zk4 es L x:=by
 refine List.filter_congr fun x hx=>?_
 congr 1
 rw [gy4]
 simp [jy8,hx]
abbrev iRr (ds : List za6) (r q : Nat) (es : List (Nat × Nat)) (U : Wl) (W : Wl) : Sl->Wl->Prop:=fun S' W'=>∃ (D L : List Nat) (o5 : Option El),S' = [some (.d (rP ds)),some (.d (.int r)),some (.o q),some (.o U.length),some (.d (.list (za7 L))),o5] /\ W' = U++[ln D] /\ (D++L).Perm (ey5 ds.length) /\ Topo es D
def muRr : Sl->Wl->Nat:=fun S' _=>match S'[4]? with
 | some (some (El.d (.list l)))=>l.length
 | _=>0
set_option maxHeartbeats 2000000 in
theorem zd75 {f fA fN fH fW fR : Addr} {fd dA dN dH dW dR : ey8} (F : Fun K "row_or_round" "row_or_round" zQ6 f fd) (T : Txt mg) (DA : Def K mg "all_ahead" zw2 fA dA ["story", "rooms"]) (DN : Def K mg "numbers_by" zq1 fN dN ["story"]) (DH : Def K mg "hand_of" zk0 fH dH ["deed"]) (DW : Def K mg "waits_for" zn2 fW dW nWf) (DR : Def K mg "round_among" zn3 fR dR ["left", "ahead"]) : zj8 P w K mg base CX0 4 f fd ["story", "rooms"] (spB K rRor):=by
 have NA:=@zc39 P w K mg base _ _ _ _ _ _ DA.fn T DN DH
 have NW:=@zL8 P w K mg base _ _ DW.fn
 have NR:=@za27 P w K mg base _ _ _ _ DR.fn T DW
 refine zp7 F scRr (fun as W k ⟨ds,r,e,_⟩=>by subst e; rfl) fun cdv A outer s H E hr F0 A0 as W k hcl ⟨ds,r,e,hok,hl,hkR,hkD⟩=>?_
 subst e
 refine za3 (zc5 (i:=2) ndRr rfl (Or.inr rfl) (zb0 NA (hr.mono (by decide)) rfl DA.at_ DA.fn.kp DA.bd (za4 (bv 0 rfl (za1 (bv 1 rfl ⟨ds,r,rfl,hok,hl,fun V hs ps h1 h2 h3 h4 hel=>?_⟩))))))
 have hKy : Keys ds hs ps:=⟨h1,h2,h3,h4⟩
 have elt : ∀ y x,(y,x)∈zh6 ds r hs ps->y < ds.length /\ x < ds.length:=fun y x h=>zM0 h
 have hkR':=fun L R=>hkR hs ps L R hKy
 have hkD' : ∀ D,D.Perm (ey5 ds.length)->Topo (zh6 ds r hs ps) D->k (.d (.tuple [.str "row",rP (rowOf ds D)])) W:=fun D p t=>hkD D ⟨p,hs,ps,hKy,t⟩
 generalize zh6 ds r hs ps = es at hel elt hkR' hkD' ⊢
 obtain ⟨U,hU⟩ : ∃ U,U = AW (W++V) ds.length es:=⟨_,rfl⟩
 have hUW : ∃ V',U = W++V':=by rw [hU]; unfold AW; exact ⟨_,fy5 ..⟩
 obtain ⟨V',hV'⟩:=hUW
 have hUl : U.length = (W++V).length + ds.length + 1:=by rw [hU,AW.len]
 rw [<- hU]
 have hat : ∀ Z c,c < ds.length->(U++Z)[(W++V).length + c]? = some (ln (ahd es c)):=fun Z c hc=>by rw [zh9 (by omega),hU]; exact AW.at_ hc
 have hix : ∀ Z,(U++Z)[(W++V).length + ds.length]? = some (OD.lst ((ey5 ds.length).map fun t=>El.o ((W++V).length + t))):=fun Z=>by rw [zh9 (by omega),hU]; exact AW.ix
 refine za3 (zc5 (i:=3) ndRr rfl (Or.inl rfl) (zg8 (zk5 ⟨dy8 _,?_⟩)))
 refine za3 (zc5 (i:=4) ndRr rfl (Or.inr rfl) (za94 rfl rfl T.list_ zd52 rfl T.range_ zc20 (zb7 rfl T.len_ zj0 (za1 (bv 0 rfl (zg9 ⟨ds.length,by rw [ay3],by omega,?_⟩))))))
 rw [zq3]
 refine zp0 (fun S' W'=>∃ D o5,S' = [some (.d (rP ds)),some (.d (.int r)),some (.o ((W++V).length + ds.length)),some (.o U.length),some (.d (.list [])),o5] /\ W' = U++[ln D] /\ D.Perm (ey5 ds.length) /\ Topo es D) (zJ8 (iRr ds r ((W++V).length + ds.length) es U W) muRr gy8 ⟨[],ey5 ds.length,none,rfl,by simp [ln,za7,zb4],by simp,fun a x b e=>by simp at e⟩ ?_) ?_
 ·rintro S' W' ⟨D,L,o5,rfl,rfl,hp,ht⟩
  have hDL : (D++L).length = ds.length:=by rw [hp.length_eq,oy3]
  have hLl : L.length <= 100:=by rw [cy5] at hDL; omega
  have hDl : D.length + L.length <= 100:=by rw [cy5] at hDL; omega
  have hLn : ∀ x∈L,x < ds.length:=fun x hx=>my0.mp (hp.mem_iff.mp (dy5 _ hx))
  have hin : ∀ y,y < ds.length->y ∉ L->y∈D:=fun y hy hn=>(by9.mp (hp.mem_iff.mpr (my0.mpr hy))).resolve_right hn
  refine zW2 (bv 4 rfl ⟨.list (za7 L),.inl rfl,(fun _ e=>nomatch e),?_⟩)
  cases hLc : L with
  | nil =>
   subst hLc
   exact zf7 ⟨D,o5,rfl,rfl,by simpa using hp,ht⟩
  | cons l0 L0 =>
   have hL0 : L ≠ []:=by rw [hLc]; simp
   rw [<- hLc]
   have htr : truD (.list (za7 L)) = true:=by rw [hLc]; rfl
   rw [htr]
   refine zl2 (za3 (zc5 (i:=5) ndRr rfl (Or.inr rfl) (zf0 rfl ze63 (zz7 (bv 4 rfl ⟨_,rfl,zh2 (fun d=>zk4 es L (numOf d)) id trivial ?_ ?_ ?_⟩)))))
   ·unfold za7
    rw [ay3]
    exact za8 (by omega)
   ·intro z hz
    obtain ⟨x,hx,rfl⟩:=dy6.mp hz
    have hxn:=hLn x hx
    refine zd1 (i:=0) ze66 rfl (by decide) (fun _ _ _ _ _=>Or.inl rfl) (fun _ _ _ _ _=>rfl) ⟨fun cl C ex s H=>?_,fun _ cl C ex s H=>bv 0 rfl ⟨rfl,rfl⟩⟩
    refine zg2 (zW2 (zb0 NW (hr.mono (by decide)) rfl DW.at_ DW.fn.kp DW.bd (za4 (zb9 (by intro _ _; rfl) (bv 1 rfl (bv 0 rfl (zu2 (hix _) (zb2 (o_at hxn)) (za1 (bv 2 rfl ⟨_,ahd es x,L,rfl,hat _ x hxn,cy6 (zv8 es x) (by omega),⟨_,.inl rfl,(fun _ e=>nomatch e),?_,rfl⟩⟩)))))))))
    show (!!(za7 (zF4 es L x)).isEmpty) = zk4 es L x
    unfold zk4 za7
    rw [Bool.not_not,List.isEmpty_map]
   ·rw [zl9 L (zk4 es L)]
    refine za3 (zf2 (zg2 (zW2 (bv 5 rfl ⟨.list (za7 (L.filter (zk4 es L))),.inl rfl,(fun _ e=>nomatch e),?_⟩))))
    cases hFr : L.filter (zk4 es L) with
    | nil =>
     refine zl2 (za9 (zl4 (zw9 (za4 (ze4 (za1 (zb0 NR (hr.mono (by decide)) rfl DR.at_ DR.fn.kp DR.bd (za4 (bv 4 rfl (za1 (bv 2 rfl ?_)))))))))))
     refine ⟨W++V,[ln D],ds.length,es,L,rfl,by rw [hU],by omega,hl,hL0,hLn,fun x hx hw=>?_,fun R hR=>⟨[.str "round",.tuple (za7 R)],rfl,(by show 2 <= by0; decide),_,W,V'++[ln D],rfl,by rw [hV',fy5],rfl,hcl,hkR' L R hLn hR⟩⟩
     have:=List.filter_eq_nil_iff.mp hFr x hx
     unfold zk4 at this
     rw [hw] at this
     exact this rfl
    | cons x0 Fr0 =>
     have htr2 : truD (.list (za7 (L.filter (zk4 es L)))) = true:=by rw [hFr]; rfl
     rw [<- hFr,htr2]
     refine zf7 (ze5 (za3 (zd22 (i:=3) ndRr rfl (Or.inl rfl) rfl (bv 5 rfl (zd26 zc9 rfl ?_ ?_)))))
     ·have:=qy2 (zk4 es L) L
      exact za8 (by simp only [zb4,za7,ay3]; omega)
     ·rw [zq2]
      have eF : OD.lst (zb4 (za7 D)++zb4 (za7 (L.filter (zk4 es L)))) = ln (D++L.filter (zk4 es L)):=by rw [za05,<- zB9]; rfl
      rw [eF]
      refine za9 (zc5 (i:=4) ndRr rfl (Or.inr rfl) (zf0 rfl ze64 (zz7 (bv 4 rfl ⟨_,rfl,zh2 (fun d=>!decide (numOf d∈L.filter (zk4 es L))) id trivial ?_ ?_ ?_⟩))))
      ·unfold za7
       rw [ay3]
       exact za8 (by omega)
      ·intro z hz
       obtain ⟨x,hx,rfl⟩:=dy6.mp hz
       refine zd1 (i:=0) ze67 rfl (by decide) (fun _ _ _ _ _=>Or.inl rfl) (fun _ _ _ _ _=>rfl) ⟨fun cl C ex s H=>?_,fun _ cl C ex s H=>bv 0 rfl ⟨rfl,rfl⟩⟩
       exact zc2 rfl (bv 0 rfl (bv 1 rfl (zc40 (zf3 hr) (.inl rfl) ⟨_,rfl,rfl,rfl⟩)))
      ·rw [zl9 L fun x=>!decide (x∈L.filter (zk4 es L)),zc42]
       refine ⟨⟨D++L.filter (zk4 es L),L.filter (fun x=>!zk4 es L x),_,rfl,rfl,?_,?_⟩,?_⟩
       ·rw [fy5]
        exact (List.Perm.append_left D (List.filter_append_perm (zk4 es L) L)).trans hp
       ·refine ht.app fun x hx y hy=>hin y (elt y x hy).1 fun hyL=>?_
        have hf:=(jy8.mp hx).2
        unfold zk4 zF4 at hf
        rw [List.isEmpty_iff,List.filter_eq_nil_iff] at hf
        exact hf y (za26.mpr hy) (decide_eq_true hyL)
       ·show (za7 (L.filter fun x=>!zk4 es L x)).length < (za7 L).length
        unfold za7
        rw [ay3,ay3]
        have h1:=(List.filter_append_perm (zk4 es L) L).length_eq
        rw [cy5,hFr,ry2] at h1
        omega
 ·rintro S' W' ⟨D,o5,rfl,rfl,hp,ht⟩
  have hDn : ∀ x∈D,x < ds.length:=fun x hx=>my0.mp (hp.mem_iff.mp hx)
  have hDl : D.length <= 100:=by rw [hp.length_eq,oy3]; exact hl
  refine za9 (zl4 (zw9 (za4 (ze4 (za1 (zp6 rfl T.tuple_ zk2 (za1 (zf0 rfl ze65 (zJ7 (bv 3 rfl ⟨_,za7 D,rfl,zc9,zn0 (zb15 ds) zc9 ?_ ?_ ?_⟩))))))))))
  ·unfold za7
   rw [ay3]
   exact za8 (by omega)
  ·intro z hz
   obtain ⟨x,hx,rfl⟩:=dy6.mp hz
   have hxn:=hDn x hx
   refine zd1 (i:=0) ze68 rfl (by decide) (fun _ _ _ _ _=>Or.inl rfl) (fun _ _ _ _ _=>rfl) fun cl C ex s H=>?_
   refine zb9 (by intro _ _; rfl) (bv 1 rfl (bv 0 rfl (zb5 (d:=zb15 ds (.int x)) (zb2 ?_) ⟨rfl,rfl⟩)))
   unfold zb15
   rw [show numOf (.int (x : Int)) = x by simp [numOf]]
   simp [hxn]
  ·rw [za28 hDn]
   refine zz5 (.inl rfl) ⟨[.str "row",rP (rowOf ds D)],rfl,(by show 2 <= by0; decide),_,W,V'++[ln D],rfl,by rw [hV',fy5],rfl,hcl,hkD' D hp ht⟩
end
/-- never more than n words under way between two hands -/
def Fits (ds : List za6) (n : Int) : Prop:=∀ i d,ds[i]? = some d->((zB8 (ds.take (i + 1)) d.x d.y).length : Int) <= n
def za29 : PyData->Bool
 | .int _=>true
 | _=>false
def zq4 : PyData->Bool
 | .none=>true
 | .int n=>decide (1 <= n) && decide (n <= 40)
 | _=>false
theorem zC0 {d : za6} : zx0 [PyData.str d.kd,.str d.x,.str d.y,.str d.w] (some 1) (some 3) = [.str d.x,.str d.y]:=rfl
section
variable {P : dy7} {w : World} {K : ay2} {mg : Str->Option Value} {base : Heap} {kA cN : Addr}
/-- what the class of the refusals is -/
structure TxtX (K : ay2) (mg : Str->Option Value) (cN : Addr) : Prop where
 at_ : mg "NoRooms" = some (.ref cN)
 ex : zd27 K cN
def zd77 : RB:=fun as W k=>∃ d : PyData,as = [.d d] /\ k (.d (.bool (za29 d))) W
theorem scWh : zc0 ["thing"] ["thing"] (za0 zo3):=⟨rfl,rfl,rfl,by decide +kernel,rfl,by decide +kernel,by decide +kernel⟩
theorem zb16 {f : Addr} {fd : ey8} (F : Fun K "is_whole" "is_whole" zo3 f fd) (T : Txt mg) : zj8 P w K mg base CX0 1 f fd ["thing"] (spB K zd77):=by
 refine zp7 F scWh (fun as W k ⟨d,e,_⟩=>by subst e; rfl) fun cdv A outer s H E hr F0 A0 as W k hcl ⟨d,e,hk⟩=>?_
 subst e
 refine za9 (ze2 (zu0 (zd6 rfl T.isi zo7 rfl T.int_ zc19 (by simp) (bv 0 rfl ⟨d,.inl rfl,_,rfl,?_⟩))))
 cases d with
 | int n=>exact zl2 (zt9 (zb37 (zd6 rfl T.isi zo7 rfl T.bool_ za04 (by simp) (bv 0 rfl ⟨_,.inl rfl,_,rfl,hk⟩))))
 | bool b=>exact zl2 (zt9 (zb37 (zd6 rfl T.isi zo7 rfl T.bool_ za04 (by simp) (bv 0 rfl ⟨_,.inl rfl,_,rfl,hk⟩))))
 | none=>exact zf7 hk
 | str y=>exact zf7 hk
 | list y=>exact zf7 hk
 | tuple y=>exact zf7 hk
 | dict y=>exact zf7 hk
def zd78 : RB:=fun as W k=>∃ d : PyData,as = [.d d] /\ k (.d (.bool (zq4 d))) W
theorem scRo : zc0 ["thing"] ["thing"] (za0 zi2):=⟨rfl,rfl,rfl,by decide +kernel,rfl,by decide +kernel,by decide +kernel⟩
theorem zb17 {f fW : Addr} {fd dW : ey8} (F : Fun K "is_rooms" "is_rooms" zi2 f fd) (T : Txt mg) (hM : ∃ t,mg "MOST_ROOMS" = some (.int 40 t)) (DW : Def K mg "is_whole" zo3 fW dW ["thing"]) : zj8 P w K mg base CX0 2 f fd ["thing"] (spB K zd78):=by
 have N:=@zb16 P w K mg base _ _ DW.fn T
 obtain ⟨t,hM⟩:=hM
 refine zp7 F scRo (fun as W k ⟨d,e,_⟩=>by subst e; rfl) fun cdv A outer s H E hr F0 A0 as W k hcl ⟨d,e,hk⟩=>?_
 subst e
 refine za9 (ze2 (zd14 (zm7 rfl (bv 0 rfl (zb35 (zb42 ⟨_,rfl,?_⟩))))))
 have no : ∀ d',d' = d->za29 d' = false->isNone d' = false->zq4 d' = false:=fun d' e h1 h2=>by
  cases d' with
  | none=>cases h2
  | int n=>cases h1
  | _=>rfl
 by_cases hN : isNone d = true
 ·rw [hN]
  have : zq4 d = true:=by cases d <;> first | rfl | cases hN
  rw [this] at hk
  exact zl2 hk
 ·rw [Bool.not_eq_true] at hN
  rw [hN]
  refine zf7 (zt9 (zu0 (zb0 N (hr.mono (by decide)) rfl DW.at_ DW.fn.kp DW.bd (za1 (bv 0 rfl ⟨d,rfl,_,rfl,?_⟩)))))
  cases hw : za29 d with
  | false =>
   rw [no d rfl hw hN] at hk
   exact zf7 hk
  | true =>
   obtain ⟨n,rfl⟩ : ∃ n,d = .int n:=by cases d <;> first | exact ⟨_,rfl⟩ | cases hw
   refine zl2 (zt9 (za72 (za2 (bv 0 rfl (zO4 ⟨_,rfl,?_⟩)))))
   have hk : k (.d (.bool (decide (1 <= n) && decide (n <= 40)))) W:=hk
   by_cases h1 : (1 : Int) <= n
   ·rw [decide_eq_true h1] at hk ⊢
    exact zl2 (gI hM (zO4 hk))
   ·rw [decide_eq_false h1] at hk ⊢
    exact zf7 hk
def zd79 (cN : Addr) : RX:=fun as W k x=>∃ d : PyData,as = [.d d] /\ (zq4 d = true->k (.d .none) W) /\ (zq4 d = false->x cN W)
theorem scCk : zc0 ["rooms"] ["rooms"] (za0 zs4):=⟨rfl,rfl,rfl,by decide +kernel,rfl,by decide +kernel,by decide +kernel⟩
theorem zb18 {f fR fW : Addr} {fd dR dW : ey8} (F : Fun K "check_rooms" "check_rooms" zs4 f fd) (T : Txt mg) (TX : TxtX K mg cN) (hM : ∃ t,mg "MOST_ROOMS" = some (.int 40 t)) (DR : Def K mg "is_rooms" zi2 fR dR ["thing"]) (DW : Def K mg "is_whole" zo3 fW dW ["thing"]) : zj8 P w K mg base (CXe P w) 3 f fd ["rooms"] (spX K (zd79 cN)):=by
 have N:=@zb17 P w K mg base _ _ _ _ DR.fn T hM DW
 refine fn_X F scCk (fun as W k x ⟨d,e,_⟩=>by subst e; rfl) fun X cdv A outer s H E xe F0 A0 as W k x hX hr hps xo hcl ⟨d,e,h1,h2⟩=>?_
 subst e
 subst hX
 refine za9 (zf2 (zg2 (zg7 (zb0 N (hr.mono (by decide)) rfl DR.at_ DR.fn.kp DR.bd (za1 (bv 0 rfl ⟨d,rfl,_,rfl,?_⟩))))))
 cases hb : zq4 d with
 | true=>exact zf7 (ze5 (h1 hb))
 | false=>exact zl2 (za9 (za74 xo rfl TX.ex TX.at_ (za1 (ze4 ⟨by show 1 <= by0; decide,h2 hb⟩))))
def rRun (cN : Addr) : RX:=fun as W k x=>∃ (ds : List za6) (d : PyData),as = [.d (rP ds),.d d] /\ (∀ d∈ds,d.Ok) /\ ds.length <= 100 /\ Goes ds /\ d ≠ .none /\ (∀ r : Nat,d = .int r->1 <= r->r <= 40->(∀ hs ps L R,Keys ds hs ps->(∀ x∈L,x < ds.length)->Round (zh6 ds r hs ps) L R->k (.d (.tuple [.str "round",.tuple (za7 R)])) W) /\ ∀ D,zI5 ds r D->k (.d (.tuple [.str "row",rP (rowOf ds D)])) W) /\ (zq4 d = false->∀ V,x cN (W++V))
abbrev nRw : List Str:=["story", "rooms"]
theorem scRw : zc0 nRw nRw (za0 zI0):=⟨rfl,rfl,rfl,by decide +kernel,rfl,by decide +kernel,by decide +kernel⟩
structure zc43 (K : ay2) (mg : Str->Option Value) (fRo fA fNb fH fWf fRa : Addr) (dRo dA dNb dH dWf dRa : ey8) : Prop where
 ro : Def K mg "row_or_round" zQ6 fRo dRo ["story", "rooms"]
 a : Def K mg "all_ahead" zw2 fA dA ["story", "rooms"]
 nb : Def K mg "numbers_by" zq1 fNb dNb ["story"]
 h : Def K mg "hand_of" zk0 fH dH ["deed"]
 wf : Def K mg "waits_for" zn2 fWf dWf nWf
 ra : Def K mg "round_among" zn3 fRa dRa ["left", "ahead"]
theorem zd80 {f fN fD fC fO fB fK fR fW fRo fA fNb fH fWf fRa : Addr} {fd dN dD dC dO dB dK dR dW dRo dA dNb dH dWf dRa : ey8} (F : Fun K "run_within" "run_within" zI0 f fd) (T : TxtN K mg kA) (TX : TxtX K mg cN) (hM : ∃ t,mg "MOST_ROOMS" = some (.int 40 t)) (DN : Def K mg "is_name" zs6 fN dN ["thing"]) (DD : Def K mg "is_deed" zB3 fD dD ["thing"]) (DC : Def K mg "can_be_done" zR3 fC dC ["lines", "deed"]) (DO : Def K mg "do_deed" sDo fO dO ["lines", "deed"])
  (DB : Def K mg "lines_behind" zn1 fB dB ["row"]) (DK : Def K mg "check_rooms" zs4 fK dK ["rooms"]) (DR : Def K mg "is_rooms" zi2 fR dR ["thing"]) (DW : Def K mg "is_whole" zo3 fW dW ["thing"]) (U : zc43 K mg fRo fA fNb fH fWf fRa dRo dA dNb dH dWf dRa) : zj8 P w K mg base (CXe P w) 5 f fd nRw (spX K (rRun cN)):=by
 have NB:=@za13 P w K mg base kA _ _ _ _ _ _ _ _ _ _ DB.fn T DN DD DC DO
 have NK:=@zb18 P w K mg base cN _ _ _ _ _ _ DK.fn T.t TX hM DR DW
 have NR:=@zd75 P w K mg base _ _ _ _ _ _ _ _ _ _ _ _ U.ro.fn T.t U.a U.nb U.h U.wf U.ra
 refine fn_X F scRw (fun as W k x ⟨ds,n,e,_⟩=>by subst e; rfl) fun X cdv A outer s H E xe F0 A0 as W k x hX hr hps xo hcl ⟨ds,dr,e,hok,hl,hgo,hdn,hk0,hx0⟩=>?_
 subst e
 subst hX
 refine za3 (ze6 (zb0 NB (hr.mono (by decide)) rfl DB.at_ DB.fn.kp DB.bd (za1 (bv 0 rfl ⟨ds,rfl,hok,by omega,hgo,fun V L0 hL0 hK0=>?_⟩))))
 refine za3 (ze6 (zs8 NK xo (hr.mono (by decide)) DK.at_ DK.fn.kp DK.bd (za1 (bv 1 rfl ⟨dr,rfl,fun hrm=>?_,fun hrm=>hx0 hrm V⟩))))
 obtain ⟨n,rfl,h1,h2⟩ : ∃ n : Nat,dr = .int n /\ 1 <= n /\ n <= 40:=by
  cases dr with
  | none=>exact absurd rfl hdn
  | int n =>
   have hrm : (decide (1 <= n) && decide (n <= 40)) = true:=hrm
   rw [iy3] at hrm
   have a1:=of_decide_eq_true hrm.1
   have a2:=of_decide_eq_true hrm.2
   exact ⟨n.toNat,by rw [Int.toNat_of_nonneg (by omega)],by omega,by omega⟩
  | _=>cases hrm
 obtain ⟨k1,k2⟩:=hk0 n rfl h1 h2
 refine za9 (zl4 (zb0 NR (hr.mono (by decide)) rfl U.ro.at_ U.ro.fn.kp U.ro.bd (za4 (bv 0 rfl (za1 (zd15 (zc2 rfl (bv 1 rfl (zb35 (zb42 ⟨_,rfl,zf7 (bv 1 rfl ⟨ds,n,rfl,hok,hl,fun hs ps L R a b c=>⟨_,W,V,rfl,rfl,rfl,hcl,k1 hs ps L R a b c⟩,fun D a=>⟨_,W,V,rfl,rfl,rfl,hcl,k2 D a⟩⟩)⟩))))))))))
end
def cnt (ds : List za6) (p : za6->Bool) (a : Nat) : Nat:=(ds.take a).countP p
def Is (ds : List za6) (p : za6->Bool) (a : Nat) : Prop:=∃ d,ds[a]? = some d /\ p d = true
theorem Is.lt {ds : List za6} {p : za6->Bool} {a : Nat} (h : Is ds p a) : a < ds.length:=by
 obtain ⟨d,h,_⟩:=h
 exact (ay0.mp h).1
theorem zj5 {ds : List za6} {a : Nat} {d : za6} (h : ds[a]? = some d) (p : za6->Bool) : cnt ds p (a + 1) = cnt ds p a + if p d = true then 1 else 0:=by
 unfold cnt
 rw [gy1,h]
 simp [List.countP_append,List.countP_cons]
theorem zb19 (ds : List za6) (p : za6->Bool) : cnt ds p 0 = 0:=by simp [cnt]
theorem zM1 {ds : List za6} {a b : Nat} (p : za6->Bool) (h : a <= b) : cnt ds p a <= cnt ds p b:=(List.take_sublist_take_left h).countP_le
theorem Is.succ {ds : List za6} {p : za6->Bool} {a : Nat} (h : Is ds p a) : cnt ds p (a + 1) = cnt ds p a + 1:=by
 obtain ⟨d,h,hp⟩:=h
 rw [zj5 h,if_pos hp]
theorem Is.mono {ds : List za6} {p : za6->Bool} {a b : Nat} (h : Is ds p a) (hb : a < b) : cnt ds p a < cnt ds p b:=by
 have:=zM1 (ds:=ds) p (show a + 1 <= b by omega)
 rw [h.succ] at this
 omega
theorem Is.inj {ds : List za6} {p : za6->Bool} {a b : Nat} (h : Is ds p a) (h' : Is ds p b) (e : cnt ds p a = cnt ds p b) : a = b:=by
 rcases Nat.lt_trichotomy a b with z | z | z
 ·have:=h.mono z; omega
 ·exact z
 ·have:=h'.mono z; omega
theorem Is.of_lt {ds : List za6} {p : za6->Bool} {a b : Nat} (h : Is ds p a) (h' : Is ds p b) (e : cnt ds p a < cnt ds p b) : a < b:=by
 rcases Nat.lt_trichotomy a b with z | z | z
 ·exact z
 ·subst z; omega
 ·have:=h'.mono z; omega
theorem zj6 {ds : List za6} (p : za6->Bool) : ∀ {b i : Nat},i < cnt ds p b->∃ a,a < b /\ Is ds p a /\ cnt ds p a = i
 | 0,i,h=>by rw [zb19] at h; omega
 | b + 1,i,h=>by
  cases hd : ds[b]? with
  | none =>
   have : cnt ds p (b + 1) = cnt ds p b:=by
    unfold cnt
    rw [gy1,hd]
    simp
   rw [this] at h
   obtain ⟨a,h1,h2⟩:=zj6 p h
   exact ⟨a,by omega,h2⟩
  | some d =>
   by_cases hi : i < cnt ds p b
   ·obtain ⟨a,h1,h2⟩:=zj6 p hi
    exact ⟨a,by omega,h2⟩
   ·rw [zj5 hd] at h
    by_cases hp : p d = true
    ·rw [if_pos hp] at h
     exact ⟨b,by omega,⟨d,hd,hp⟩,by omega⟩
    ·rw [if_neg hp] at h
     omega
theorem zM2 {ds : List za6} {p : za6->Bool} : ∀ {n : Nat},n <= ds.length->(numsOf ds n p).length = cnt ds p n /\ ∀ i a,(numsOf ds n p)[i]? = some a ↔ a < n /\ Is ds p a /\ cnt ds p a = i
 | 0,_=>⟨by simp [numsOf,cnt],fun i a=>by simp [numsOf]⟩
 | n + 1,hn=>by
  obtain ⟨h1,h2⟩:=zM2 (p:=p) (show n <= ds.length by omega)
  have hd : ds[n]? = some ds[n]:=ay7 (by omega)
  rw [zn5 hd,zj5 hd]
  by_cases hp : p ds[n] = true
  ·rw [if_pos hp,if_pos hp]
   refine ⟨by simp [h1],fun i a=>?_⟩
   by_cases hi : i < (numsOf ds n p).length
   ·rw [ay8 hi,h2]
    constructor
    ·rintro ⟨a1,a2,a3⟩
     exact ⟨by omega,a2,a3⟩
    ·rintro ⟨a1,a2,a3⟩
     refine ⟨?_,a2,a3⟩
     rcases Nat.lt_or_ge a n with z | z
     ·exact z
     ·have : a = n:=by omega
      subst this
      omega
   ·rw [dy1 (by omega)]
    constructor
    ·intro z
     have hl:=(ay0.mp z).1
     simp at hl
     have : i - (numsOf ds n p).length = 0:=by omega
     rw [this] at z
     simp at z
     subst z
     exact ⟨by omega,⟨_,hd,hp⟩,by omega⟩
    ·rintro ⟨a1,a2,a3⟩
     have : a = n:=by
      rcases Nat.lt_or_ge a n with z | z
      ·have:=a2.mono z
       omega
      ·omega
     subst this
     have : i - (numsOf ds a p).length = 0:=by omega
     rw [this]
     rfl
  ·rw [if_neg hp,if_neg hp,hy4]
   refine ⟨by omega,fun i a=>?_⟩
   rw [h2]
   constructor
   ·rintro ⟨a1,a2,a3⟩
    exact ⟨by omega,a2,a3⟩
   ·rintro ⟨a1,a2,a3⟩
    refine ⟨?_,a2,a3⟩
    rcases Nat.lt_or_ge a n with z | z
    ·exact z
    ·have : a = n:=by omega
     subst this
     obtain ⟨d,e1,e2⟩:=a2
     rw [hd] at e1
     cases e1
     exact absurd e2 hp
theorem zd0 {ds : List za6} {p : za6->Bool} {i a : Nat} : (numsOf ds ds.length p)[i]? = some a ↔ Is ds p a /\ cnt ds p a = i:=by
 rw [(zM2 (ay5 _)).2]
 exact ⟨fun h=>h.2,fun h=>⟨h.1.lt,h⟩⟩
structure Rank (ds : List za6) (r : Nat) (f : Nat->Nat) : Prop where
 v : ∀ h a b,Is ds (ze7 h) a->Is ds (ze7 h) b->a < b->f a < f b
 s : ∀ p a b,Is ds (zd9 p) a->Is ds (zc6 p) b->cnt ds (zd9 p) a = cnt ds (zc6 p) b->f a < f b
 t : ∀ p a b,Is ds (zc6 p) a->Is ds (zd9 p) b->cnt ds (zd9 p) b = cnt ds (zc6 p) a + r->f a < f b
def zd81 (ds : List za6) (r : Nat) : Prop:=∃ f,Rank ds r f
theorem zm0 {xs ys : List Nat} {a b : Nat} (h : (a,b)∈xs.zip ys) : ∃ i : Nat,xs[i]? = some a /\ ys[i]? = some b:=by
 obtain ⟨i,hi⟩:=ny6 h
 exact ⟨i,ny5.mp hi⟩
theorem zM3 {xs ys : List Nat} {a b i : Nat} (h : xs[i]? = some a) (h' : ys[i]? = some b) : (a,b)∈xs.zip ys:=by3 (ny5.mpr ⟨h,h'⟩)
theorem Rank.edge {ds : List za6} {r : Nat} {f : Nat->Nat} (h : Rank ds r f) {hs : List Str} {ps : List (Str × Str)} {a b : Nat} (he : (a,b)∈zh6 ds r hs ps) : f a < f b:=by
 unfold zh6 at he
 rcases by9.mp he with he | he
 ·obtain ⟨x,_,hx⟩:=hy7.mp he
  obtain ⟨i,h1,h2⟩:=zm0 hx
  rw [gy2] at h2
  obtain ⟨a1,a2⟩:=zd0.mp h1
  obtain ⟨b1,b2⟩:=zd0.mp h2
  exact h.v x a b a1 b1 (a1.of_lt b1 (by omega))
 ·obtain ⟨x,_,hx⟩:=hy7.mp he
  rcases by9.mp hx with hx | hx
  ·obtain ⟨i,h1,h2⟩:=zm0 hx
   obtain ⟨a1,a2⟩:=zd0.mp h1
   obtain ⟨b1,b2⟩:=zd0.mp h2
   exact h.s x a b a1 b1 (by omega)
  ·obtain ⟨i,h1,h2⟩:=zm0 hx
   rw [gy2] at h2
   obtain ⟨a1,a2⟩:=zd0.mp h1
   obtain ⟨b1,b2⟩:=zd0.mp h2
   exact h.t x a b a1 b1 (by omega)
theorem Round.za30 {ds : List za6} {r : Nat} {hs : List Str} {ps : List (Str × Str)} {L R : List Nat} (h : Round (zh6 ds r hs ps) L R) : ¬ zd81 ds r:=by
 rintro ⟨f,hf⟩
 obtain ⟨a,b,h0,hb,he⟩:=h.last
 have up : ∀ (i c : Nat),R[i]? = some c->f a <= f c:=by
  intro i
  induction i with
  | zero=>intro c hc; rw [h0] at hc; cases hc; exact ay5 _
  | succ i ih =>
   intro c hc
   have hl:=(ay0.mp hc).1
   have hi : R[i]? = some R[i]:=ay7 (by omega)
   have:=ih _ hi
   have:=hf.edge (h.next i _ _ hi hc)
   omega
 rw [List.getLast?_eq_getElem?] at hb
 have:=up _ _ hb
 have:=hf.edge he
 omega
/-- the rank of an order that was told -/
theorem zv9 {D : List Nat} (hn : D.Nodup) {i x : Nat} (h : D[i]? = some x) : D.idxOf x = i:=by
 have hi:=(ay0.mp h).1
 have hx : x∈D:=by3 h
 have hl:=List.idxOf_lt_length_of_mem hx
 have:=List.getElem_idxOf hl
 have e : D[D.idxOf x]? = D[i]?:=by rw [h,ay7 hl,this]
 exact (List.getElem?_inj hl hn).mp e
theorem zC1 {D : List Nat} (hn : D.Nodup) {t y : Nat} : y∈D.take t ↔ y∈D /\ D.idxOf y < t:=by
 constructor
 ·intro h
  obtain ⟨i,hi⟩:=ny6 h
  have hl:=(ay0.mp hi).1
  rw [iy2] at hl
  rw [dy9 (by omega)] at hi
  rw [zv9 hn hi]
  exact ⟨by3 hi,by omega⟩
 ·rintro ⟨h1,h2⟩
  obtain ⟨i,hi⟩:=ny6 h1
  rw [zv9 hn hi] at h2
  exact by3 (i:=i) (by rw [dy9 h2]; exact hi)
theorem zb21 {es : List (Nat × Nat)} {D : List Nat} (hn : D.Nodup) (h : Topo es D) {x y : Nat} (hx : x∈D) (he : (y,x)∈es) : D.idxOf y < D.idxOf x:=by
 obtain ⟨a,b,e⟩:=List.append_of_mem hx
 have hy:=h a x b e y he
 have e1 : D[a.length]? = some x:=by rw [e]; simp
 rw [zv9 hn e1]
 obtain ⟨i,hi⟩:=ny6 hy
 have hl:=(ay0.mp hi).1
 have e2 : D[i]? = some y:=by rw [e,ay8 hl]; exact hi
 rw [zv9 hn e2]
 exact hl
theorem zg0 {p : Str × Str} {d : za6} (h : zd9 p d = true) : d.tk = false /\ (d.x,d.y) = p /\ ze7 p.1 d = true:=by
 unfold zd9 at h
 rw [iy3] at h
 have h2:=of_decide_eq_true h.2
 have h1 : d.tk = false:=by simpa using h.1
 refine ⟨h1,h2,?_⟩
 unfold ze7 handOf
 rw [h1,<- h2]
 simp
theorem ze8 {p : Str × Str} {d : za6} (h : zc6 p d = true) : d.tk = true /\ (d.x,d.y) = p /\ ze7 p.2 d = true:=by
 unfold zc6 at h
 rw [iy3] at h
 have h2:=of_decide_eq_true h.2
 refine ⟨h.1,h2,?_⟩
 unfold ze7 handOf
 rw [h.1,<- h2]
 simp
theorem Is.vs {ds : List za6} {p : Str × Str} {a : Nat} (h : Is ds (zd9 p) a) : Is ds (ze7 p.1) a:=by
 obtain ⟨d,h,hd⟩:=h
 exact ⟨d,h,(zg0 hd).2.2⟩
theorem Is.vt {ds : List za6} {p : Str × Str} {a : Nat} (h : Is ds (zc6 p) a) : Is ds (ze7 p.2) a:=by
 obtain ⟨d,h,hd⟩:=h
 exact ⟨d,h,(ze8 hd).2.2⟩
theorem zI5.rank {ds : List za6} {r : Nat} {D : List Nat} (h : zI5 ds r D) : Rank ds r fun x=>D.idxOf x:=by
 obtain ⟨hp,hs,ps,hk,ht⟩:=h
 have hn : D.Nodup:=hp.nodup_iff.mpr List.nodup_range
 have hm : ∀ x,x < ds.length->x∈D:=fun x hx=>hp.mem_iff.mpr (my0.mpr hx)
 have key : ∀ {a b : Nat},b < ds.length->(a,b)∈zh6 ds r hs ps->D.idxOf a < D.idxOf b:=fun hb he=>zb21 hn ht (hm _ hb) he
 refine ⟨fun x a b ha hb hab=>?_,fun p a b ha hb e=>?_,fun p a b ha hb e=>?_⟩
 ·have hx : x∈hs:=by
   obtain ⟨d,e1,e2⟩:=ha
   have:=hk.ha a d (ay0.mp e1).1 e1
   rw [of_decide_eq_true e2] at this
   exact this
  have go : ∀ k c,Is ds (ze7 x) c->cnt ds (ze7 x) c = cnt ds (ze7 x) a + 1 + k->D.idxOf a < D.idxOf c:=by
   intro k
   induction k with
   | zero =>
    intro c hc e
    refine key hc.lt (fy6 _ (hy7.mpr ⟨x,hx,zM3 (i:=cnt ds (ze7 x) a) (zd0.mpr ⟨ha,rfl⟩) ?_⟩))
    rw [gy2]
    exact zd0.mpr ⟨hc,by omega⟩
   | succ k ih =>
    intro c hc e
    obtain ⟨c',h1,h2,h3⟩:=zj6 (ze7 x) (ds:=ds) (b:=c) (i:=cnt ds (ze7 x) a + 1 + k) (by omega)
    have i1:=ih c' h2 h3
    have i2 : D.idxOf c' < D.idxOf c:=by
     refine key hc.lt (fy6 _ (hy7.mpr ⟨x,hx,zM3 (i:=cnt ds (ze7 x) c') (zd0.mpr ⟨h2,rfl⟩) ?_⟩))
     rw [gy2]
     exact zd0.mpr ⟨hc,by omega⟩
    omega
  have:=ha.mono hab
  exact go (cnt ds (ze7 x) b - cnt ds (ze7 x) a - 1) b hb (by omega)
 ·have hx : p∈ps:=by
   obtain ⟨d,e1,e2⟩:=ha
   have:=hk.pa a d (ay0.mp e1).1 e1
   rw [(zg0 e2).2.1] at this
   exact this
  exact key hb.lt (dy5 _ (hy7.mpr ⟨p,hx,fy6 _ (zM3 (i:=cnt ds (zd9 p) a) (zd0.mpr ⟨ha,rfl⟩) (zd0.mpr ⟨hb,e.symm⟩))⟩))
 ·have hx : p∈ps:=by
   obtain ⟨d,e1,e2⟩:=ha
   have:=hk.pa a d (ay0.mp e1).1 e1
   rw [(ze8 e2).2.1] at this
   exact this
  refine key hb.lt (dy5 _ (hy7.mpr ⟨p,hx,dy5 _ (zM3 (i:=cnt ds (zc6 p) a) (zd0.mpr ⟨ha,rfl⟩) ?_)⟩))
  rw [gy2]
  exact zd0.mpr ⟨hb,by omega⟩
def wordAt (ds : List za6) (a : Nat) : Option Str:=ds[a]?.map (·.w)
def zb57 (ds : List za6) (p : Str × Str) (b : Nat) : Prop:=∃ a,a < b /\ Is ds (zd9 p) a /\ cnt ds (zd9 p) a = cnt ds (zc6 p) b /\ wordAt ds a = wordAt ds b
def Fifo (ds : List za6) : Prop:=∀ p b,Is ds (zc6 p) b->zb57 ds p b
def zw0 (ds : List za6) (p : Str × Str) (t : Nat) : List Str:=((ds.take t).filter (zd9 p)).map (·.w)
theorem zh4 (ds : List za6) (p : Str × Str) (t : Nat) : (zw0 ds p t).length = cnt ds (zd9 p) t:=by
 unfold zw0 cnt
 rw [ay3,jy7]
theorem zx6 {ds : List za6} {t : Nat} {d : za6} (h : ds[t]? = some d) (p : Str × Str) : zw0 ds p (t + 1) = zw0 ds p t++if zd9 p d = true then [d.w] else []:=by
 unfold zw0
 rw [gy1,h]
 simp only [Option.toList,gy5,fy1,ky2,List.filter_nil]
 split <;> rfl
theorem zC2 {ds : List za6} {p : Str × Str} {a : Nat} (h : Is ds (zd9 p) a) : ∀ {t : Nat},a < t->t <= ds.length->(zw0 ds p t)[cnt ds (zd9 p) a]? = wordAt ds a
 | 0,z,_=>by omega
 | t + 1,z,ht=>by
  have hd : ds[t]? = some ds[t]:=ay7 (by omega)
  rw [zx6 hd]
  by_cases e : a = t
  ·subst e
   obtain ⟨d,e1,e2⟩:=h
   rw [hd] at e1
   cases e1
   rw [if_pos e2,dy1 (by rw [zh4]; omega),zh4,Nat.sub_self]
   unfold wordAt
   rw [hd]
   rfl
  ·have hat : a < t:=by omega
   have hl:=h.mono hat
   rw [ay8 (by rw [zh4]; exact hl)]
   exact zC2 h hat (by omega)
structure Queue (ds : List za6) (t : Nat) : Prop where
 le : ∀ p,cnt ds (zc6 p) t <= cnt ds (zd9 p) t
 ws : ∀ x y,zB8 (ds.take t) x y = (zw0 ds (x,y) t).drop (cnt ds (zc6 (x,y)) t)
theorem zb58 (ds : List za6) : Queue ds 0:=⟨fun p=>by simp [cnt],fun x y=>by simp [zB8,zw0]⟩
theorem Queue.can {ds : List za6} {t : Nat} {d : za6} (h : Queue ds t) (hd : ds[t]? = some d) (ht : d.tk = true) : canF (zB8 (ds.take t)) d = true ↔ zb57 ds (d.x,d.y) t:=by
 have htl:=(ay0.mp hd).1
 unfold canF
 rw [ht,h.ws]
 simp only [Bool.not_true,Bool.false_or,decide_eq_true_eq]
 have e1 : ((zw0 ds (d.x,d.y) t).drop (cnt ds (zc6 (d.x,d.y)) t)).take 1 = [d.w] ↔ (zw0 ds (d.x,d.y) t)[cnt ds (zc6 (d.x,d.y)) t]? = some d.w:=by
  generalize zw0 ds (d.x,d.y) t = l
  generalize cnt ds (zc6 (d.x,d.y)) t = k
  have : l[k]? = (l.drop k)[0]?:=by rw [gy2]; rfl
  rw [this]
  cases l.drop k with
  | nil=>simp
  | cons a u=>simp
 rw [e1]
 constructor
 ·intro z
  have hl:=(ay0.mp z).1
  rw [zh4] at hl
  obtain ⟨a,a1,a2,a3⟩:=zj6 (zd9 (d.x,d.y)) hl
  refine ⟨a,a1,a2,a3,?_⟩
  rw [<- zC2 a2 a1 (by omega),a3,z]
  unfold wordAt
  rw [hd]
  rfl
 ·rintro ⟨a,a1,a2,a3,a4⟩
  rw [<- a3,zC2 a2 a1 (by omega),a4]
  unfold wordAt
  rw [hd]
  rfl
theorem Queue.step {ds : List za6} {t : Nat} {d : za6} (h : Queue ds t) (hd : ds[t]? = some d) (hc : canF (zB8 (ds.take t)) d = true) : Queue ds (t + 1):=by
 have htl:=(ay0.mp hd).1
 have hs : ∀ p,zd9 p d = true->zc6 p d = false:=fun p z=>by
  unfold zc6
  rw [(zg0 z).1]
  rfl
 refine ⟨fun p=>?_,fun x y=>?_⟩
 ·have:=h.le p
  rw [zj5 hd,zj5 hd]
  by_cases z : zc6 p d = true
  ·rw [if_pos z]
   obtain ⟨z1,z2,_⟩:=ze8 z
   subst z2
   obtain ⟨a,a1,a2,a3,_⟩:=(h.can hd z1).mp hc
   have:=a2.mono a1
   omega
  ·rw [if_neg z]
   omega
 ·rw [zL5 hd,zx6 hd,zj5 hd]
  unfold zB7
  by_cases e : x = d.x /\ y = d.y
  ·obtain ⟨rfl,rfl⟩:=e
   rw [if_pos ⟨rfl,rfl⟩,h.ws]
   unfold zv4
   have hle:=h.le (d.x,d.y)
   cases ht : d.tk with
   | true =>
    have z1 : zc6 (d.x,d.y) d = true:=by unfold zc6; rw [ht]; simp
    have z2 : zd9 (d.x,d.y) d = false:=by unfold zd9; rw [ht]; rfl
    rw [if_pos rfl,z1,z2]
    simp
   | false =>
    have z1 : zc6 (d.x,d.y) d = false:=by unfold zc6; rw [ht]; rfl
    have z2 : zd9 (d.x,d.y) d = true:=by unfold zd9; rw [ht]; simp
    rw [if_neg (by decide),z1,z2]
    simp only [if_true,ny2,if_false,Nat.add_zero]
    rw [List.drop_append_of_le_length (by rw [zh4]; exact hle)]
  ·rw [if_neg e,h.ws]
   have z1 : zc6 (x,y) d = false:=by
    unfold zc6
    rw [Bool.and_eq_false_iff]
    exact .inr (decide_eq_false fun z=>e ⟨(congrArg Prod.fst z).symm,(congrArg Prod.snd z).symm⟩)
   have z2 : zd9 (x,y) d = false:=by
    unfold zd9
    rw [Bool.and_eq_false_iff]
    exact .inr (decide_eq_false fun z=>e ⟨(congrArg Prod.fst z).symm,(congrArg Prod.snd z).symm⟩)
   rw [z1,z2]
   simp
theorem zq5 {ds : List za6} (h : Goes ds) : ∀ {t : Nat},t <= ds.length->Queue ds t
 | 0,_=>zb58 ds
 | t + 1,ht=>by
  have hd : ds[t]? = some ds[t]:=ay7 (by omega)
  exact (zq5 h (by omega)).step hd (h t _ hd)
theorem Goes.fifo {ds : List za6} (h : Goes ds) : Fifo ds:=fun p b hb=>by
 obtain ⟨d,e1,e2⟩:=hb
 obtain ⟨z1,z2,_⟩:=ze8 e2
 subst z2
 have hl:=(ay0.mp e1).1
 exact ((zq5 h (my8 hl)).can e1 z1).mp (h b d e1)
theorem zM4 {f : Wd} {d : za6} (h : d.tk = false) : canF f d = true:=by unfold canF; rw [h]; rfl
theorem Fifo.goes {ds : List za6} (h : Fifo ds) : Goes ds:=by
 have key : ∀ {t : Nat},t <= ds.length->Queue ds t:=by
  intro t
  induction t with
  | zero=>exact fun _=>zb58 ds
  | succ t ih =>
   intro ht
   have q:=ih (by omega)
   have hd : ds[t]? = some ds[t]:=ay7 (by omega)
   refine q.step hd ?_
   cases hk : ds[t].tk with
   | false=>exact zM4 hk
   | true=>exact (q.can hd hk).mpr (h _ t ⟨_,hd,by unfold zc6; rw [hk]; simp⟩)
 intro i d hd
 have hl:=(ay0.mp hd).1
 cases hk : d.tk with
 | false=>exact zM4 hk
 | true=>exact ((key (my8 hl)).can hd hk).mpr (h _ i ⟨_,hd,by unfold zc6; rw [hk]; simp⟩)
def Even (ds : List za6) : Prop:=∀ p,cnt ds (zd9 p) ds.length = cnt ds (zc6 p) ds.length
theorem zc44 {ds : List za6} (h : Goes ds) (hn : ∀ x y,zB8 ds x y = []) : Even ds:=fun p=>by
 have q:=zq5 h (ay5 _)
 have h1:=q.ws p.1 p.2
 rw [hy6,hn] at h1
 have h2:=congrArg List.length h1
 rw [ky1,zh4] at h2
 have:=q.le p
 have e : (p.1,p.2) = p:=rfl
 rw [e] at h2
 simp at h2
 omega
theorem zI6 {ds : List za6} : ∀ {D : List Nat},(∀ x∈D,x < ds.length)->(rowOf ds D).length = D.length /\ ∀ t : Nat,(rowOf ds D)[t]? = D[t]?.bind fun x=>ds[x]?
 | [],_=>⟨rfl,fun t=>by simp [rowOf]⟩
 | x :: D,h=>by
  obtain ⟨h1,h2⟩:=zI6 (ds:=ds) (D:=D) fun y hy=>h y (by8 _ hy)
  have hx:=h x by5
  have e : rowOf ds (x :: D) = ds[x] :: rowOf ds D:=by
   unfold rowOf
   rw [ky5,ay7 hx]
  rw [e]
  refine ⟨by simp [h1],fun t=>?_⟩
  cases t with
  | zero=>simp [hx]
  | succ t=>simp [h2]
structure Odr (ds : List za6) (D : List Nat) : Prop where
 nd : D.Nodup
 mem : ∀ x,x∈D ↔ x < ds.length
 len : (rowOf ds D).length = D.length
 at_ : ∀ (t x : Nat),D[t]? = some x->(rowOf ds D)[t]? = ds[x]?
theorem zM5 {ds : List za6} {D : List Nat} (h : D.Perm (ey5 ds.length)) : Odr ds D:=by
 have hm : ∀ x,x∈D ↔ x < ds.length:=fun x=>h.mem_iff.trans my0
 obtain ⟨h1,h2⟩:=zI6 (ds:=ds) (D:=D) fun x hx=>(hm x).mp hx
 exact ⟨h.nodup_iff.mpr List.nodup_range,hm,h1,fun t x e=>by rw [h2,e]; rfl⟩
theorem zc45 (ds : List za6) : rowOf ds (ey5 ds.length) = ds:=by
 refine my2 fun t=>?_
 rw [(zI6 fun x hx=>my0.mp hx).2 t]
 by_cases h : t < ds.length
 ·simp [h]
 ·simp [h]
theorem zM6 {ds : List za6} {D : List Nat} (h : D.Perm (ey5 ds.length)) : (rowOf ds D).Perm ds:=by
 have:=h.filterMap fun i=>ds[i]?
 have e:=zc45 ds
 unfold rowOf at e ⊢
 rw [e] at this
 exact this
/-- the deeds of one kind keep their order -/
def Keep (ds : List za6) (D : List Nat) (q : za6->Bool) : Prop:=∀ a b,Is ds q a->Is ds q b->a < b->D.idxOf a < D.idxOf b
theorem zq6 {ds : List za6} {D : List Nat} {q : za6->Bool} (o : Odr ds D) (hk : Keep ds D q) : ∀ {t : Nat},t <= D.length->(∀ i,Is ds q i->(i∈D.take t ↔ cnt ds q i < cnt (rowOf ds D) q t)) /\ ∀ x : Nat,D[t]? = some x->Is ds q x->cnt ds q x = cnt (rowOf ds D) q t:=by
 have two : ∀ {t : Nat},(∀ i,Is ds q i->(i∈D.take t ↔ cnt ds q i < cnt (rowOf ds D) q t))->∀ x,D[t]? = some x->Is ds q x->cnt ds q x = cnt (rowOf ds D) q t:=by
  intro t ih x hx hq
  have n1 : ¬ cnt ds q x < cnt (rowOf ds D) q t:=fun z=>by
   have:=(zC1 o.nd).mp ((ih x hq).mpr z)
   rw [zv9 o.nd hx] at this
   omega
  have n2 : ¬ cnt (rowOf ds D) q t < cnt ds q x:=fun z=>by
   obtain ⟨a,a1,a2,a3⟩:=zj6 q z
   have:=hk a x a2 hq a1
   rw [zv9 o.nd hx] at this
   have:=(ih a a2).mp ((zC1 o.nd).mpr ⟨(o.mem a).mpr a2.lt,this⟩)
   omega
  omega
 intro t
 induction t with
 | zero=>exact fun _=>⟨fun i hi=>by simp [cnt],two fun i hi=>by simp [cnt]⟩
 | succ t ih =>
  intro ht
  obtain ⟨i1,i2⟩:=ih (by omega)
  have hx : D[t]? = some D[t]:=ay7 (by omega)
  have hxl:=(o.mem _).mp (by3 hx)
  have hd : (rowOf ds D)[t]? = some ds[D[t]]:=(o.at_ t _ hx).trans (ay7 hxl)
  have one : ∀ i,Is ds q i->(i∈D.take (t + 1) ↔ cnt ds q i < cnt (rowOf ds D) q (t + 1)):=by
   intro i hi
   rw [gy1,hx,zj5 hd,by9,i1 i hi]
   by_cases hq : q ds[D[t]] = true
   ·have hI : Is ds q D[t]:=⟨_,ay7 hxl,hq⟩
    have e:=i2 _ hx hI
    rw [if_pos hq]
    constructor
    ·rintro (z | z)
     ·omega
     ·simp at z
      subst z
      omega
    ·intro z
     by_cases z2 : cnt ds q i < cnt (rowOf ds D) q t
     ·exact .inl z2
     ·right
      have:=hi.inj hI (by omega)
      simp [this]
   ·rw [if_neg hq]
    constructor
    ·rintro (z | z)
     ·omega
     ·simp at z
      subst z
      obtain ⟨d,e1,e2⟩:=hi
      rw [ay7 hxl] at e1
      cases e1
      exact absurd e2 hq
    ·intro z
     exact .inl (by omega)
  exact ⟨one,two one⟩
theorem Rank.zd82 {ds : List za6} {r : Nat} {D : List Nat} (h : Rank ds r fun x=>D.idxOf x) (p : Str × Str) : Keep ds D (zd9 p):=fun a b ha hb z=>h.v p.1 a b ha.vs hb.vs z
theorem Rank.zd83 {ds : List za6} {r : Nat} {D : List Nat} (h : Rank ds r fun x=>D.idxOf x) (p : Str × Str) : Keep ds D (zc6 p):=fun a b ha hb z=>h.v p.2 a b ha.vt hb.vt z
theorem Odr.is_ {ds : List za6} {D : List Nat} (o : Odr ds D) {q : za6->Bool} {t : Nat} (h : Is (rowOf ds D) q t) : ∃ x,D[t]? = some x /\ Is ds q x:=by
 obtain ⟨d,e1,e2⟩:=h
 have hl:=(ay0.mp e1).1
 rw [o.len] at hl
 have hx : D[t]? = some D[t]:=ay7 hl
 exact ⟨_,hx,d,(o.at_ t _ hx).symm.trans e1,e2⟩
theorem zb22 {ds : List za6} {r : Nat} {D : List Nat} (hg : Goes ds) (o : Odr ds D) (h : Rank ds r fun x=>D.idxOf x) : Fifo (rowOf ds D):=fun p b hb=>by
 obtain ⟨x,hx,hI⟩:=o.is_ hb
 have hbl:=(ay0.mp hx).1
 obtain ⟨a,a1,a2,a3,a4⟩:=hg.fifo p x hI
 have hlt:=h.s p a x a2 hI a3
 have ha : D[D.idxOf a]? = some a:=by
  have hl:=List.idxOf_lt_length_of_mem ((o.mem a).mpr a2.lt)
  rw [ay7 hl,List.getElem_idxOf hl]
 have hal:=(ay0.mp ha).1
 simp only [zv9 o.nd hx] at hlt
 refine ⟨D.idxOf a,hlt,?_,?_,?_⟩
 ·obtain ⟨d,e1,e2⟩:=a2
  exact ⟨d,(o.at_ _ _ ha).trans e1,e2⟩
 ·rw [<- (zq6 o (h.zd82 p) (my8 hal)).2 a ha a2,<- (zq6 o (h.zd83 p) (my8 hbl)).2 x hx hI,a3]
 ·unfold wordAt at a4 ⊢
  rw [o.at_ _ _ ha,o.at_ _ _ hx]
  exact a4
/-- the row told goes and keeps to the rooms -/
theorem zI5.goes {ds : List za6} {r : Nat} {D : List Nat} (h : zI5 ds r D) (hg : Goes ds) : Goes (rowOf ds D):=(zb22 hg (zM5 h.perm) h.rank).goes
theorem zI5.za31 {ds : List za6} {r : Nat} {D : List Nat} (h : zI5 ds r D) (q : za6->Bool) : cnt (rowOf ds D) q (rowOf ds D).length = cnt ds q ds.length:=by
 unfold cnt
 rw [hy6,hy6,(zM6 h.perm).countP_eq]
theorem zI5.rooms {ds : List za6} {r : Nat} {D : List Nat} (h : zI5 ds r D) (he : Even ds) (p : Str × Str) {t : Nat} (ht : t <= D.length) : cnt (rowOf ds D) (zd9 p) t <= cnt (rowOf ds D) (zc6 p) t + r:=by
 have o:=zM5 h.perm
 have hR:=h.rank
 by_cases hs : cnt (rowOf ds D) (zd9 p) t <= r
 ·omega
 ·have h1 : cnt (rowOf ds D) (zd9 p) t <= cnt ds (zd9 p) ds.length:=by
   rw [<- h.za31]
   exact zM1 _ (by rw [o.len]; exact ht)
  obtain ⟨b,b1,b2,b3⟩:=zj6 (zd9 p) (ds:=ds) (b:=ds.length) (i:=cnt (rowOf ds D) (zd9 p) t - 1) (by omega)
  have hb:=(zC1 o.nd).mp (((zq6 o (hR.zd82 p) ht).1 b b2).mpr (by omega))
  obtain ⟨a,a1,a2,a3⟩:=zj6 (zc6 p) (ds:=ds) (b:=ds.length) (i:=cnt (rowOf ds D) (zd9 p) t - 1 - r) (by rw [<- he p]; omega)
  have hlt:=hR.t p a b a2 b2 (by omega)
  have:=((zq6 o (hR.zd83 p) ht).1 a a2).mp ((zC1 o.nd).mpr ⟨(o.mem a).mpr a2.lt,by omega⟩)
  omega
theorem zI5.fits {ds : List za6} {r : Nat} {D : List Nat} (h : zI5 ds r D) (hg : Goes ds) (he : Even ds) : Fits (rowOf ds D) r:=fun i d hd=>by
 have hl:=(ay0.mp hd).1
 have o:=zM5 h.perm
 have q:=zq5 (h.goes hg) (t:=i + 1) hl
 rw [q.ws,ky1,zh4]
 have:=h.rooms he (d.x,d.y) (t:=i + 1) (by rw [<- o.len]; exact hl)
 omega
def vw (ds : List za6) (h : Str) : List za6:=ds.filter (ze7 h)
theorem zI7 {ds : List za6} (q : za6->Bool) (a : Nat) : (ds.filter q).take (cnt ds q a) = (ds.take a).filter q:=by
 have e : ds.filter q = (ds.take a).filter q++(ds.drop a).filter q:=by rw [<- gy5,List.take_append_drop]
 have : cnt ds q a = ((ds.take a).filter q).length:=by unfold cnt; rw [jy7]
 rw [e,this,List.take_left]
theorem zF5 {ds : List za6} {q : za6->Bool} {a : Nat} (h : Is ds q a) : (ds.filter q)[cnt ds q a]? = ds[a]?:=by
 obtain ⟨d,hd,hq⟩:=h
 have h1:=zI7 (ds:=ds) q (a + 1)
 have h2 : cnt ds q (a + 1) = cnt ds q a + 1:=by rw [zj5 hd,if_pos hq]
 have h3 : (ds.filter q)[cnt ds q a]? = ((ds.filter q).take (cnt ds q (a + 1)))[cnt ds q a]?:=by rw [dy9 (by omega)]
 rw [h3,h1,gy1,hd,gy5]
 have h4 : ((ds.take a).filter q).length = cnt ds q a:=by unfold cnt; rw [jy7]
 rw [dy1 (by omega),h4]
 simp [hq]
theorem za32 (ds : List za6) (h : Str) : (vw ds h).length = cnt ds (ze7 h) ds.length:=by
 unfold vw cnt
 rw [hy6,jy7]
theorem zc46 {ds : List za6} {h : Str} {i : Nat} (hi : i < (vw ds h).length) : ∃ a,Is ds (ze7 h) a /\ cnt ds (ze7 h) a = i /\ (vw ds h)[i]? = ds[a]? /\ (numsOf ds ds.length (ze7 h)).getD i 0 = a:=by
 rw [za32] at hi
 obtain ⟨a,_,h2,h3⟩:=zj6 (ze7 h) hi
 refine ⟨a,h2,h3,?_,?_⟩
 ·rw [<- h3]
  exact zF5 h2
 ·rw [List.getD_eq_getElem?_getD,zd0.mpr ⟨h2,h3⟩]
  rfl
def za33 (x : Str) : PyData->Bool
 | .tuple [.str k,.str a,.str b,_]=>decide ((if k = "send" then a else b) = x)
 | _=>false
theorem zM7 (x : Str) (d : za6) : za33 x (dP d) = ze7 x d:=by
 obtain ⟨tk,a,b,w⟩:=d
 cases tk with
 | false=>rfl
 | true =>
  show decide ((if ("take" : Str) = "send" then a else b) = x) = decide (b = x)
  rw [if_neg zF3]
theorem za34 (ds : List za6) (x : Str) : ((ds.map dP).filter (za33 x)).map id = (vw ds x).map dP:=by
 rw [List.map_id,List.filter_map]
 unfold vw
 congr 1
 exact List.filter_congr fun d _=>zM7 x d
theorem zb23 {ls pre post : List Lt} {l : Lt} (e : ls = pre++l :: post) (hp : ∀ o∈pre,same o l = false) : l∈zc8 ls:=by
 have hl : l∈ls:=by rw [e]; simp
 obtain ⟨o,ho,hs⟩:=(zl0 _ ls rfl).2 l hl
 obtain ⟨pre',post',e',hp'⟩:=(zl0 _ ls rfl).1 o ho
 have hs' : same o l = true:=by rw [za14]; exact hs
 have key : l = o:=by
  have h1 : ls[pre.length]? = some l:=by rw [e]; simp
  have h2 : ls[pre'.length]? = some o:=by rw [e']; simp
  rcases Nat.lt_trichotomy pre.length pre'.length with z | z | z
  ·exfalso
   have : l∈pre':=by
    rw [e',ay8 z] at h1
    exact by3 h1
   rw [hp' l this] at hs
   cases hs
  ·rw [z,h2] at h1
   cases h1
   rfl
  ·exfalso
   have : o∈pre:=by
    rw [e,ay8 z] at h2
    exact by3 h2
   rw [hp o this] at hs'
   cases hs'
 rw [key]
 exact ho
theorem za35 {ls : List Lt} {x y w : Str} (h : (zo8 ls x y).take 1 = [w]) : ∃ pre post,ls = pre++⟨x,y,w⟩ :: post /\ ∀ o∈pre,same o ⟨x,y,w⟩ = false:=by
 induction ls with
 | nil=>simp [zo8] at h
 | cons a ls ih =>
  unfold zo8 at h ih
  rw [ky2] at h
  by_cases c : a.x = x /\ a.y = y
  ·rw [if_pos (decide_eq_true c)] at h
   obtain ⟨ax,ay,aw⟩:=a
   obtain ⟨rfl,rfl⟩:=c
   simp at h
   subst h
   exact ⟨[],ls,rfl,by simp⟩
  ·rw [if_neg (by simpa using c)] at h
   obtain ⟨pre,post,e,hp⟩:=ih h
   refine ⟨a :: pre,post,by rw [e]; rfl,fun o ho=>?_⟩
   rcases cy4.mp ho with rfl | ho
   ·unfold same
    exact decide_eq_false c
   ·exact hp o ho
theorem zd84 (ls : List Lt) (l : Lt) : ((ls.map lP).any fun z=>ey0 z (lP l)) = decide (l∈ls):=by
 rw [List.any_map,gy4]
 simp only [List.any_eq_true,sy5,decide_eq_true_eq,zd64]
 exact ⟨fun ⟨y,hy,e⟩=>e ▸ hy,fun h=>⟨l,h,rfl⟩⟩
section
variable {P : dy7} {w : World} {K : ay2} {mg : Str->Option Value} {base : Heap} {kA cN : Addr}
def zd85 : RB:=fun as W k=>∃ d : za6,as = [.d (dP d)] /\ k (.d (.str (handOf d))) W
theorem scHl : zc0 ["_law_deed"] ["_law_deed"] (za0 zn4):=⟨rfl,rfl,rfl,by decide +kernel,rfl,by decide +kernel,by decide +kernel⟩
theorem zb24 : ¬ ("send" : Str) = "take" := by decide +kernel
theorem zM8 {f : Addr} {fd : ey8} (F : Fun K "_law_hand_of" "_law_hand_of" zn4 f fd) (T : Txt mg) : zj8 P w K mg base CX0 1 f fd ["_law_deed"] (spB K zd85):=by
 refine zp7 F scHl (fun as W k ⟨d,e,_⟩=>by subst e; rfl) fun cdv A outer s H E hr F0 A0 as W k hcl ⟨d,e,hk⟩=>?_
 subst e
 obtain ⟨tk,x,y,z⟩:=d
 refine za9 (ze2 (zb9 (by intro _ _; rfl) (bv 0 rfl (zf1 (za2 (zp6 rfl T.int_ zc19 (za1 (zm7 rfl (zb9 (by intro _ _; rfl) (bv 0 rfl (za2 (zb5 (d:=.str (za6.kd ⟨tk,x,y,z⟩)) rfl (ze4 (zf9 (zb90 (zh8 ?_))))))))))))))))
 cases tk with
 | false =>
  rw [decide_eq_false (show ¬ za6.kd ⟨false,x,y,z⟩ = "take" from zb24)]
  exact zb5 (d:=.str x) rfl hk
 | true =>
  rw [decide_eq_true (show za6.kd ⟨true,x,y,z⟩ = "take" from rfl)]
  exact zb5 (d:=.str y) rfl hk
def zd86 : RB:=fun as W k=>∃ (x : Str) (ds : List za6),as = [.d (rP ds),.d (.str x)] /\ ds.length <= 1000 /\ k (.d (rP (vw ds x))) W
abbrev nVl : List Str:=["_law_row", "_law_hand"]
theorem scVl : zc0 nVl nVl (za0 zo4):=⟨rfl,rfl,rfl,by decide +kernel,rfl,by decide +kernel,by decide +kernel⟩
def cVl : Scope:=match za5 zo4 with
 | [.Return (some (.Call _ [.ListComp _ _ sc _] _ _)) _]=>sc
 | _=>zx5
theorem csVl : zc3 nVl (za0 zo4) ["_law_deed"] ["_law_hand"] [1] cVl:=⟨rfl,by decide +kernel,by decide +kernel,by decide +kernel,rfl,by decide +kernel⟩
theorem ndVl : (["_law_deed", "_law_hand"] : List Str).Nodup:=by decide +kernel
theorem zb25 {f fO : Addr} {fd dO : ey8} (F : Fun K "_law_view" "_law_view" zo4 f fd) (T : Txt mg) (DO : Def K mg "_law_hand_of" zn4 fO dO ["_law_deed"]) : zj8 P w K mg base CX0 2 f fd nVl (spB K zd86):=by
 have NO:=@zM8 P w K mg base _ _ DO.fn T
 refine zp7 F scVl (fun as W k ⟨x,ds,e,_⟩=>by subst e; rfl) fun cdv A outer s H E hr F0 A0 as W k hcl ⟨x,ds,e,hl,hk⟩=>?_
 subst e
 refine za9 (ze2 (zp6 rfl T.tuple_ zk2 (za1 (zf0 rfl csVl (zs2 (bv 0 rfl ⟨ds.map dP,rfl,zh2 (za33 x) id trivial ?_ ?_ ?_⟩))))))
 ·rw [ay3]; exact za8 (by omega)
 ·intro z hz
  obtain ⟨d,hd,rfl⟩:=dy6.mp hz
  refine zd1 (i:=0) ndVl rfl (by decide) (fun _ _ _ _ _=>Or.inl rfl) (fun _ _ _ _ _=>rfl) ⟨fun cl C ex s H=>?_,fun _ cl C ex s H=>bv 0 rfl ⟨rfl,rfl⟩⟩
  exact zc2 rfl (zb0 NO (hr.mono (by decide)) rfl DO.at_ DO.fn.kp DO.bd (za1 (bv 0 rfl ⟨d,rfl,bv 1 rfl (zf9 ⟨_,rfl,(zM7 x d).symm,rfl⟩)⟩)))
 ·rw [za34]
  exact zz5 (.inl rfl) hk
def ze70 : RB:=fun as W k=>∃ ds es : List za6,as = [.d (rP ds),.d (rP es)] /\ (∀ d∈ds,d.Ok) /\ ds.length <= 100 /\ es.length <= 100 /\ (∀ x,vw ds x = vw es x) /\ k (.d (.bool true)) W
abbrev nSe : List Str:=["_law_row", "_law_other", "_law_hands_here"]
theorem scSe : zc0 nSe ["_law_row", "_law_other"] (za0 zr2):=⟨rfl,rfl,rfl,by decide +kernel,rfl,by decide +kernel,by decide +kernel⟩
theorem ndSe : nSe.Nodup:=by decide +kernel
def cSe1 : Scope:=match za5 zr2 with
 | [.Assign _ (.BinOp (.ListComp _ _ sc _) _ _ _) _,_]=>sc
 | _=>zx5
def cSe2 : Scope:=match za5 zr2 with
 | [.Assign _ (.BinOp _ _ (.ListComp _ _ sc _) _) _,_]=>sc
 | _=>zx5
def cSe3 : Scope:=match za5 zr2 with
 | [_,.Return (some (.Call _ [.ListComp _ _ sc _] _ _)) _]=>sc
 | _=>zx5
theorem ze71 : zc3 nSe (za0 zr2) ["_law_deed"] [] [] cSe1:=⟨rfl,by decide +kernel,by decide +kernel,by decide +kernel,rfl,by decide +kernel⟩
theorem ze72 : zc3 nSe (za0 zr2) ["_law_deed"] [] [] cSe2:=⟨rfl,by decide +kernel,by decide +kernel,by decide +kernel,rfl,by decide +kernel⟩
theorem ze73 : zc3 nSe (za0 zr2) ["_law_hand"] ["_law_other", "_law_row"] [1,0] cSe3:=⟨rfl,by decide +kernel,by decide +kernel,by decide +kernel,rfl,by decide +kernel⟩
theorem zd87 : (["_law_deed"] : List Str).Nodup:=by decide +kernel
theorem ze74 : (["_law_hand", "_law_other", "_law_row"] : List Str).Nodup:=by decide +kernel
def at1 : PyData->PyData
 | .tuple [_,x,_,_]=>x
 | d=>d
def at2 : PyData->PyData
 | .tuple [_,_,x,_]=>x
 | d=>d
theorem zc47 {f fV fO : Addr} {fd dV dO : ey8} (F : Fun K "_law_seen_alike" "_law_seen_alike" zr2 f fd) (T : Txt mg) (DV : Def K mg "_law_view" zo4 fV dV nVl) (DO : Def K mg "_law_hand_of" zn4 fO dO ["_law_deed"]) : zj8 P w K mg base CX0 3 f fd ["_law_row", "_law_other"] (spB K ze70):=by
 have NV:=@zb25 P w K mg base _ _ _ _ DV.fn T DO
 refine zp7 F scSe (fun as W k ⟨ds,es,e,_⟩=>by subst e; rfl) fun cdv A outer s H E hr F0 A0 as W k hcl ⟨ds,es,e,hok,hl,hl2,hv,hk⟩=>?_
 subst e
 have hln : (ds.map dP++es.map dP).length <= 200:=by simp; omega
 refine za3 (zc5 (i:=2) ndSe rfl (Or.inl rfl) (zf1 (zf0 rfl ze71 (zs2 (zf1 (bv 0 rfl (bv 1 rfl (zz3 (za8 (by simp; omega)) ⟨_,rfl,zn0 at1 trivial (za8 (by omega)) ?_ ?_⟩))))))))
 ·intro z hz
  rw [<- fy1] at hz
  obtain ⟨d,hd,rfl⟩:=dy6.mp hz
  refine zd1 (i:=0) zd87 rfl (by decide) (fun _ _ _ _ _=>Or.inl rfl) (fun _ _ _ _ _=>rfl) fun cl C ex s H=>?_
  exact zb9 (by intro _ _; rfl) (bv 0 rfl (za2 (zb5 (d:=.str d.x) rfl ⟨rfl,rfl⟩)))
 refine zf0 rfl ze72 (zs2 (zf1 (bv 0 rfl (bv 1 rfl (zz3 (za8 (by simp; omega)) ⟨_,rfl,zn0 at2 trivial (za8 (by omega)) ?_ ?_⟩)))))
 ·intro z hz
  rw [<- fy1] at hz
  obtain ⟨d,hd,rfl⟩:=dy6.mp hz
  refine zd1 (i:=0) zd87 rfl (by decide) (fun _ _ _ _ _=>Or.inl rfl) (fun _ _ _ _ _=>rfl) fun cl C ex s H=>?_
  exact zb9 (by intro _ _; rfl) (bv 0 rfl (za2 (zb5 (d:=.str d.y) rfl ⟨rfl,rfl⟩)))
 refine zb87 (.inl rfl) (.inl rfl) (za8 (by simp only [ay3]; omega)) ?_
 obtain ⟨hs,ehs,hhl⟩ : ∃ hs : List Str,(ds.map dP++es.map dP).map at1++(ds.map dP++es.map dP).map at2 = hs.map .str /\ hs.length <= 400:=by
  refine ⟨(ds++es).map (·.x)++(ds++es).map (·.y),?_,by simp; omega⟩
  have e0 : ds.map dP++es.map dP = (ds++es).map dP:=by rw [fy1]
  rw [e0]
  generalize ds++es = zs
  rw [gy7,gy7,fy1,gy7,gy7]
  rfl
 rw [ehs]
 refine za9 (ze2 (zb7 rfl T.all_ za03 (za1 (zf0 rfl ze73 (zz7 (bv 2 rfl ⟨_,rfl,zn0 (fun _=>.bool true) trivial (za8 (by rw [ay3]; omega)) ?_ ?_⟩))))))
 ·intro z hz
  obtain ⟨x,hx,rfl⟩:=dy6.mp hz
  refine zd1 (i:=0) ze74 rfl (by decide) (fun _ _ _ _ _=>Or.inl rfl) (fun _ _ _ _ _=>rfl) fun cl C ex s H=>?_
  refine zm7 rfl (zb0 NV (hr.mono (by decide)) rfl DV.at_ DV.fn.kp DV.bd (za4 (bv 2 rfl (za1 (bv 0 rfl ⟨x,ds,rfl,by omega,?_⟩)))))
  refine zb0 NV (hr.mono (by decide)) rfl DV.at_ DV.fn.kp DV.bd (za4 (bv 1 rfl (za1 (bv 0 rfl ⟨x,es,rfl,by omega,?_⟩))))
  rw [<- hv x]
  have hvo : ∀ d∈vw ds x,d.Ok:=fun d hd=>hok d (jy8.mp hd).1
  refine zO5 hr.units (.inl rfl) (.inl rfl) (zc00 hvo) (zc00 hvo) ⟨?_,rfl⟩
  rw [zd32,decide_eq_true rfl]
 ·have e : (hs.map PyData.str).map (fun _=>PyData.bool true) = (hs.map fun _=>true).map .bool:=by rw [gy7,gy7]; rfl
  rw [e]
  refine zD9 rfl (.inl rfl) ?_
  have : (hs.map fun _=>true).all id = true:=by rw [List.all_map]; simp
  rw [this]
  exact hk
def ze75 : RB:=fun as W k=>∃ ds : List za6,as = [.d (rP ds)] /\ (∀ d∈ds,d.Ok) /\ ds.length <= 100 /\ Goes ds /\ k (.d (.bool true)) W
abbrev nCl : List Str:=["_law_row", "_law_waiting", "_law_deed"]
theorem scCl : zc0 nCl ["_law_row"] (za0 zI2):=⟨rfl,rfl,rfl,by decide +kernel,rfl,by decide +kernel,by decide +kernel⟩
theorem ndCl : nCl.Nodup:=by decide +kernel
theorem zc48 {f fF : Addr} {fd dF : ey8} (F : Fun K "_law_can_go" "_law_can_go" zI2 f fd) (T : Txt mg) (DF : Def K mg "_law_firsts" zi9 fF dF ["_law_waiting"]) : zj8 P w K mg base CX0 2 f fd ["_law_row"] (spB K ze75):=by
 have NF:=@zF2 P w K mg base _ _ DF.fn T
 refine zp7 F scCl (fun as W k ⟨ds,e,_⟩=>by subst e; rfl) fun cdv A outer s H E hr F0 A0 as W k hcl ⟨ds,e,hok,hl,hgo,hk⟩=>?_
 subst e
 refine za3 (zc5 (i:=1) ndCl rfl (Or.inl rfl) (zg8 (zk5 ⟨dy8 _,?_⟩)))
 refine za3 (zx3 gy8 rfl (zs2 (bv 0 rfl ⟨ds.map dP,rfl,W.length,fun i S' W'=>∃ (ls : List Lt) (o2 : Option El),S' = [some (.d (rP ds)),some (.o W.length),o2] /\ W' = W++[.lst (zb4 (ls.map lP))] /\ Tale (ds.take i) ls /\ ls.length <= i,ay5 _,dy8 _,by simp,⟨[],none,rfl,by simp [zb4],zd63,ay5 _⟩,fun _ _ _ _ _=>trivial,?_,?_⟩)))
 ·rintro i z S' W' hz ⟨ls,o2,rfl,rfl,tl,hll⟩
  rw [ay4] at hz
  obtain ⟨d,hd,rfl⟩:=fy0.mp hz
  have hi : i < ds.length:=(ay0.mp hd).1
  have hdo:=hok d (by3 hd)
  have et : ds.take (i + 1) = ds.take i++[d]:=by rw [gy1,hd]; rfl
  have hcan:=hgo i d hd
  refine zm9 (i:=2) ndCl rfl (Or.inl rfl) ?_
  obtain ⟨tk,dx,dy,dw⟩:=d
  have lok : Lt.Ok ⟨dx,dy,dw⟩:=⟨hdo.x,hdo.y,hdo.w,hdo.ne⟩
  cases tk with
  | false =>
   refine za9 (zf2 (zc2 rfl (zb9 (by intro _ _; rfl) (bv 2 rfl (za2 (zb5 (d:=.str "send") rfl (ze4 (zf9 ⟨_,rfl,?_⟩))))))))
   rw [decide_eq_true rfl]
   refine zl2 (za9 (ze6 (zg6 cy0 ey3 ey4 (bv 1 rfl ⟨.inl ⟨rfl,_,zc9⟩,za1 (zc7 (bv 2 rfl (zb8 (za2 ⟨1,rfl,zg3 (zh7 (zd7 zc9 (by1 (show _ < 1000 by simp [zb4]; omega) (za8 (by decide))) ?_))⟩))))⟩))))
   rw [zq2]
   refine ⟨ls++[⟨dx,dy,dw⟩],_,rfl,?_,?_,by simp; omega⟩
   ·exact congrArg (fun o=>W++[OD.lst o]) (zc34 ls ⟨dx,dy,dw⟩)
   ·rw [et]
    exact tl.send (l:=⟨dx,dy,dw⟩) lok
  | true =>
   refine za9 (zf2 (zc2 rfl (zb9 (by intro _ _; rfl) (bv 2 rfl (za2 (zb5 (d:=.str "take") rfl (ze4 (zf9 ⟨_,rfl,?_⟩))))))))
   rw [decide_eq_false zF3]
   have hw : (zo8 ls dx dy).take 1 = [dw]:=by
    have:=hcan
    unfold canF at this
    simp only [Bool.not_true,Bool.false_or,decide_eq_true_eq] at this
    rw [tl.ws] at this
    exact this
   obtain ⟨pre,post,el,hpre⟩:=za35 hw
   have hin:=zb23 el hpre
   have hfo : ∀ l∈zc8 ls,l.Ok:=fun l hl=>tl.lo l (zr4 hl)
   refine zf7 (za9 (zf2 (zc2 rfl (zc7 (bv 2 rfl (zb8 (za2 ⟨1,rfl,zg3 (zh7 (zb0 NF (hr.mono (by decide)) rfl DF.at_ DF.fn.kp DF.bd (za1 (bv 1 rfl ⟨W.length,ls,rfl,zc9,tl.lo,by omega,?_⟩))))⟩)))))))
   refine zX3 false (zf3 hr) (.inl (.inl rfl)) (za19 lok) (zF1 hfo) ⟨_,rfl,?_⟩
   show if ((zc8 ls).map lP).any (fun z=>ey0 z (lP ⟨dx,dy,dw⟩)) = true then _ else _
   rw [zd84,decide_eq_true hin]
   refine zl2 (za9 (ze6 (zg6 cy0 PySem.F.slot_list_remove PySem.F.type_list_remove (bv 1 rfl ⟨.inl ⟨rfl,_,zc9⟩,za1 (zc7 (bv 2 rfl (zb8 (za2 ⟨1,rfl,zg3 (zh7 (zE4 (m:=pre.length) (zf3 hr) zc9 (zF1 tl.lo) (za19 (l:=⟨dx,dy,dw⟩) lok) (by rw [el]; exact za20 hpre) (by rw [ay3]; exact za8 (by omega)) ?_))⟩))))⟩))))
   rw [zq2]
   subst el
   have er : ((pre++(⟨dx,dy,dw⟩ : Lt) :: post).map lP).eraseIdx pre.length = (pre++post).map lP:=by
    rw [fy1,fy4,List.eraseIdx_append_of_length_le (by simp)]
    simp
   rw [er]
   refine ⟨pre++post,_,rfl,rfl,?_,by simp at hll ⊢; omega⟩
   rw [et]
   exact tl.take hpre
 ·rintro S' W' ⟨ls,o2,rfl,rfl,tl,hll⟩
  exact za9 (zl4 (za67 ⟨_,W,[_],rfl,rfl,rfl,hcl,hk⟩))
end
def zQ9 (kd : Str) (p : Str × Str) (d : za6) : Bool:=decide (d.kd = kd) && decide ((d.x,d.y) = p)
theorem zr5 (p : Str × Str) : zQ9 "send" p = zd9 p:=funext fun d=>by
 obtain ⟨tk,x,y,w⟩:=d
 cases tk with
 | false=>rfl
 | true=>show (decide (("take" : Str) = "send") && _) = (!true && _); rw [decide_eq_false zF3]; rfl
theorem zr6 (p : Str × Str) : zQ9 "take" p = zc6 p:=funext fun d=>by
 obtain ⟨tk,x,y,w⟩:=d
 cases tk with
 | false=>show (decide (("send" : Str) = "take") && _) = (false && _); rw [decide_eq_false zb24]
 | true=>rfl
def zc49 (kd : Str) (p : Str × Str) : PyData->Bool
 | .tuple [.str k,.str a,.str b,_]=>decide (k = kd) && decide ((a,b) = p)
 | _=>false
theorem zw1 (ds : List za6) (kd : Str) (p : Str × Str) : ((ds.map dP).filter (zc49 kd p)).map id = (ds.filter (zQ9 kd p)).map dP:=by
 rw [List.map_id,List.filter_map]
 rfl
theorem zq7 (x y x' y' : Str) : ey0 (.tuple [.str x,.str y]) (.tuple [.str x',.str y']) = decide ((x,y) = (x',y')):=by
 rw [za18]
 congr 1
 simp
theorem zM9 (ds : List za6) (q : za6->Bool) (n : Nat) : ((ds.take n).filter q).length = cnt ds q n:=by
 unfold cnt
 rw [jy7]
section
variable {P : dy7} {w : World} {K : ay2} {mg : Str->Option Value} {base : Heap} {kA cN : Addr}
def ze76 : RB:=fun as W k=>∃ (ds : List za6) (r : Nat),as = [.d (rP ds)] /\ (∀ d∈ds,d.Ok) /\ ds.length <= 100 /\ Goes ds /\ Fits ds r /\ ∀ m : Int,m <= r->k (.d (.int m)) W
abbrev nMo : List Str:=["_law_row", "_law_found", "_law_k", "_law_pair", "_law_sent", "_law_taken"]
theorem scMo : zc0 nMo ["_law_row"] (za0 zv0):=⟨rfl,rfl,rfl,by decide +kernel,rfl,by decide +kernel,by decide +kernel⟩
theorem ndMo : nMo.Nodup:=by decide +kernel
def cMo1 : Scope:=match za5 zv0 with
 | [_,.For _ _ [_,.Assign _ (.Call _ [.ListComp _ _ sc _] _ _) _,_,_] _ _,_]=>sc
 | _=>zx5
def cMo2 : Scope:=match za5 zv0 with
 | [_,.For _ _ [_,_,.Assign _ (.Call _ [.ListComp _ _ sc _] _ _) _,_] _ _,_]=>sc
 | _=>zx5
theorem ze77 : zc3 nMo (za0 zv0) ["_law_deed"] ["_law_pair"] [3] cMo1:=⟨rfl,by decide +kernel,by decide +kernel,by decide +kernel,rfl,by decide +kernel⟩
theorem ze78 : zc3 nMo (za0 zv0) ["_law_deed"] ["_law_pair"] [3] cMo2:=⟨rfl,by decide +kernel,by decide +kernel,by decide +kernel,rfl,by decide +kernel⟩
theorem zd88 : (["_law_deed", "_law_pair"] : List Str).Nodup:=by decide +kernel
theorem zc50 {f : Addr} {fd : ey8} (F : Fun K "_law_most_under_way" "_law_most_under_way" zv0 f fd) (T : Txt mg) : zj8 P w K mg base CX0 1 f fd ["_law_row"] (spB K ze76):=by
 refine zp7 F scMo (fun as W k ⟨ds,r,e,_⟩=>by subst e; rfl) fun cdv A outer s H E hr F0 A0 as W k hcl ⟨ds,r,e,hok,hl,hgo,hfit,hk⟩=>?_
 subst e
 refine za3 (zc5 (i:=1) ndMo rfl (Or.inl rfl) (za2 ?_))
 refine za3 (zx3 gy8 rfl (zg4 rfl T.range_ (zb7 rfl T.len_ zj0 (za1 (bv 0 rfl (zg9 ?_))))))
 rw [ay3]
 refine ⟨_,rfl,by omega,by omega,W.length,fun i S' W'=>∃ (m : Int) (o2 o3 o4 o5 : Option El),S' = [some (.d (rP ds)),some (.d (.int m)),o2,o3,o4,o5] /\ W' = W /\ m <= r,ay5 _,dy8 _,ay5 _,⟨0,none,none,none,none,rfl,rfl,by omega⟩,fun _ _ _ _ _=>trivial,?_,?_⟩
 ·rintro i z S' W' hz ⟨m,o2,o3,o4,o5,rfl,rfl,hm⟩
  have hi : i < ds.length:=by have:=(ay0.mp hz).1; rw [zh3] at this; exact this
  obtain rfl : z = .int (i : Int):=by
   unfold ze9 at hz
   rw [ay4,oy8 (by exact hi)] at hz
   simpa using hz.symm
  obtain ⟨d,hd⟩ : ∃ d,ds[i]? = some d:=⟨ds[i],ay7 hi⟩
  have hdo:=hok d (by3 hd)
  refine zm9 (i:=2) ndMo rfl (Or.inl rfl) ?_
  refine za3 (zc5 (i:=3) ndMo rfl (Or.inr rfl) (zc7 (zb9 (by intro _ _; rfl) (bv 0 rfl (bv 2 rfl (zb5 (d:=dP d) (zb2 (by rw [ay4,hd]; rfl)) (zb8 (za2 ⟨1,rfl,zb8 (za2 ⟨3,rfl,zh7 ?_⟩)⟩))))))))
  rw [zC0]
  have ect : zx0 (ds.map dP) none (some ((i : Int) + 1)) = (ds.take (i + 1)).map dP:=by
   rw [show ((i : Int) + 1) = ((i + 1 : Nat) : Int) by omega,zW7,List.map_take]
  have hln : (ds.take (i + 1)).length <= 100:=by rw [iy2]; omega
  refine za3 (zc5 (i:=4) ndMo rfl (Or.inl rfl) (zb7 rfl T.len_ zj0 (za1 (zf0 rfl ze77 (zs2 (zc7 (bv 0 rfl (zg3 (zb8 (zf1 (bv 2 rfl (za2 (zh8 ⟨_,rfl,zh7 ?_⟩)))))))))))))
  rw [ect]
  refine ⟨_,rfl,zh2 (zc49 "send" (d.x,d.y)) id trivial (za8 (by rw [ay3]; omega)) ?_ ?_⟩
  ·intro z hz
   obtain ⟨e,he,rfl⟩:=dy6.mp hz
   have heo:=hok e (ly6 he)
   refine zd1 (i:=0) zd88 rfl (by decide) (fun _ _ _ _ _=>Or.inl rfl) (fun _ _ _ _ _=>rfl) ⟨fun cl C ex s H=>?_,fun _ cl C ex s H=>bv 0 rfl ⟨rfl,rfl⟩⟩
   refine BW.bt (zJ3 (zc2 rfl (zb9 (by intro _ _; rfl) (bv 0 rfl (za2 (zb5 (d:=.str e.kd) rfl (ze4 (zf9 ⟨_,rfl,?_⟩))))))))
   show if decide (e.kd = "send") = true then _ else (false = (decide (e.kd = "send") && decide ((e.x,e.y) = (d.x,d.y))) /\ _)
   by_cases hk1 : e.kd = "send"
   ·rw [decide_eq_true hk1]
    refine zl2 (zz2 (zc2 rfl (zc7 (bv 0 rfl (zb8 (za2 ⟨1,rfl,zb8 (za2 ⟨3,rfl,zh7 (bv 1 rfl ?_)⟩)⟩))))))
    rw [zC0]
    refine zO5 hr.units (.inl rfl) (.inl rfl) (zh5 heo.x heo.y) (zh5 hdo.x hdo.y) ⟨_,rfl,?_,rfl⟩
    rw [zq7]
    show _ = (decide (e.kd = "send") && decide ((e.x,e.y) = (d.x,d.y)))
    rw [decide_eq_true hk1,Bool.true_and]
   ·rw [decide_eq_false hk1]
    exact zf7 ⟨rfl,rfl⟩
  rw [zw1,zr5]
  refine zr0 (.inl rfl) ?_
  rw [ay3,zM9]
  refine za3 (zc5 (i:=5) ndMo rfl (Or.inl rfl) (zb7 rfl T.len_ zj0 (za1 (zf0 rfl ze78 (zs2 (zc7 (bv 0 rfl (zg3 (zb8 (zf1 (bv 2 rfl (za2 (zh8 ⟨_,rfl,zh7 ?_⟩)))))))))))))
  rw [ect]
  refine ⟨_,rfl,zh2 (zc49 "take" (d.x,d.y)) id trivial (za8 (by rw [ay3]; omega)) ?_ ?_⟩
  ·intro z hz
   obtain ⟨e,he,rfl⟩:=dy6.mp hz
   have heo:=hok e (ly6 he)
   refine zd1 (i:=0) zd88 rfl (by decide) (fun _ _ _ _ _=>Or.inl rfl) (fun _ _ _ _ _=>rfl) ⟨fun cl C ex s H=>?_,fun _ cl C ex s H=>bv 0 rfl ⟨rfl,rfl⟩⟩
   refine BW.bt (zJ3 (zc2 rfl (zb9 (by intro _ _; rfl) (bv 0 rfl (za2 (zb5 (d:=.str e.kd) rfl (ze4 (zf9 ⟨_,rfl,?_⟩))))))))
   show if decide (e.kd = "take") = true then _ else (false = (decide (e.kd = "take") && decide ((e.x,e.y) = (d.x,d.y))) /\ _)
   by_cases hk1 : e.kd = "take"
   ·rw [decide_eq_true hk1]
    refine zl2 (zz2 (zc2 rfl (zc7 (bv 0 rfl (zb8 (za2 ⟨1,rfl,zb8 (za2 ⟨3,rfl,zh7 (bv 1 rfl ?_)⟩)⟩))))))
    rw [zC0]
    refine zO5 hr.units (.inl rfl) (.inl rfl) (zh5 heo.x heo.y) (zh5 hdo.x hdo.y) ⟨_,rfl,?_,rfl⟩
    rw [zq7]
    show _ = (decide (e.kd = "take") && decide ((e.x,e.y) = (d.x,d.y)))
    rw [decide_eq_true hk1,Bool.true_and]
   ·rw [decide_eq_false hk1]
    exact zf7 ⟨rfl,rfl⟩
  rw [zw1,zr6]
  refine zr0 (.inl rfl) ?_
  rw [ay3,zM9]
  refine za9 (zc5 (i:=1) ndMo rfl (Or.inl rfl) (zb7 rfl T.max_ zd51 (za4 (bv 1 rfl (za1 (zf1 (bv 4 rfl (bv 5 rfl (zV5 (zX0 rfl ?_))))))))))
  refine ⟨_,_,_,_,_,rfl,rfl,?_⟩
  have q:=zq5 hgo (t:=i + 1) hi
  have h1:=hfit i d hd
  rw [q.ws,ky1,zh4] at h1
  split <;> omega
 ·rintro S' W' ⟨m,o2,o3,o4,o5,rfl,rfl,hm⟩
  exact za9 (ze2 (bv 1 rfl (hk m hm)))
def ze79 : RB:=fun as W k=>∃ (ds : List za6) (a : Nat) (c : za6) (kd : Str),as = [.d (rP ds),.d (.int a),.d (.str kd)] /\ (∀ d∈ds,d.Ok) /\ ds.length <= 100 /\ ds[a]? = some c /\ k (.d (.list (za7 (numsOf ds ds.length (zQ9 kd (c.x,c.y)))))) W
abbrev nSm : List Str:=["_law_row", "_law_number", "_law_kind"]
theorem scSm : zc0 nSm nSm (za0 zv1):=⟨rfl,rfl,rfl,by decide +kernel,rfl,by decide +kernel,by decide +kernel⟩
def cSm : Scope:=match za5 zv1 with
 | [.Return (some (.ListComp _ _ sc _)) _]=>sc
 | _=>zx5
theorem csSm : zc3 nSm (za0 zv1) ["_law_k"] ["_law_kind", "_law_number", "_law_row"] [2,1,0] cSm:=⟨rfl,by decide +kernel,by decide +kernel,by decide +kernel,rfl,by decide +kernel⟩
theorem ndSm : (["_law_k", "_law_kind", "_law_number", "_law_row"] : List Str).Nodup:=by decide +kernel
def numB (ds : List za6) (p : za6->Bool) (z : PyData) : Bool:=match ds[numOf z]? with | some d=>p d | none=>false
theorem zx7 (ds : List za6) (p : za6->Bool) (n : Nat) : ((ze9 0 n).filter (numB ds p)).map id = za7 (numsOf ds n p):=by
 rw [zq3]
 exact zl9 (ey5 n) fun k=>match ds[k]? with | some d=>p d | none=>false
theorem zc52 {f : Addr} {fd : ey8} (F : Fun K "_law_same" "_law_same" zv1 f fd) (T : Txt mg) : zj8 P w K mg base CX0 1 f fd nSm (spB K ze79):=by
 refine zp7 F scSm (fun as W k ⟨ds,a,c,kd,e,_⟩=>by subst e; rfl) fun cdv A outer s H E hr F0 A0 as W k hcl ⟨ds,a,c,kd,e,hok,hl,ha,hk⟩=>?_
 subst e
 have hco:=hok c (by3 ha)
 refine za9 (ze2 (zf0 rfl csSm (zg4 rfl T.range_ (zb7 rfl T.len_ zj0 (za1 (bv 0 rfl (zg9 ?_)))))))
 rw [ay3]
 refine ⟨_,rfl,by omega,by omega,zh2 (numB ds (zQ9 kd (c.x,c.y))) id trivial (za8 (by rw [zh3]; omega)) ?_ ?_⟩
 ·intro z hz
  rw [zq3] at hz
  obtain ⟨i,hi,rfl⟩:=dy6.mp hz
  have hi : i < ds.length:=by simpa using hi
  obtain ⟨e,he⟩ : ∃ e,ds[i]? = some e:=⟨ds[i],ay7 hi⟩
  have heo:=hok e (by3 he)
  have hB : numB ds (zQ9 kd (c.x,c.y)) (.int (i : Int)) = (decide (e.kd = kd) && decide ((e.x,e.y) = (c.x,c.y))):=by
   unfold numB
   rw [show numOf (.int (i : Int)) = i by simp [numOf],he]
   rfl
  refine zd1 (i:=0) ndSm rfl (by decide) (fun _ _ _ _ _=>Or.inl rfl) (fun _ _ _ _ _=>rfl) ⟨fun cl C ex s H=>?_,fun _ cl C ex s H=>bv 0 rfl ⟨rfl,rfl⟩⟩
  rw [hB]
  refine BW.bt (zJ3 (zc2 rfl (zb9 (by intro _ _; rfl) (zb9 (by intro _ _; rfl) (bv 3 rfl (bv 0 rfl (zb5 (d:=dP e) (zb2 (by rw [ay4,he]; rfl)) (za2 (zb5 (d:=.str e.kd) rfl (bv 1 rfl (zf9 ⟨_,rfl,?_⟩)))))))))))
  by_cases hk1 : e.kd = kd
  ·rw [decide_eq_true hk1]
   refine zl2 (zz2 (zc2 rfl (zc7 (zb9 (by intro _ _; rfl) (bv 3 rfl (bv 0 rfl (zb5 (d:=dP e) (zb2 (by rw [ay4,he]; rfl)) (zb8 (za2 ⟨1,rfl,zb8 (za2 ⟨3,rfl,zh7 ?_⟩)⟩)))))))))
   refine zc7 (zb9 (by intro _ _; rfl) (bv 3 rfl (bv 2 rfl (zb5 (d:=dP c) (zb2 (by rw [ay4,ha]; rfl)) (zb8 (za2 ⟨1,rfl,zb8 (za2 ⟨3,rfl,zh7 ?_⟩)⟩))))))
   rw [zC0,zC0]
   refine zO5 hr.units (.inl rfl) (.inl rfl) (zh5 heo.x heo.y) (zh5 hco.x hco.y) ⟨_,rfl,?_,rfl⟩
   rw [zq7,Bool.true_and]
  ·rw [decide_eq_false hk1]
   exact zf7 ⟨rfl,rfl⟩
 ·rw [show ((ds.length : Int)).toNat = ds.length from hy1 _,zx7]
  exact hk
end
theorem zn8 {ds : List za6} {q : za6->Bool} {i a : Nat} (h : (numsOf ds ds.length q)[i]? = some a) : (za7 (numsOf ds ds.length q))[i]? = some (.int a) /\ ∀ (j : Nat) z,j < i->(za7 (numsOf ds ds.length q))[j]? = some z->ey0 z (.int a) = false:=by
 refine ⟨by unfold za7; rw [ay4,h]; rfl,fun j z hj hz=>?_⟩
 unfold za7 at hz
 rw [ay4] at hz
 obtain ⟨c,hc,rfl⟩:=fy0.mp hz
 rw [zk3]
 refine decide_eq_false fun e=>?_
 subst e
 have:=(zd0.mp hc).2
 have:=(zd0.mp h).2
 omega
section
variable {P : dy7} {w : World} {K : ay2} {mg : Str->Option Value} {base : Heap} {kA cN : Addr}
def zc53 : RB:=fun as W k=>∃ (ds : List za6) (a b r : Nat) (hs : List Str) (ps : List (Str × Str)),as = [.d (rP ds),.d (.int a),.d (.int b),.d (.int r)] /\ (∀ d∈ds,d.Ok) /\ ds.length <= 100 /\ (a,b)∈zh6 ds r hs ps /\ k (.d (.bool true)) W
abbrev pAh : List Str:=["_law_row", "_law_one", "_law_other", "_law_rooms"]
abbrev nAh : List Str:=["_law_row", "_law_one", "_law_other", "_law_rooms", "_law_own", "_law_first", "_law_second"]
theorem scAh : zc0 nAh pAh (za0 zk1):=⟨rfl,rfl,rfl,by decide +kernel,rfl,by decide +kernel,by decide +kernel⟩
theorem ndAh : nAh.Nodup:=by decide +kernel
def cAh : Scope:=match za5 zk1 with
 | [.If _ [.Assign _ (.ListComp _ _ sc _) _,_] _ _,_,_,_,_,_]=>sc
 | _=>zx5
theorem csAh : zc3 nAh (za0 zk1) ["_law_k"] ["_law_one", "_law_row"] [1,0] cAh:=⟨rfl,by decide +kernel,by decide +kernel,by decide +kernel,rfl,by decide +kernel⟩
theorem ze80 : (["_law_k", "_law_one", "_law_row"] : List Str).Nodup:=by decide +kernel
set_option maxHeartbeats 2000000 in
theorem za36 {f fO fS : Addr} {fd dO dS : ey8} (F : Fun K "_law_ahead" "_law_ahead" zk1 f fd) (T : Txt mg) (DO : Def K mg "_law_hand_of" zn4 fO dO ["_law_deed"]) (DS : Def K mg "_law_same" zv1 fS dS nSm) : zj8 P w K mg base CX0 2 f fd pAh (spB K zc53):=by
 have NO:=@zM8 P w K mg base _ _ DO.fn T
 have NS:=@zc52 P w K mg base _ _ DS.fn T
 refine zp7 F scAh (fun as W k ⟨ds,a,b,r,hs,ps,e,_⟩=>by subst e; rfl) fun cdv A outer s H E hr F0 A0 as W k hcl ⟨ds,a,b,r,hs,ps,e,hok,hl,hE,hk⟩=>?_
 subst e
 have hEl:=zM0 hE
 obtain ⟨da,ha⟩ : ∃ d,ds[a]? = some d:=⟨ds[a],ay7 hEl.1⟩
 obtain ⟨db,hb⟩ : ∃ d,ds[b]? = some d:=⟨ds[b],ay7 hEl.2⟩
 have hao:=hok da (by3 ha)
 have hbo:=hok db (by3 hb)
 refine za3 (zf2 (zc2 rfl (zb0 NO (hr.mono (by decide)) rfl DO.at_ DO.fn.kp DO.bd (za1 (zb9 (by intro _ _; rfl) (bv 0 rfl (bv 1 rfl (zb5 (d:=dP da) (zb2 (by rw [ay4,ha]; rfl)) ⟨da,rfl,?_⟩))))))))
 refine zb0 NO (hr.mono (by decide)) rfl DO.at_ DO.fn.kp DO.bd (za1 (zb9 (by intro _ _; rfl) (bv 0 rfl (bv 2 rfl (zb5 (d:=dP db) (zb2 (by rw [ay4,hb]; rfl)) ⟨db,rfl,zf9 ⟨_,rfl,?_⟩⟩)))))
 unfold zh6 at hE
 rcases by9.mp hE with hE | hE
 ·obtain ⟨x,_,hx⟩:=hy7.mp hE
  obtain ⟨i,i1,i2⟩:=zm0 hx
  rw [gy2] at i2
  have e1 : handOf da = x:=by
   obtain ⟨d,q1,q2⟩:=(zd0.mp i1).1
   rw [ha] at q1
   cases q1
   exact of_decide_eq_true q2
  have e2 : handOf db = x:=by
   obtain ⟨d,q1,q2⟩:=(zd0.mp i2).1
   rw [hb] at q1
   cases q1
   exact of_decide_eq_true q2
  rw [decide_eq_true (e1.trans e2.symm)]
  refine zl2 (za3 (zb96 (i:=4) ndAh rfl (Or.inl rfl) rfl csAh (zg4 rfl T.range_ (zb7 rfl T.len_ zj0 (za1 (bv 0 rfl (zg9 ?_)))))))
  rw [ay3]
  refine ⟨_,rfl,by omega,by omega,zh2 (numB ds (ze7 x)) id trivial (za8 (by rw [zh3]; omega)) ?_ ?_⟩
  ·intro z hz
   rw [zq3] at hz
   obtain ⟨c,hc,rfl⟩:=dy6.mp hz
   have hc : c < ds.length:=by simpa using hc
   obtain ⟨e,he⟩ : ∃ e,ds[c]? = some e:=⟨ds[c],ay7 hc⟩
   have hB : numB ds (ze7 x) (.int (c : Int)) = decide (handOf e = x):=by
    unfold numB
    rw [show numOf (.int (c : Int)) = c by simp [numOf],he]
    rfl
   refine zd1 (i:=0) ze80 rfl (by decide) (fun _ _ _ _ _=>Or.inl rfl) (fun _ _ _ _ _=>rfl) ⟨fun cl C ex s H=>?_,fun _ cl C ex s H=>bv 0 rfl ⟨rfl,rfl⟩⟩
   rw [hB]
   refine zc2 rfl (zb0 NO (hr.mono (by decide)) rfl DO.at_ DO.fn.kp DO.bd (za1 (zb9 (by intro _ _; rfl) (bv 2 rfl (bv 0 rfl (zb5 (d:=dP e) (zb2 (by rw [ay4,he]; rfl)) ⟨e,rfl,?_⟩))))))
   refine zb0 NO (hr.mono (by decide)) rfl DO.at_ DO.fn.kp DO.bd (za1 (zb9 (by intro _ _; rfl) (bv 2 rfl (bv 1 rfl (zb5 (d:=dP da) (zb2 (by rw [ay4,ha]; rfl)) ⟨da,rfl,zf9 ⟨_,rfl,?_,rfl⟩⟩)))))
   rw [e1]
  rw [show ((ds.length : Int)).toNat = ds.length from hy1 _,zx7]
  obtain ⟨n1,n2⟩:=zn8 i1
  obtain ⟨n3,n4⟩:=zn8 i2
  refine za9 (zf2 (zc2 rfl (zg6 cy0 gy6 iy7 (bv 4 rfl ⟨rfl,za1 (bv 2 rfl (zk6 (m:=1 + i) (zf3 hr) (zh1 _) (zl8 _) n3 (by rw [zk3]; exact decide_eq_true rfl) n4 ?_))⟩))))
  refine zf1 (zg6 cy0 gy6 iy7 (bv 4 rfl ⟨rfl,za1 (bv 1 rfl (zk6 (m:=i) (zf3 hr) (zh1 _) (zl8 _) n1 (by rw [zk3]; exact decide_eq_true rfl) n2 (za2 (zh8 (zx1 ⟨_,rfl,?_⟩)))))⟩))
  rw [decide_eq_true (by omega)]
  exact zl2 (za9 (ze2 (za67 hk)))
 ·obtain ⟨p,_,hx⟩:=hy7.mp hE
  rcases by9.mp hx with hx | hx
  ·obtain ⟨i,i1,i2⟩:=zm0 hx
   obtain ⟨j,hj⟩ : ∃ j,j = i:=⟨i,rfl⟩
   rw [<- hj] at i2
   obtain ⟨d1,q1,q2⟩:=(zd0.mp i1).1
   rw [ha] at q1
   cases q1
   obtain ⟨d2,q3,q4⟩:=(zd0.mp i2).1
   rw [hb] at q3
   cases q3
   obtain ⟨h1,h2,h3⟩:=zg0 q2
   obtain ⟨h4,h5,h6⟩:=ze8 q4
   subst h2
   obtain ⟨ta,x,y,wa⟩:=da
   obtain ⟨tb,x',y',wb⟩:=db
   dsimp only at h1 h4 h5
   subst h1 h4
   cases h5
   rw [decide_eq_false (show ¬ handOf ⟨false,x,y,wa⟩ = handOf ⟨true,x,y,wb⟩ from hao.ne)]
   refine zf7 (ze5 ?_)
   refine za3 (zf2 (BW.bt (zm8 (zc2 rfl (zc7 (zb9 (by intro _ _; rfl) (bv 0 rfl (bv 1 rfl (zb5 (d:=dP ⟨false,x,y,wa⟩) (zb2 (by rw [ay4,ha]; rfl)) (zb8 (za2 ⟨1,rfl,zb8 (za2 ⟨3,rfl,zh7 ?_⟩)⟩)))))))))))
   refine zc7 (zb9 (by intro _ _; rfl) (bv 0 rfl (bv 2 rfl (zb5 (d:=dP ⟨true,x,y,wb⟩) (zb2 (by rw [ay4,hb]; rfl)) (zb8 (za2 ⟨1,rfl,zb8 (za2 ⟨3,rfl,zh7 ?_⟩)⟩))))))
   rw [zC0,zC0]
   refine za69 hr.units (.inl rfl) (.inl rfl) (zh5 hao.x hao.y) (zh5 hao.x hao.y) ⟨_,rfl,?_⟩
   rw [zq7,decide_eq_true rfl]
   refine zf7 (zm3 (zc2 rfl (zb9 (by intro _ _; rfl) (zb9 (by intro _ _; rfl) (bv 0 rfl (bv 1 rfl (zb5 (d:=dP ⟨false,x,y,wa⟩) (zb2 (by rw [ay4,ha]; rfl)) (za2 (zb5 (d:=.str "send") rfl ?_)))))))))
   refine zb9 (by intro _ _; rfl) (zb9 (by intro _ _; rfl) (bv 0 rfl (bv 2 rfl (zb5 (d:=dP ⟨true,x,y,wb⟩) (zb2 (by rw [ay4,hb]; rfl)) (za2 (zb5 (d:=.str "take") rfl (zf9 ⟨_,rfl,?_⟩)))))))
   rw [decide_eq_false zb24]
   refine zf7 (ze5 ?_)
   refine za3 (zc5 (i:=5) ndAh rfl (Or.inl rfl) (zg6 cy0 gy6 iy7 (zb0 NS (hr.mono (by decide)) rfl DS.at_ DS.fn.kp DS.bd (za4 (bv 0 rfl (za4 (bv 1 rfl (za1 (zb9 (by intro _ _; rfl) (zb9 (by intro _ _; rfl) (bv 0 rfl (bv 1 rfl (zb5 (d:=dP ⟨false,x,y,wa⟩) (zb2 (by rw [ay4,ha]; rfl)) (za2 (zb5 (d:=.str "send") rfl ⟨ds,a,⟨false,x,y,wa⟩, "send",rfl,hok,hl,ha,rfl,?_⟩)))))))))))))))
   rw [zr5]
   obtain ⟨n1,n2⟩:=zn8 i1
   refine za1 (bv 1 rfl (zk6 (m:=i) (zf3 hr) (zh1 _) (zl8 _) n1 (by rw [zk3]; exact decide_eq_true rfl) n2 ?_))
   refine za3 (zc5 (i:=6) ndAh rfl (Or.inl rfl) (zg6 cy0 gy6 iy7 (zb0 NS (hr.mono (by decide)) rfl DS.at_ DS.fn.kp DS.bd (za4 (bv 0 rfl (za4 (bv 2 rfl (za1 (zb9 (by intro _ _; rfl) (zb9 (by intro _ _; rfl) (bv 0 rfl (bv 2 rfl (zb5 (d:=dP ⟨true,x,y,wb⟩) (zb2 (by rw [ay4,hb]; rfl)) (za2 (zb5 (d:=.str "take") rfl ⟨ds,b,⟨true,x,y,wb⟩, "take",rfl,hok,hl,hb,rfl,?_⟩)))))))))))))))
   rw [zr6]
   obtain ⟨n3,n4⟩:=zn8 i2
   refine za1 (bv 2 rfl (zk6 (m:=j) (zf3 hr) (zh1 _) (zl8 _) n3 (by rw [zk3]; exact decide_eq_true rfl) n4 ?_))
   refine za3 (zf2 (zc2 rfl (zb9 (by intro _ _; rfl) (zb9 (by intro _ _; rfl) (bv 0 rfl (bv 1 rfl (zb5 (d:=dP ⟨false,x,y,wa⟩) (zb2 (by rw [ay4,ha]; rfl)) (za2 (zb5 (d:=.str "send") rfl (ze4 (zf9 ⟨_,rfl,?_⟩)))))))))))
   rw [decide_eq_true rfl]
   refine zl2 (za9 (ze2 (zm7 rfl (bv 5 rfl (bv 6 rfl (zx1 ?_))))))
   rw [decide_eq_true (by omega)]
   exact hk
  ·obtain ⟨i,i1,i2⟩:=zm0 hx
   rw [gy2] at i2
   obtain ⟨j,hj⟩ : ∃ j,j = r + i:=⟨_,rfl⟩
   rw [<- hj] at i2
   obtain ⟨d1,q1,q2⟩:=(zd0.mp i1).1
   rw [ha] at q1
   cases q1
   obtain ⟨d2,q3,q4⟩:=(zd0.mp i2).1
   rw [hb] at q3
   cases q3
   obtain ⟨h1,h2,h3⟩:=ze8 q2
   obtain ⟨h4,h5,h6⟩:=zg0 q4
   subst h2
   obtain ⟨ta,x,y,wa⟩:=da
   obtain ⟨tb,x',y',wb⟩:=db
   dsimp only at h1 h4 h5
   subst h1 h4
   cases h5
   rw [decide_eq_false (show ¬ handOf ⟨true,x,y,wa⟩ = handOf ⟨false,x,y,wb⟩ from fun z=>hao.ne z.symm)]
   refine zf7 (ze5 ?_)
   refine za3 (zf2 (BW.bt (zm8 (zc2 rfl (zc7 (zb9 (by intro _ _; rfl) (bv 0 rfl (bv 1 rfl (zb5 (d:=dP ⟨true,x,y,wa⟩) (zb2 (by rw [ay4,ha]; rfl)) (zb8 (za2 ⟨1,rfl,zb8 (za2 ⟨3,rfl,zh7 ?_⟩)⟩)))))))))))
   refine zc7 (zb9 (by intro _ _; rfl) (bv 0 rfl (bv 2 rfl (zb5 (d:=dP ⟨false,x,y,wb⟩) (zb2 (by rw [ay4,hb]; rfl)) (zb8 (za2 ⟨1,rfl,zb8 (za2 ⟨3,rfl,zh7 ?_⟩)⟩))))))
   rw [zC0,zC0]
   refine za69 hr.units (.inl rfl) (.inl rfl) (zh5 hao.x hao.y) (zh5 hao.x hao.y) ⟨_,rfl,?_⟩
   rw [zq7,decide_eq_true rfl]
   refine zf7 (zm3 (zc2 rfl (zb9 (by intro _ _; rfl) (zb9 (by intro _ _; rfl) (bv 0 rfl (bv 1 rfl (zb5 (d:=dP ⟨true,x,y,wa⟩) (zb2 (by rw [ay4,ha]; rfl)) (za2 (zb5 (d:=.str "take") rfl ?_)))))))))
   refine zb9 (by intro _ _; rfl) (zb9 (by intro _ _; rfl) (bv 0 rfl (bv 2 rfl (zb5 (d:=dP ⟨false,x,y,wb⟩) (zb2 (by rw [ay4,hb]; rfl)) (za2 (zb5 (d:=.str "send") rfl (zf9 ⟨_,rfl,?_⟩)))))))
   rw [decide_eq_false zF3]
   refine zf7 (ze5 ?_)
   refine za3 (zc5 (i:=5) ndAh rfl (Or.inl rfl) (zg6 cy0 gy6 iy7 (zb0 NS (hr.mono (by decide)) rfl DS.at_ DS.fn.kp DS.bd (za4 (bv 0 rfl (za4 (bv 1 rfl (za1 (zb9 (by intro _ _; rfl) (zb9 (by intro _ _; rfl) (bv 0 rfl (bv 1 rfl (zb5 (d:=dP ⟨true,x,y,wa⟩) (zb2 (by rw [ay4,ha]; rfl)) (za2 (zb5 (d:=.str "take") rfl ⟨ds,a,⟨true,x,y,wa⟩, "take",rfl,hok,hl,ha,rfl,?_⟩)))))))))))))))
   rw [zr6]
   obtain ⟨n1,n2⟩:=zn8 i1
   refine za1 (bv 1 rfl (zk6 (m:=i) (zf3 hr) (zh1 _) (zl8 _) n1 (by rw [zk3]; exact decide_eq_true rfl) n2 ?_))
   refine za3 (zc5 (i:=6) ndAh rfl (Or.inl rfl) (zg6 cy0 gy6 iy7 (zb0 NS (hr.mono (by decide)) rfl DS.at_ DS.fn.kp DS.bd (za4 (bv 0 rfl (za4 (bv 2 rfl (za1 (zb9 (by intro _ _; rfl) (zb9 (by intro _ _; rfl) (bv 0 rfl (bv 2 rfl (zb5 (d:=dP ⟨false,x,y,wb⟩) (zb2 (by rw [ay4,hb]; rfl)) (za2 (zb5 (d:=.str "send") rfl ⟨ds,b,⟨false,x,y,wb⟩, "send",rfl,hok,hl,hb,rfl,?_⟩)))))))))))))))
   rw [zr5]
   obtain ⟨n3,n4⟩:=zn8 i2
   refine za1 (bv 2 rfl (zk6 (m:=j) (zf3 hr) (zh1 _) (zl8 _) n3 (by rw [zk3]; exact decide_eq_true rfl) n4 ?_))
   refine za3 (zf2 (zc2 rfl (zb9 (by intro _ _; rfl) (zb9 (by intro _ _; rfl) (bv 0 rfl (bv 1 rfl (zb5 (d:=dP ⟨true,x,y,wa⟩) (zb2 (by rw [ay4,ha]; rfl)) (za2 (zb5 (d:=.str "take") rfl (ze4 (zf9 ⟨_,rfl,?_⟩)))))))))))
   rw [decide_eq_false zF3]
   refine zf7 (ze5 (za9 (ze2 (zm7 rfl (bv 6 rfl (zf1 (bv 5 rfl (bv 3 rfl (zh8 (zx1 ?_))))))))))
   rw [decide_eq_true (by omega)]
   exact hk
end
theorem zc54 {ds : List za6} {r : Nat} {hs : List Str} {ps : List (Str × Str)} {a b : Nat} (h : (a,b)∈zh6 ds r hs ps) : a ≠ b:=by
 have kinds : ∀ {p : Str × Str} {a b : Nat},Is ds (zd9 p) a->Is ds (zc6 p) b->a ≠ b:=by
  rintro p a b ⟨d,d1,d2⟩ ⟨e,e1,e2⟩ rfl
  rw [d1] at e1
  cases e1
  have:=(zg0 d2).1
  rw [(ze8 e2).1] at this
  cases this
 unfold zh6 at h
 rcases by9.mp h with h | h
 ·obtain ⟨x,_,hx⟩:=hy7.mp h
  obtain ⟨i,i1,i2⟩:=zm0 hx
  rw [gy2] at i2
  have h1:=(zd0.mp i1).2
  have h2:=(zd0.mp i2).2
  intro z
  subst z
  omega
 ·obtain ⟨p,_,hx⟩:=hy7.mp h
  rcases by9.mp hx with hx | hx
  ·obtain ⟨i,i1,i2⟩:=zm0 hx
   exact kinds (zd0.mp i1).1 (zd0.mp i2).1
  ·obtain ⟨i,i1,i2⟩:=zm0 hx
   rw [gy2] at i2
   exact iy5 (kinds (zd0.mp i2).1 (zd0.mp i1).1)
theorem Round.two {ds : List za6} {r : Nat} {hs : List Str} {ps : List (Str × Str)} {L R : List Nat} (h : Round (zh6 ds r hs ps) L R) : 2 <= R.length:=by
 obtain ⟨a,b,h0,h1,he⟩:=h.last
 have hl:=(ay0.mp h0).1
 refine Nat.le_of_not_lt fun z=>?_
 have hl1 : R.length = 1:=by omega
 rw [List.getLast?_eq_getElem?,hl1,h0] at h1
 cases h1
 exact zc54 he rfl
theorem Round.prev {ds : List za6} {r : Nat} {hs : List Str} {ps : List (Str × Str)} {L R : List Nat} (h : Round (zh6 ds r hs ps) L R) {i : Nat} (hi : i < R.length) : ∃ u v,atI (za7 R) ((i : Int) - 1) = some (.int ((u : Nat) : Int)) /\ (za7 R)[i]? = some (.int ((v : Nat) : Int)) /\ (u,v)∈zh6 ds r hs ps:=by
 have hv : R[i]? = some R[i]:=ay7 hi
 have ev : (za7 R)[i]? = some (.int ((R[i] : Nat) : Int)):=by unfold za7; rw [ay4,hv]; rfl
 cases i with
 | zero =>
  obtain ⟨a,b,h0,h1,he⟩:=h.last
  rw [hv] at h0
  refine ⟨b,R[0],?_,ev,?_⟩
  ·obtain ⟨q,rfl⟩ : ∃ q,R = q++[b]:=List.getLast?_eq_some_iff.mp h1
   rw [zB9]
   exact zL9 _ _
  ·cases h0
   exact he
 | succ j =>
  have hj : R[j]? = some R[j]:=ay7 (by omega)
  refine ⟨R[j],R[j + 1],?_,ev,h.next j _ _ hj hv⟩
  rw [show (((j + 1 : Nat) : Int) - 1) = (j : Int) by omega]
  exact zb2 (by unfold za7; rw [ay4,hj]; rfl)
/-- the row told is seen alike -/
theorem zI5.alike {ds : List za6} {r : Nat} {D : List Nat} (h : zI5 ds r D) (x : Str) : vw (rowOf ds D) x = vw ds x:=by
 have o:=zM5 h.perm
 have hR:=h.rank
 have hkeep : Keep ds D (ze7 x):=fun a b ha hb z=>hR.v x a b ha hb z
 have hlen : (vw (rowOf ds D) x).length = (vw ds x).length:=by rw [za32,za32]; exact h.za31 _
 refine my2 fun i=>?_
 by_cases hi : i < (vw (rowOf ds D) x).length
 ·obtain ⟨t,t1,t2,t3,_⟩:=zc46 hi
  obtain ⟨a,a1,a2⟩:=o.is_ t1
  have ht:=(ay0.mp a1).1
  have e:=(zq6 o hkeep (my8 ht)).2 a a1 a2
  have e2:=zF5 a2
  rw [t3,o.at_ t a a1,<- e2]
  unfold vw
  rw [e,t2]
 ·rw [ly0 (by omega),ly0 (by omega)]
theorem zc55 {a b : za6} (h : ([a.kd,a.x,a.y,a.w] : List Str) = [b.kd,b.x,b.y,b.w]) : a = b:=by
 obtain ⟨ta,xa,ya,wa⟩:=a
 obtain ⟨tb,xb,yb,wb⟩:=b
 injection h with h1 h
 injection h with h2 h
 injection h with h3 h
 injection h with h4 _
 dsimp only at h2 h3 h4
 subst h2 h3 h4
 cases ta <;> cases tb
 ·rfl
 ·exact absurd h1 zb24
 ·exact absurd h1 zF3
 ·rfl
theorem zd90 : ¬ ("row" : Str) = "round" := by decide +kernel
theorem zc56 {n : Int} (h1 : 1 <= n) (h2 : n <= 40) : ¬ zq4 (.int n) = false:=by
 show ¬ (decide (1 <= n) && decide (n <= 40)) = false
 rw [decide_eq_true h1,decide_eq_true h2]
 decide
theorem zb59 {ds : List za6} (h : ∀ d∈ds,d.Ok) : Dat (.list (ds.map dP)):=by
 have:=zc00 h
 exact ⟨this.lay,this.dep⟩
theorem zd91 (ds : List za6) : ey0 (.list (ds.map dP)) (.list (ds.map dP)) = true:=by
 have:=zd32 ds ds
 rw [decide_eq_true rfl] at this
 exact this
section
variable {P : dy7} {w : World} {K : ay2} {mg : Str->Option Value} {base : Heap} {kA cN : Addr}
def rIsR : RB:=fun as W k=>∃ (ds : List za6) (r : Nat) (hs : List Str) (ps : List (Str × Str)) (L R : List Nat),as = [.d (rP ds),.d (.tuple (za7 R)),.d (.int r)] /\ (∀ d∈ds,d.Ok) /\ ds.length <= 100 /\ (∀ x∈L,x < ds.length) /\ Round (zh6 ds r hs ps) L R /\ k (.d (.bool true)) W
abbrev pIr : List Str:=["_law_row", "_law_told", "_law_rooms"]
abbrev nIr : List Str:=["_law_row", "_law_told", "_law_rooms", "_law_number"]
theorem scIr : zc0 nIr pIr (za0 zi3):=⟨rfl,rfl,rfl,by decide +kernel,rfl,by decide +kernel,by decide +kernel⟩
theorem ndIr : nIr.Nodup:=by decide +kernel
def cIr : Scope:=match za5 zi3 with
 | [_,_,_,.Return (some (.Call _ [.ListComp _ _ sc _] _ _)) _]=>sc
 | _=>zx5
theorem csIr : zc3 nIr (za0 zi3) ["_law_k"] ["_law_rooms", "_law_row", "_law_told"] [2,0,1] cIr:=⟨rfl,by decide +kernel,by decide +kernel,by decide +kernel,rfl,by decide +kernel⟩
theorem ze81 : (["_law_k", "_law_rooms", "_law_row", "_law_told"] : List Str).Nodup:=by decide +kernel
theorem zR0 {f fA fO fS : Addr} {fd dA dO dS : ey8} (F : Fun K "_law_is_round" "_law_is_round" zi3 f fd) (T : Txt mg) (DA : Def K mg "_law_ahead" zk1 fA dA pAh) (DO : Def K mg "_law_hand_of" zn4 fO dO ["_law_deed"]) (DS : Def K mg "_law_same" zv1 fS dS nSm) : zj8 P w K mg base CX0 3 f fd pIr (spB K rIsR):=by
 have NA:=@za36 P w K mg base _ _ _ _ _ _ DA.fn T DO DS
 refine zp7 F scIr (fun as W k ⟨ds,r,hs,ps,L,R,e,_⟩=>by subst e; rfl) fun cdv A outer s H E hr F0 A0 as W k hcl ⟨ds,r,hs,ps,L,R,e,hok,hl,hL,hR,hk⟩=>?_
 subst e
 have h2:=hR.two
 have hRl : ∀ x∈R,x < ds.length:=fun x hx=>hL x (hR.sub x hx)
 have hRn : R.length <= ds.length:=zc41 _ R hR.nd hRl
 have hnl : (za7 R).length = R.length:=by unfold za7; rw [ay3]
 refine za3 (zf2 (BW.bt (zm8 (zg2 (zg7 (zd6 rfl T.isi zo7 rfl T.tuple_ zk2 (by simp) (bv 1 rfl ⟨_,.inl rfl,_,rfl,?_⟩)))))))
 refine zf7 (zm3 (zc2 rfl (zb7 rfl T.len_ zj0 (za1 (bv 1 rfl (zg9 (za2 (za68 ⟨_,rfl,?_⟩))))))))
 rw [hnl,decide_eq_false (by omega)]
 refine zf7 (ze5 ?_)
 refine za3 (zx3 gy8 rfl (zs2 (bv 1 rfl ⟨za7 R,rfl,W.length,fun i S' W'=>∃ o3 : Option El,S' = [some (.d (rP ds)),some (.d (.tuple (za7 R))),some (.d (.int r)),o3] /\ W' = W,ay5 _,dy8 _,ay5 _,⟨none,rfl,rfl⟩,fun _ _ _ _ _=>trivial,?_,?_⟩)))
 ·rintro i z S' W' hz ⟨o3,rfl,rfl⟩
  unfold za7 at hz
  rw [ay4] at hz
  obtain ⟨x,hx,rfl⟩:=fy0.mp hz
  have hxl:=hRl x (by3 hx)
  refine zm9 (i:=3) ndIr rfl (Or.inl rfl) ?_
  refine za9 (zf2 (BW.bt (zm8 (zg2 (zg7 (zd6 rfl T.isi zo7 rfl T.int_ zc19 (by simp) (bv 3 rfl ⟨_,.inl rfl,_,rfl,?_⟩)))))))
  refine zf7 (zm8 (zg7 (zd6 rfl T.isi zo7 rfl T.bool_ za04 (by simp) (bv 3 rfl ⟨_,.inl rfl,_,rfl,?_⟩))))
  refine zf7 (zm3 (zg2 (zJ9 (za2 (bv 3 rfl (zO4 ⟨_,rfl,?_⟩))))))
  rw [decide_eq_true (by omega)]
  refine zl2 (zb7 rfl T.len_ zj0 (za1 (bv 0 rfl (zg9 (za68 ⟨_,rfl,?_⟩)))))
  rw [ay3,decide_eq_true (by omega)]
  exact zf7 (ze5 ⟨_,rfl,rfl⟩)
 rintro S' W' ⟨o3,rfl,rfl⟩
 refine za3 (zf2 (zc2 rfl (zQ5 rfl rfl T.len_ zj0 rfl T.set_ ze53 (bv 1 rfl ⟨R.map fun (n : Nat)=>(n : Int),by rw [gy7]; rfl,?_,by rw [ay3]; show _ < 4096; omega,zb7 rfl T.len_ zj0 (za1 (bv 1 rfl (zg9 (zD7 ⟨_,rfl,?_⟩))))⟩))))
 ·exact List.pairwise_map.mpr (hR.nd.imp fun h e=>h (Int.ofNat.inj e))
 rw [hnl,ay3,decide_eq_true rfl]
 refine zf7 (ze5 ?_)
 refine za9 (ze2 (zb7 rfl T.all_ za03 (za1 (zf0 rfl csIr (zg4 rfl T.range_ (zb7 rfl T.len_ zj0 (za1 (bv 1 rfl (zg9 ?_)))))))))
 rw [hnl]
 refine ⟨_,rfl,by omega,by omega,zn0 (fun _=>.bool true) trivial (za8 (by rw [zh3]; omega)) ?_ ?_⟩
 ·intro z hz
  rw [zq3] at hz
  obtain ⟨i,hi,rfl⟩:=dy6.mp hz
  have hi : i < R.length:=by simpa using hi
  obtain ⟨u,v,h3,h4,h5⟩:=hR.prev hi
  refine zd1 (i:=0) ze81 rfl (by decide) (fun _ _ _ _ _=>Or.inl rfl) (fun _ _ _ _ _=>rfl) fun cl C ex s H=>?_
  refine zb0 NA (hr.mono (by decide)) rfl DA.at_ DA.fn.kp DA.bd (za4 (bv 2 rfl (za4 (zb9 (by intro _ _; rfl) (bv 3 rfl (zf1 (bv 0 rfl (za2 (zV5 (zb5 (d:=.int u) h3 ?_))))))))))
  refine za4 (zb9 (by intro _ _; rfl) (bv 3 rfl (bv 0 rfl (zb5 (d:=.int v) (zb2 h4) (za1 (bv 1 rfl ⟨ds,u,v,r,hs,ps,rfl,hok,hl,h5,rfl,rfl⟩))))))
 ·have e : (ze9 0 ((R.length : Int)).toNat).map (fun _=>PyData.bool true) = ((ze9 0 ((R.length : Int)).toNat).map fun _=>true).map .bool:=by rw [gy7]; rfl
  rw [e]
  refine zD9 rfl (.inl rfl) ?_
  have : ((ze9 0 ((R.length : Int)).toNat).map fun _=>true).all id = true:=by rw [List.all_map]; simp
  rw [this]
  exact hk
structure zd92 (K : ay2) (mg : Str->Option Value) (fN fD fC fO fB fK fR fW : Addr) (dN dD dC dO dB dK dR dW : ey8) : Prop where
 n : Def K mg "is_name" zs6 fN dN ["thing"]
 d : Def K mg "is_deed" zB3 fD dD ["thing"]
 c : Def K mg "can_be_done" zR3 fC dC ["lines", "deed"]
 o : Def K mg "do_deed" sDo fO dO ["lines", "deed"]
 b : Def K mg "lines_behind" zn1 fB dB ["row"]
 k : Def K mg "check_rooms" zs4 fK dK ["rooms"]
 r : Def K mg "is_rooms" zi2 fR dR ["thing"]
 w : Def K mg "is_whole" zo3 fW dW ["thing"]
structure zd93 (K : ay2) (mg : Str->Option Value) (gF gO gV gE gC gM gS gA gI gW : Addr) (eF eO eV eE eC eM eS eA eI eW : ey8) : Prop where
 firsts : Def K mg "_law_firsts" zi9 gF eF ["_law_waiting"]
 hand : Def K mg "_law_hand_of" zn4 gO eO ["_law_deed"]
 view : Def K mg "_law_view" zo4 gV eV nVl
 seen : Def K mg "_law_seen_alike" zr2 gE eE ["_law_row", "_law_other"]
 can : Def K mg "_law_can_go" zI2 gC eC ["_law_row"]
 most : Def K mg "_law_most_under_way" zv0 gM eM ["_law_row"]
 same : Def K mg "_law_same" zv1 gS eS nSm
 ahead : Def K mg "_law_ahead" zk1 gA eA pAh
 isR : Def K mg "_law_is_round" zi3 gI eI pIr
 run : Def K mg "run_within" zI0 gW eW nRw
def zd94 : RB:=fun as W k=>∃ (ds : List za6) (r : Nat),as = [.d (rP ds),.d (.int r)] /\ zd66 ds /\ 1 <= r /\ r <= 40 /\ k (.d (.bool true)) W
abbrev pRi : List Str:=["_law_story_here", "_law_rooms"]
abbrev nRi : List Str:=["_law_story_here", "_law_rooms", "_law_found", "_law_row"]
theorem scRi : zc0 nRi pRi (za0 zv2):=⟨rfl,rfl,rfl,by decide +kernel,rfl,by decide +kernel,by decide +kernel⟩
theorem ndRi : nRi.Nodup:=by decide +kernel
instance : Inhabited za6:=⟨⟨false, "", "", ""⟩⟩
abbrev keyD (d : za6) : List Str:=[d.kd,d.x,d.y,d.w]
set_option maxHeartbeats 2000000 in
theorem zb26 {f fN fD fC fO fB fK fR fW fRo fA fNb fH fWf fRa gF gO gV gE gC gM gS gA gI gW : Addr} {fd dN dD dC dO dB dK dR dW dRo dA dNb dH dWf dRa eF eO eV eE eC eM eS eA eI eW : ey8} (F : Fun K "_law_right" "_law_right" zv2 f fd) (T : TxtN K mg kA) (TX : TxtX K mg cN) (hM : ∃ t,mg "MOST_ROOMS" = some (.int 40 t)) (DP : zd92 K mg fN fD fC fO fB fK fR fW dN dD dC dO dB dK dR dW) (DR : zc43 K mg fRo fA fNb fH fWf fRa dRo dA dNb dH dWf dRa) (DQ : zd93 K mg gF gO gV gE gC gM gS gA gI gW eF eO eV eE eC eM eS eA eI eW) : zj8 P w K mg base CX0 6 f fd pRi (spB K zd94):=by
 have NC:=@zc48 P w K mg base _ _ _ _ DQ.can.fn T.t DQ.firsts
 have NE:=@zc47 P w K mg base _ _ _ _ _ _ DQ.seen.fn T.t DQ.view DQ.hand
 have NM:=@zc50 P w K mg base _ _ DQ.most.fn T.t
 have NI:=@zR0 P w K mg base _ _ _ _ _ _ _ _ DQ.isR.fn T.t DQ.ahead DQ.hand DQ.same
 have NR:=@zd80 P w K mg base kA cN _ _ _ _ _ _ _ _ _ _ _ _ _ _ _ _ _ _ _ _ _ _ _ _ _ _ _ _ _ _ DQ.run.fn T TX hM DP.n DP.d DP.c DP.o DP.b DP.k DP.r DP.w DR
 refine zp7 F scRi (fun as W k ⟨ds,r,e,_⟩=>by subst e; rfl) fun cdv A outer s H E hr F0 A0 as W k hcl ⟨ds,r,e,st,hr1,hr40,hk⟩=>?_
 subst e
 have hl:=st.len
 have hev:=zc44 st.go st.none_
 have xo : ∀ {X : Bc},(∀ C S W,¬ X.xk C S W)->XOk X:=fun h F' A' W' H' S' σ' C e s' _ _ _ hx _=>absurd hx (h _ _ _)
 have hrt : ¬ zq4 (.int (r : Int)) = false:=zc56 (by omega) (by omega)
 refine zp0 (fun S' W'=>∃ fnd : PyData,S' = [some (.d (rP ds)),some (.d (.int r)),some (.d fnd),none] /\ W' = W /\ ((∃ hs ps L R,(∀ x∈L,x < ds.length) /\ Round (zh6 ds r hs ps) L R /\ fnd = .tuple [.str "round",.tuple (za7 R)]) \/ ∃ D,zI5 ds r D /\ fnd = .tuple [.str "row",rP (rowOf ds D)])) (zc5 (i:=2) ndRi rfl (Or.inl rfl) (zs8 NR (xo fun _ _ _ h=>h) (hr.mono (by decide)) DQ.run.at_ DQ.run.fn.kp DQ.run.bd (za4 (bv 0 rfl (za1 (bv 1 rfl ⟨ds,.int (r : Int),rfl,st.ok,by omega,st.go,(fun e=>nomatch e),fun r' e h1 h2=>⟨fun hs' ps L R a b c=>?_,fun D hD=>?_⟩,fun h=>absurd h hrt⟩)))))) ?_
 ·have e : (r : Int) = (r' : Int):=by injection e
  have e : r = r':=by omega
  subst e
  exact ⟨_,rfl,rfl,.inl ⟨hs',ps,L,R,b,c,rfl⟩⟩
 ·have e : (r : Int) = (r' : Int):=by injection e
  have e : r = r':=by omega
  subst e
  exact ⟨_,rfl,rfl,.inr ⟨D,hD,rfl⟩⟩
 rintro S' W' ⟨fnd,rfl,rfl,⟨hs,ps,L,R,hL,hR,rfl⟩ | ⟨D,hD,rfl⟩⟩
 ·refine za3 (zf2 (BW.bt (zm8 (zg2 (zg7 (zd6 rfl T.t.isi zo7 rfl T.t.tuple_ zk2 (by simp) (bv 2 rfl ⟨_,.inl rfl,_,rfl,?_⟩)))))))
  refine zf7 (zm8 (zc2 rfl (zb7 rfl T.t.len_ zj0 (za1 (bv 2 rfl (zg9 (za2 (zD7 ⟨_,rfl,?_⟩))))))))
  refine zf7 (zm3 (zg2 (zg7 (zd6 rfl T.t.isi zo7 rfl T.t.str_ zb00 (by simp) (zb9 (by intro _ _; rfl) (bv 2 rfl (za2 (zb5 (d:=.str "round") rfl ⟨_,.inl rfl,_,rfl,?_⟩))))))))
  refine zf7 (ze5 ?_)
  refine za3 (zf2 (zc2 rfl (zb9 (by intro _ _; rfl) (zs8 NR (xo fun _ _ _ h=>h) (hr.mono (by decide)) DQ.run.at_ DQ.run.fn.kp DQ.run.bd (za4 (bv 0 rfl (za1 (bv 1 rfl ⟨ds,.int (r : Int),rfl,st.ok,by omega,st.go,(fun e=>nomatch e),fun r' e h1 h2=>⟨fun hs' ps L R a b c=>?_,fun D hD=>?_⟩,fun h=>absurd h hrt⟩))))))))
  ·refine za2 (zb5 (d:=.str "round") rfl (zb9 (by intro _ _; rfl) (bv 2 rfl (za2 (zb5 (d:=.str "round") rfl (zJ6 ⟨_,rfl,?_⟩))))))
   rw [decide_eq_true rfl]
   refine zf7 (ze5 ?_)
   refine za3 (zf2 (zc2 rfl (zb9 (by intro _ _; rfl) (bv 2 rfl (za2 (zb5 (d:=.str "round") rfl (ze4 (zf9 ⟨_,rfl,?_⟩))))))))
   rw [decide_eq_true rfl]
   refine zl2 (za9 (ze2 (zb0 NI (hr.mono (by decide)) rfl DQ.isR.at_ DQ.isR.fn.kp DQ.isR.bd (za4 (bv 0 rfl (za4 (zb9 (by intro _ _; rfl) (bv 2 rfl (za2 (zb5 (d:=.tuple (za7 _)) rfl (za1 (bv 1 rfl ⟨ds,r,_,_,_,_,rfl,st.ok,by omega,hL,hR,hk⟩))))))))))))
  ·have e : (r : Int) = (r' : Int):=by injection e
   have e : r = r':=by omega
   subst e
   exact absurd ⟨_,hD.rank⟩ hR.za30
 ·have hpm:=zM6 hD.perm
  have hok : ∀ d∈rowOf ds D,d.Ok:=fun d hd=>st.ok d (hpm.mem_iff.mp hd)
  have hlr : (rowOf ds D).length = ds.length:=hpm.length_eq
  refine za3 (zf2 (BW.bt (zm8 (zg2 (zg7 (zd6 rfl T.t.isi zo7 rfl T.t.tuple_ zk2 (by simp) (bv 2 rfl ⟨_,.inl rfl,_,rfl,?_⟩)))))))
  refine zf7 (zm8 (zc2 rfl (zb7 rfl T.t.len_ zj0 (za1 (bv 2 rfl (zg9 (za2 (zD7 ⟨_,rfl,?_⟩))))))))
  refine zf7 (zm3 (zg2 (zg7 (zd6 rfl T.t.isi zo7 rfl T.t.str_ zb00 (by simp) (zb9 (by intro _ _; rfl) (bv 2 rfl (za2 (zb5 (d:=.str "row") rfl ⟨_,.inl rfl,_,rfl,?_⟩))))))))
  refine zf7 (ze5 ?_)
  refine za3 (zf2 (zc2 rfl (zb9 (by intro _ _; rfl) (zs8 NR (xo fun _ _ _ h=>h) (hr.mono (by decide)) DQ.run.at_ DQ.run.fn.kp DQ.run.bd (za4 (bv 0 rfl (za1 (bv 1 rfl ⟨ds,.int (r : Int),rfl,st.ok,by omega,st.go,(fun e=>nomatch e),fun r' e h1 h2=>⟨fun hs' ps L R a b c=>?_,fun D' hD'=>?_⟩,fun h=>absurd h hrt⟩))))))))
  ·have e : (r : Int) = (r' : Int):=by injection e
   have e : r = r':=by omega
   subst e
   exact absurd ⟨_,hD.rank⟩ c.za30
  refine za2 (zb5 (d:=.str "row") rfl (zb9 (by intro _ _; rfl) (bv 2 rfl (za2 (zb5 (d:=.str "row") rfl (zJ6 ⟨_,rfl,?_⟩))))))
  rw [decide_eq_true rfl]
  refine zf7 (ze5 ?_)
  refine za3 (zf2 (zc2 rfl (zb9 (by intro _ _; rfl) (bv 2 rfl (za2 (zb5 (d:=.str "row") rfl (ze4 (zf9 ⟨_,rfl,?_⟩))))))))
  rw [decide_eq_false zd90]
  refine zf7 (ze5 ?_)
  refine za3 (zc5 (i:=3) ndRi rfl (Or.inl rfl) (zb9 (by intro _ _; rfl) (bv 2 rfl (za2 (zb5 (d:=rP (rowOf ds D)) rfl ?_)))))
  refine za3 (zf2 (BW.bt (zm8 (zc2 rfl (zb9 (by intro _ _; rfl) (bv 2 rfl (za2 (zb5 (d:=.str "row") rfl (ze4 (zJ6 ⟨_,rfl,?_⟩))))))))))
  rw [decide_eq_true rfl]
  refine zf7 (zm8 (zg2 (zg7 (zd6 rfl T.t.isi zo7 rfl T.t.tuple_ zk2 (by simp) (bv 3 rfl ⟨_,.inl rfl,_,rfl,?_⟩)))))
  refine zf7 (zm8 (zc2 rfl (zb7 rfl T.t.len_ zj0 (za1 (bv 3 rfl (zg9 (zb7 rfl T.t.len_ zj0 (za1 (bv 0 rfl (zg9 (zD7 ⟨_,rfl,?_⟩)))))))))))
  rw [ay3,ay3,hlr,decide_eq_true rfl]
  refine zf7 (zm3 (zc2 rfl (zb7 rfl T.t.sorted_ zL2 (za1 (bv 3 rfl (zu8 (m:=4) keyD dP (fun _ _=>rfl) (by omega) (by decide) (fun _ _=>rfl) fun L1 p1 s1=>?_))))))
  refine zb7 rfl T.t.sorted_ zL2 (za1 (bv 0 rfl (zu8 (m:=4) keyD dP (fun _ _=>rfl) (by omega) (by decide) (fun _ _=>rfl) fun L2 p2 s2=>?_)))
  have eL : L1 = L2:=zE6 (key:=keyD) (m:=4) ((p1.trans hpm).trans p2.symm) s1 s2 (fun _ _=>rfl) fun a _ b _ e=>zc55 e
  subst eL
  have hok1 : ∀ d∈L1,d.Ok:=fun d hd=>hok d (p1.mem_iff.mp hd)
  refine za69 hr.units (d:=.list (L1.map dP)) (e:=.list (L1.map dP)) (.inr ⟨_,rfl,.inr ⟨_,rfl,by simp⟩⟩) (.inr ⟨_,rfl,.inr ⟨_,rfl,zc9⟩⟩) (zb59 hok1) (zb59 hok1) ⟨_,rfl,?_⟩
  rw [zd91]
  refine zf7 (ze5 ?_)
  refine za9 (zl4 (zu0 (zb0 NC (hr.mono (by decide)) rfl DQ.can.at_ DQ.can.fn.kp DQ.can.bd (za1 (bv 3 rfl ⟨rowOf ds D,rfl,hok,by omega,hD.goes st.go,_,rfl,?_⟩)))))
  refine zl2 (zu0 (zb0 NE (hr.mono (by decide)) rfl DQ.seen.at_ DQ.seen.fn.kp DQ.seen.bd (za4 (bv 3 rfl (za1 (bv 0 rfl ⟨rowOf ds D,ds,rfl,hok,by omega,by omega,fun x=>hD.alike x,_,rfl,?_⟩))))))
  refine zl2 (zt9 (zm7 rfl (zb0 NM (hr.mono (by decide)) rfl DQ.most.at_ DQ.most.fn.kp DQ.most.bd (za1 (bv 3 rfl ⟨rowOf ds D,r,rfl,hok,by omega,hD.goes st.go,hD.fits st.go hev,fun m hm=>bv 1 rfl (zO4 ?_)⟩)))))
  rw [decide_eq_true hm]
  exact ⟨_,W',_,rfl,fy5 ..,rfl,hcl,hk⟩
end
section
variable {P : dy7} {w : World} {K : ay2} {mg : Str->Option Value} {base : Heap} {kA cN : Addr}
structure ze82 (K : ay2) (mg : Str->Option Value) (hM hP hT hH hS hR : Addr) (iM iP iT iH iS iR : ey8) : Prop where
 mixed : Def K mg "_law_mixed" zs5 hM iM ["_law_cell"]
 pack : Def K mg "_law_pack" zI1 hP iP pPa
 take : Def K mg "_law_take" zB4 hT iT pTk
 hands : Def K mg "_law_hands" zk7 hH iH ["_law_pack_here"]
 story : Def K mg "_law_story" zu9 hS iS pSt
 right : Def K mg "_law_right" zv2 hR iR pRi
def rLaw : RB:=fun as W k=>∃ ns : List Int,as = [.s ns] /\ ns.length <= 63 /\ (∀ m∈ns,bits m <= 2 ^ 20) /\ ∀ V,k (.d (.bool true)) (W++V)
def za37 (K : ay2) : Sp:=spB K rLaw
theorem za38 {H : Hp} {a : Addr} {ns : List Int} (hl : ns.length <= 63) (hb : ∀ m∈ns,gy9 m <= 2 ^ 20) (hS : SqL K H a (ns.map V.int)) : za37 K [.ref a] H (fun v _=>v = .bl true) fun _ _ _=>False :=
 ⟨H,[],[],[.s ns],fun e _=>e = .d (.bool true),⟨.refl _,rfl,List.nodup_nil,fun a h=>by simp at h,fun k a o h=>by simp at h⟩,.cons ⟨a,rfl,hS⟩ .nil,⟨ns,rfl,hl,hb,fun _=>rfl⟩,fun F' A' W' H' e v _ _ z h=>by subst h; exact Rq.zt7 z⟩
abbrev nLa : List Str:=["_law_script", "_law_k", "_law_pack_here", "_law_story_here"]
theorem scLa : zc0 nLa ["_law_script"] (za0 sLaw):=⟨rfl,rfl,rfl,by decide +kernel,rfl,by decide +kernel,by decide +kernel⟩
theorem ndLa : nLa.Nodup:=by decide +kernel
def cLa : Scope:=match za5 sLaw with
 | [.For _ _ [_,_,.If (.UnaryOp _ (.Call _ [.ListComp _ _ sc _] _ _) _) _ _ _] _ _,_]=>sc
 | _=>zx5
theorem csLa : zc3 nLa (za0 sLaw) ["_law_rooms"] ["_law_story_here"] [3] cLa:=⟨rfl,by decide +kernel,by decide +kernel,by decide +kernel,rfl,by decide +kernel⟩
theorem ndLc : (["_law_rooms", "_law_story_here"] : List Str).Nodup:=by decide +kernel
def rms : List PyData:=[.int 1,.int 2,.int 3,.int 4,.int 5,.int 6,.int 7,.int 40]
theorem zd95 : ∀ d∈rms,∃ r : Nat,d = .int (r : Int) /\ 1 <= r /\ r <= 40:=by
 intro d hd
 simp only [rms,cy4,py3,or_false] at hd
 rcases hd with rfl | rfl | rfl | rfl | rfl | rfl | rfl | rfl
 ·exact ⟨1,rfl,by decide,by decide⟩
 ·exact ⟨2,rfl,by decide,by decide⟩
 ·exact ⟨3,rfl,by decide,by decide⟩
 ·exact ⟨4,rfl,by decide,by decide⟩
 ·exact ⟨5,rfl,by decide,by decide⟩
 ·exact ⟨6,rfl,by decide,by decide⟩
 ·exact ⟨7,rfl,by decide,by decide⟩
 ·exact ⟨40,rfl,by decide,by decide⟩
abbrev iLaw (ns : List Int) (W : Wl) : Nat->Sl->Wl->Prop:=fun i S' W'=>∃ (V : Wl) (o1 o2 o3 : Option El),W' = W++V /\ S' = [some (.s ns),o1,o2,o3]
set_option maxHeartbeats 4000000 in
theorem zd96 {f fN fD fC fO fB fK fR fW fRo fA fNb fH fWf fRa gF gO gV gE gC gM gS gA gI gW hM hP hT hH hS hR : Addr} {fd dN dD dC dO dB dK dR dW dRo dA dNb dH dWf dRa eF eO eV eE eC eM eS eA eI eW iM iP iT iH iS iR : ey8} (F : Fun K "law" "law" sLaw f fd) (T : TxtN K mg kA) (TX : TxtX K mg cN) (hMo : ∃ t,mg "MOST_ROOMS" = some (.int 40 t)) (DP : zd92 K mg fN fD fC fO fB fK fR fW dN dD dC dO dB dK dR dW) (DR : zc43 K mg fRo fA fNb fH fWf fRa dRo dA dNb dH dWf dRa) (DQ : zd93 K mg gF gO gV gE gC gM gS gA gI gW eF eO eV eE eC eM eS eA eI eW) (DL : ze82 K mg hM hP hT hH hS hR iM iP iT iH iS iR) : zj8 P w K mg base CX0 7 f fd ["_law_script"] (za37 K):=by
 have NP:=@zc25 P w K mg base _ _ _ _ DL.pack.fn T.t DL.mixed
 have NH:=@zb02 P w K mg base _ _ _ _ DL.hands.fn T.t DL.take
 have NS:=@zb10 P w K mg base _ _ _ _ _ _ DL.story.fn T.t DL.take DQ.firsts
 have NI:=@zb26 P w K mg base kA cN _ _ _ _ _ _ _ _ _ _ _ _ _ _ _ _ _ _ _ _ _ _ _ _ _ _ _ _ _ _ _ _ _ _ _ _ _ _ _ _ _ _ _ _ _ _ _ _ _ _ DL.right.fn T TX hMo DP DR DQ
 refine zp7 F scLa (fun as W k ⟨ns,e,_⟩=>by subst e; rfl) fun cdv A outer s H E hr F0 A0 as W k hcl ⟨ns,e,hns,hbt,hk⟩=>?_
 subst e
 refine za3 (zx3 gy8 rfl (zg4 rfl T.t.range_ (zb7 rfl T.t.max_ zd51 (za4 (za2 (za1 (zb7 rfl T.t.min_ ze52 (za4 (za2 (za1 (zb7 rfl T.t.len_ zj0 (za1 (bv 0 rfl (zs3 (zc04 rfl (zX0 rfl ?_))))))))))))))))
 obtain ⟨M,hM8,hMe⟩ : ∃ M : Nat,M <= 10 /\ (if (if (ns.length : Int) < 10 then (ns.length : Int) else 10) > 1 then (if (ns.length : Int) < 10 then (ns.length : Int) else 10) else 1) = (M : Int):=by
  refine ⟨(if (if (ns.length : Int) < 10 then (ns.length : Int) else 10) > 1 then (if (ns.length : Int) < 10 then (ns.length : Int) else 10) else 1).toNat,?_,?_⟩ <;> split <;> split <;> omega
 rw [hMe]
 refine ⟨_,rfl,by omega,by omega,W.length,iLaw ns W,ay5 _,dy8 _,ay5 _,⟨[],none,none,none,by simp,rfl⟩,fun _ _ _ _ _=>trivial,?_,?_⟩
 ·rintro i z S' W' hz ⟨V,o1,o2,o3,rfl,rfl⟩
  have hi : i < M:=by have:=(ay0.mp hz).1; rw [zh3] at this; exact this
  obtain rfl : z = .int (i : Int):=by
   unfold ze9 at hz
   rw [ay4,oy8 (by exact hi)] at hz
   simpa using hz.symm
  refine zm9 (i:=1) ndLa rfl (Or.inl rfl) ?_
  refine za3 (zc5 (i:=2) ndLa rfl (Or.inl rfl) (zb0 NP (hr.mono (by decide)) rfl DL.pack.at_ DL.pack.fn.kp DL.pack.bd (za4 (bv 0 rfl (za1 (bv 1 rfl ⟨ns,i,rfl,hbt,by omega,fun n0 hn0=>?_⟩))))))
  obtain ⟨U,hU⟩ : ∃ U,U = W++V:=⟨_,rfl⟩
  rw [<- hU]
  refine za3 (zc5 (i:=3) ndLa rfl (Or.inr rfl) (zb0 NS (hr.mono (by decide)) rfl DL.story.at_ DL.story.fn.kp DL.story.bd (za4 (bv 2 rfl (za4 (zb0 NH (hr.mono (by decide)) rfl DL.hands.at_ DL.hands.fn.kp DL.hands.bd (za1 (bv 2 rfl ⟨U.length,rfl,zk8.last hn0,fun hs W1 hh pw1=>za1 (za2 ?_)⟩))))))))
  obtain ⟨n1,rfl,hn1⟩:=pw1.last
  refine ⟨U.length,hs,rfl,zk8.last hn1,hh,fun ds W2 st pw2=>?_⟩
  obtain ⟨n2,rfl,hn2⟩:=pw2.last
  refine za9 (zf2 (zg2 (zg7 (zb7 rfl T.t.all_ za03 (za1 (zf0 rfl csLa (zz7 (zD4 ?_))))))))
  refine za4 (za2 ?_)
  refine za4 (za2 ?_)
  refine za4 (za2 ?_)
  refine za4 (za2 ?_)
  refine za4 (za2 ?_)
  refine za4 (za2 ?_)
  refine za4 (za2 ?_)
  refine za1 (za2 ⟨rms,rfl,(by show 8 <= by0; decide),_,rfl,zn0 (fun _=>.bool true) trivial (by show 8 <= by0; decide) ?_ ?_⟩)
  ·intro z hz
   obtain ⟨r,rfl,h1,h2⟩:=zd95 z hz
   refine zd1 (i:=0) ndLc rfl (by decide) (fun _ _ _ _ _=>Or.inl rfl) (fun _ _ _ _ _=>rfl) fun cl C ex s H=>?_
   exact zb0 NI (hr.mono (by decide)) rfl DL.right.at_ DL.right.fn.kp DL.right.bd (za4 (bv 1 rfl (za1 (bv 0 rfl ⟨ds,r,rfl,st,h1,h2,rfl,rfl⟩))))
  ·have e : rms.map (fun _=>PyData.bool true) = (rms.map fun _=>true).map .bool:=by rw [gy7]; rfl
   rw [e]
   refine zD9 rfl (.inl rfl) ?_
   have : (rms.map fun _=>true).all id = true:=by rw [List.all_map]; simp
   rw [this]
   exact ⟨_,rfl,zf7 (ze5 ⟨V++[wl n2],_,_,_,by rw [hU]; simp,rfl⟩)⟩
 ·rintro S' W' ⟨V,o1,o2,o3,rfl,rfl⟩
  exact za9 (ze2 (za67 (hk _)))
end
theorem all_mk {l : PySem.W.OpenLaw} {w : World} {K : ay2} {h : Heap} {mg : Str->Option Value} {fa : Addr} {kdA nrA : Addr} {odJ : Option Addr} {slJ : Array (Option Value)} {tl tn t1 t2 tr : Tok} {nK : Nat} (X : K.In h) (G : h.Ns by7 mg) (hfa : mg "law" = some (.ref fa))
  {fW fN fD fH fC fO fB fR fCK fRW fRO fWF fRA fAA fNB fX1 fP fT fLH fF1 fS fHL fVL fSE fCL fMO fSM fAL fIR fRI fZ : Addr} {odW anW odN anN odD anD odH anH odC anC odO anO odB anB odR anR odCK anCK odRW anRW odRO anRO odWF anWF odRA anRA odAA anAA odNB anNB odX1 anX1 odP anP odT anT odLH anLH odF1 anF1 odS anS odHL anHL odVL anVL odSE anSE odCL anCL odMO anMO odSM anSM odAL anAL odIR anIR odRI anRI odZ anZ : Option Addr} {slW slN slD slH slC slO slB slR slCK slRW slRO slWF slRA slAA slNB slX1 slP slT slLH slF1 slS slHL slVL slSE slCL slMO slSM slAL slIR slRI slZ : Array (Option Value)} {ocW kVW dcW pmW cdW ctW ocN kVN dcN pmN cdN ctN ocD kVD dcD pmD cdD ctD ocH kVH dcH pmH cdH ctH ocC kVC dcC pmC cdC ctC ocO kVO dcO pmO cdO ctO ocB kVB dcB pmB cdB ctB ocR kVR dcR pmR cdR ctR ocCK kVCK dcCK pmCK cdCK ctCK ocRW kVRW dcRW pmRW cdRW ctRW ocRO kVRO dcRO pmRO cdRO ctRO ocWF kVWF dcWF pmWF cdWF ctWF ocRA kVRA dcRA pmRA cdRA ctRA ocAA kVAA dcAA pmAA cdAA ctAA ocNB kVNB dcNB pmNB cdNB ctNB ocX1 kVX1 dcX1 pmX1 cdX1 ctX1 ocP kVP dcP pmP cdP ctP ocT kVT dcT pmT cdT ctT ocLH kVLH dcLH pmLH cdLH ctLH ocF1 kVF1 dcF1 pmF1 cdF1 ctF1 ocS kVS dcS pmS cdS ctS ocHL kVHL dcHL pmHL cdHL ctHL ocVL kVVL dcVL pmVL cdVL ctVL ocSE kVSE dcSE pmSE cdSE ctSE ocCL kVCL dcCL pmCL cdCL ctCL ocMO kVMO dcMO pmMO cdMO ctMO ocSM kVSM dcSM pmSM cdSM ctSM ocAL kVAL dcAL pmAL cdAL ctAL ocIR kVIR dcIR pmIR cdIR ctIR ocRI kVRI dcRI pmRI cdRI ctRI ocZ kVZ dcZ pmZ cdZ ctZ : Value}
  (aW : cy2 K by7 "is_whole" = some (some (.ref fW))) (lW : K.lookup fW = some ⟨ocW,odW,.func (dy4 "is_whole" "is_whole" (zc1 zo3) (za5 zo3) (za0 zo3) .none kVW dcW pmW anW cdW ctW),slW⟩) (cW : dy0 K cdW "is_whole" = true) (kW : cy8 K (.ref fW) = true)
  (aN : cy2 K by7 "is_name" = some (some (.ref fN))) (lN : K.lookup fN = some ⟨ocN,odN,.func (dy4 "is_name" "is_name" (zc1 zs6) (za5 zs6) (za0 zs6) .none kVN dcN pmN anN cdN ctN),slN⟩) (cN : dy0 K cdN "is_name" = true) (kN : cy8 K (.ref fN) = true)
  (aD : cy2 K by7 "is_deed" = some (some (.ref fD))) (lD : K.lookup fD = some ⟨ocD,odD,.func (dy4 "is_deed" "is_deed" (zc1 zB3) (za5 zB3) (za0 zB3) .none kVD dcD pmD anD cdD ctD),slD⟩) (cD : dy0 K cdD "is_deed" = true) (kD : cy8 K (.ref fD) = true)
  (aH : cy2 K by7 "hand_of" = some (some (.ref fH))) (lH : K.lookup fH = some ⟨ocH,odH,.func (dy4 "hand_of" "hand_of" (zc1 zk0) (za5 zk0) (za0 zk0) .none kVH dcH pmH anH cdH ctH),slH⟩) (cH : dy0 K cdH "hand_of" = true) (kH : cy8 K (.ref fH) = true)
  (aC : cy2 K by7 "can_be_done" = some (some (.ref fC))) (lC : K.lookup fC = some ⟨ocC,odC,.func (dy4 "can_be_done" "can_be_done" (zc1 zR3) (za5 zR3) (za0 zR3) .none kVC dcC pmC anC cdC ctC),slC⟩) (cC : dy0 K cdC "can_be_done" = true) (kC : cy8 K (.ref fC) = true)
  (aO : cy2 K by7 "do_deed" = some (some (.ref fO))) (lO : K.lookup fO = some ⟨ocO,odO,.func (dy4 "do_deed" "do_deed" (zc1 sDo) (za5 sDo) (za0 sDo) .none kVO dcO pmO anO cdO ctO),slO⟩) (cO : dy0 K cdO "do_deed" = true) (kO : cy8 K (.ref fO) = true)
  (aB : cy2 K by7 "lines_behind" = some (some (.ref fB))) (lB : K.lookup fB = some ⟨ocB,odB,.func (dy4 "lines_behind" "lines_behind" (zc1 zn1) (za5 zn1) (za0 zn1) .none kVB dcB pmB anB cdB ctB),slB⟩) (cB : dy0 K cdB "lines_behind" = true) (kB : cy8 K (.ref fB) = true)
  (aR : cy2 K by7 "is_rooms" = some (some (.ref fR))) (lR : K.lookup fR = some ⟨ocR,odR,.func (dy4 "is_rooms" "is_rooms" (zc1 zi2) (za5 zi2) (za0 zi2) .none kVR dcR pmR anR cdR ctR),slR⟩) (cR : dy0 K cdR "is_rooms" = true) (kR : cy8 K (.ref fR) = true)
  (aCK : cy2 K by7 "check_rooms" = some (some (.ref fCK))) (lCK : K.lookup fCK = some ⟨ocCK,odCK,.func (dy4 "check_rooms" "check_rooms" (zc1 zs4) (za5 zs4) (za0 zs4) .none kVCK dcCK pmCK anCK cdCK ctCK),slCK⟩) (cCK : dy0 K cdCK "check_rooms" = true) (kCK : cy8 K (.ref fCK) = true)
  (aRW : cy2 K by7 "run_within" = some (some (.ref fRW))) (lRW : K.lookup fRW = some ⟨ocRW,odRW,.func (dy4 "run_within" "run_within" (zc1 zI0) (za5 zI0) (za0 zI0) .none kVRW dcRW pmRW anRW cdRW ctRW),slRW⟩) (cRW : dy0 K cdRW "run_within" = true) (kRW : cy8 K (.ref fRW) = true)
  (aRO : cy2 K by7 "row_or_round" = some (some (.ref fRO))) (lRO : K.lookup fRO = some ⟨ocRO,odRO,.func (dy4 "row_or_round" "row_or_round" (zc1 zQ6) (za5 zQ6) (za0 zQ6) .none kVRO dcRO pmRO anRO cdRO ctRO),slRO⟩) (cRO : dy0 K cdRO "row_or_round" = true) (kRO : cy8 K (.ref fRO) = true)
  (aWF : cy2 K by7 "waits_for" = some (some (.ref fWF))) (lWF : K.lookup fWF = some ⟨ocWF,odWF,.func (dy4 "waits_for" "waits_for" (zc1 zn2) (za5 zn2) (za0 zn2) .none kVWF dcWF pmWF anWF cdWF ctWF),slWF⟩) (cWF : dy0 K cdWF "waits_for" = true) (kWF : cy8 K (.ref fWF) = true)
  (aRA : cy2 K by7 "round_among" = some (some (.ref fRA))) (lRA : K.lookup fRA = some ⟨ocRA,odRA,.func (dy4 "round_among" "round_among" (zc1 zn3) (za5 zn3) (za0 zn3) .none kVRA dcRA pmRA anRA cdRA ctRA),slRA⟩) (cRA : dy0 K cdRA "round_among" = true) (kRA : cy8 K (.ref fRA) = true)
  (aAA : cy2 K by7 "all_ahead" = some (some (.ref fAA))) (lAA : K.lookup fAA = some ⟨ocAA,odAA,.func (dy4 "all_ahead" "all_ahead" (zc1 zw2) (za5 zw2) (za0 zw2) .none kVAA dcAA pmAA anAA cdAA ctAA),slAA⟩) (cAA : dy0 K cdAA "all_ahead" = true) (kAA : cy8 K (.ref fAA) = true)
  (aNB : cy2 K by7 "numbers_by" = some (some (.ref fNB))) (lNB : K.lookup fNB = some ⟨ocNB,odNB,.func (dy4 "numbers_by" "numbers_by" (zc1 zq1) (za5 zq1) (za0 zq1) .none kVNB dcNB pmNB anNB cdNB ctNB),slNB⟩) (cNB : dy0 K cdNB "numbers_by" = true) (kNB : cy8 K (.ref fNB) = true)
  (aX1 : cy2 K by7 "_law_mixed" = some (some (.ref fX1))) (lX1 : K.lookup fX1 = some ⟨ocX1,odX1,.func (dy4 "_law_mixed" "_law_mixed" (zc1 zs5) (za5 zs5) (za0 zs5) .none kVX1 dcX1 pmX1 anX1 cdX1 ctX1),slX1⟩) (cX1 : dy0 K cdX1 "_law_mixed" = true) (kX1 : cy8 K (.ref fX1) = true)
  (aP : cy2 K by7 "_law_pack" = some (some (.ref fP))) (lP : K.lookup fP = some ⟨ocP,odP,.func (dy4 "_law_pack" "_law_pack" (zc1 zI1) (za5 zI1) (za0 zI1) .none kVP dcP pmP anP cdP ctP),slP⟩) (cP : dy0 K cdP "_law_pack" = true) (kP : cy8 K (.ref fP) = true)
  (aT : cy2 K by7 "_law_take" = some (some (.ref fT))) (lT : K.lookup fT = some ⟨ocT,odT,.func (dy4 "_law_take" "_law_take" (zc1 zB4) (za5 zB4) (za0 zB4) .none kVT dcT pmT anT cdT ctT),slT⟩) (cT : dy0 K cdT "_law_take" = true) (kT : cy8 K (.ref fT) = true)
  (aLH : cy2 K by7 "_law_hands" = some (some (.ref fLH))) (lLH : K.lookup fLH = some ⟨ocLH,odLH,.func (dy4 "_law_hands" "_law_hands" (zc1 zk7) (za5 zk7) (za0 zk7) .none kVLH dcLH pmLH anLH cdLH ctLH),slLH⟩) (cLH : dy0 K cdLH "_law_hands" = true) (kLH : cy8 K (.ref fLH) = true)
  (aF1 : cy2 K by7 "_law_firsts" = some (some (.ref fF1))) (lF1 : K.lookup fF1 = some ⟨ocF1,odF1,.func (dy4 "_law_firsts" "_law_firsts" (zc1 zi9) (za5 zi9) (za0 zi9) .none kVF1 dcF1 pmF1 anF1 cdF1 ctF1),slF1⟩) (cF1 : dy0 K cdF1 "_law_firsts" = true) (kF1 : cy8 K (.ref fF1) = true)
  (aS : cy2 K by7 "_law_story" = some (some (.ref fS))) (lS : K.lookup fS = some ⟨ocS,odS,.func (dy4 "_law_story" "_law_story" (zc1 zu9) (za5 zu9) (za0 zu9) .none kVS dcS pmS anS cdS ctS),slS⟩) (cS : dy0 K cdS "_law_story" = true) (kS : cy8 K (.ref fS) = true)
  (aHL : cy2 K by7 "_law_hand_of" = some (some (.ref fHL))) (lHL : K.lookup fHL = some ⟨ocHL,odHL,.func (dy4 "_law_hand_of" "_law_hand_of" (zc1 zn4) (za5 zn4) (za0 zn4) .none kVHL dcHL pmHL anHL cdHL ctHL),slHL⟩) (cHL : dy0 K cdHL "_law_hand_of" = true) (kHL : cy8 K (.ref fHL) = true)
  (aVL : cy2 K by7 "_law_view" = some (some (.ref fVL))) (lVL : K.lookup fVL = some ⟨ocVL,odVL,.func (dy4 "_law_view" "_law_view" (zc1 zo4) (za5 zo4) (za0 zo4) .none kVVL dcVL pmVL anVL cdVL ctVL),slVL⟩) (cVL : dy0 K cdVL "_law_view" = true) (kVL : cy8 K (.ref fVL) = true)
  (aSE : cy2 K by7 "_law_seen_alike" = some (some (.ref fSE))) (lSE : K.lookup fSE = some ⟨ocSE,odSE,.func (dy4 "_law_seen_alike" "_law_seen_alike" (zc1 zr2) (za5 zr2) (za0 zr2) .none kVSE dcSE pmSE anSE cdSE ctSE),slSE⟩) (cSE : dy0 K cdSE "_law_seen_alike" = true) (kSE : cy8 K (.ref fSE) = true)
  (aCL : cy2 K by7 "_law_can_go" = some (some (.ref fCL))) (lCL : K.lookup fCL = some ⟨ocCL,odCL,.func (dy4 "_law_can_go" "_law_can_go" (zc1 zI2) (za5 zI2) (za0 zI2) .none kVCL dcCL pmCL anCL cdCL ctCL),slCL⟩) (cCL : dy0 K cdCL "_law_can_go" = true) (kCL : cy8 K (.ref fCL) = true)
  (aMO : cy2 K by7 "_law_most_under_way" = some (some (.ref fMO))) (lMO : K.lookup fMO = some ⟨ocMO,odMO,.func (dy4 "_law_most_under_way" "_law_most_under_way" (zc1 zv0) (za5 zv0) (za0 zv0) .none kVMO dcMO pmMO anMO cdMO ctMO),slMO⟩) (cMO : dy0 K cdMO "_law_most_under_way" = true) (kMO : cy8 K (.ref fMO) = true)
  (aSM : cy2 K by7 "_law_same" = some (some (.ref fSM))) (lSM : K.lookup fSM = some ⟨ocSM,odSM,.func (dy4 "_law_same" "_law_same" (zc1 zv1) (za5 zv1) (za0 zv1) .none kVSM dcSM pmSM anSM cdSM ctSM),slSM⟩) (cSM : dy0 K cdSM "_law_same" = true) (kSM : cy8 K (.ref fSM) = true)
  (aAL : cy2 K by7 "_law_ahead" = some (some (.ref fAL))) (lAL : K.lookup fAL = some ⟨ocAL,odAL,.func (dy4 "_law_ahead" "_law_ahead" (zc1 zk1) (za5 zk1) (za0 zk1) .none kVAL dcAL pmAL anAL cdAL ctAL),slAL⟩) (cAL : dy0 K cdAL "_law_ahead" = true) (kAL : cy8 K (.ref fAL) = true)
  (aIR : cy2 K by7 "_law_is_round" = some (some (.ref fIR))) (lIR : K.lookup fIR = some ⟨ocIR,odIR,.func (dy4 "_law_is_round" "_law_is_round" (zc1 zi3) (za5 zi3) (za0 zi3) .none kVIR dcIR pmIR anIR cdIR ctIR),slIR⟩) (cIR : dy0 K cdIR "_law_is_round" = true) (kIR : cy8 K (.ref fIR) = true)
  (aRI : cy2 K by7 "_law_right" = some (some (.ref fRI))) (lRI : K.lookup fRI = some ⟨ocRI,odRI,.func (dy4 "_law_right" "_law_right" (zc1 zv2) (za5 zv2) (za0 zv2) .none kVRI dcRI pmRI anRI cdRI ctRI),slRI⟩) (cRI : dy0 K cdRI "_law_right" = true) (kRI : cy8 K (.ref fRI) = true)
  (aZ : cy2 K by7 "law" = some (some (.ref fZ))) (lZ : K.lookup fZ = some ⟨ocZ,odZ,.func (dy4 "law" "law" (zc1 sLaw) (za5 sLaw) (za0 sLaw) .none kVZ dcZ pmZ anZ cdZ ctZ),slZ⟩) (cZ : dy0 K cdZ "law" = true) (kZ : cy8 K (.ref fZ) = true)
  (z0 : cy2 K by7 "isinstance" = some none)
  (z1 : cy2 K by7 "int" = some none)
  (z2 : cy2 K by7 "tuple" = some none)
  (z3 : cy2 K by7 "len" = some none)
  (z4 : cy2 K by7 "all" = some none)
  (z5 : cy2 K by7 "range" = some none)
  (z6 : cy2 K by7 "divmod" = some none)
  (z7 : cy2 K by7 "sum" = some none)
  (z8 : cy2 K by7 "str" = some none)
  (z9 : cy2 K by7 "max" = some none)
  (z10 : cy2 K by7 "bool" = some none)
  (z11 : cy2 K by7 "list" = some none)
  (z12 : cy2 K by7 "min" = some none)
  (z13 : cy2 K by7 "enumerate" = some none)
  (z14 : cy2 K by7 "zip" = some none)
  (z15 : cy2 K by7 "sorted" = some none)
  (z16 : cy2 K by7 "set" = some none)
  (aLet : cy2 K by7 "LETTERS" = some (some (.str "abcdefghijklmnopqrstuvwxyz" tl)))
  (aLon : cy2 K by7 "LONGEST_NAME" = some (some (.int 8 tn)))
  (aKin : cy2 K by7 "KINDS" = some (some (.ref kdA)))
  (lKin : K.lookup kdA = some ⟨.type "tuple",odJ,.seq #[.str "send" t1,.str "take" t2] nK,slJ⟩)
  (aRoo : cy2 K by7 "MOST_ROOMS" = some (some (.int 40 tr)))
  (aNR : cy2 K by7 "NoRooms" = some (some (.ref nrA)))
  (xNR : PySem.W.excIn K nrA [.type "ValueError",.type "Exception",.type "BaseException",.type "object"] "ValueError.__new__" = true)
  : ∃ fd : ey8,(∀ (s : Shared) (v : Value),BindsTo s fd ⟨[v],[]⟩ [("_law_script",v)]) /\ ∀ base : Heap,K.In base->base.Ns by7 mg->zj8 l.prog w K mg base CX0 7 fa fd ["_law_script"] (za37 K):=by
 have e:=hfa.symm.trans (dy2 X G aZ)
 cases e
 have T : TxtN K mg kdA /\ TxtX K mg nrA /\ ∃ t,mg "MOST_ROOMS" = some (.int 40 t):=⟨⟨⟨ey9 X G z0,ey9 X G z1,ey9 X G z2,ey9 X G z3,ey9 X G z4,ey9 X G z5,ey9 X G z6,ey9 X G z7,ey9 X G z8,ey9 X G z9,ey9 X G z10,ey9 X G z11,ey9 X G z12,ey9 X G z13,ey9 X G z14,ey9 X G z15,ey9 X G z16⟩,⟨tl,dy2 X G aLet⟩,⟨tn,dy2 X G aLon⟩,dy2 X G aKin,fun H=>.inr ⟨_,_,_,lKin,rfl,rfl,(by show 2 <= by0; decide),.cons ⟨_,rfl⟩ (.cons ⟨_,rfl⟩ .nil)⟩⟩,⟨dy2 X G aNR,xNR⟩,⟨tr,dy2 X G aRoo⟩⟩
 have FW:=zd5 (st:=zo3) lW cW kW
 have FN:=zd5 (st:=zs6) lN cN kN
 have FD:=zd5 (st:=zB3) lD cD kD
 have FH:=zd5 (st:=zk0) lH cH kH
 have FC:=zd5 (st:=zR3) lC cC kC
 have FO:=zd5 (st:=sDo) lO cO kO
 have FB:=zd5 (st:=zn1) lB cB kB
 have FR:=zd5 (st:=zi2) lR cR kR
 have FCK:=zd5 (st:=zs4) lCK cCK kCK
 have FRW:=zd5 (st:=zI0) lRW cRW kRW
 have FRO:=zd5 (st:=zQ6) lRO cRO kRO
 have FWF:=zd5 (st:=zn2) lWF cWF kWF
 have FRA:=zd5 (st:=zn3) lRA cRA kRA
 have FAA:=zd5 (st:=zw2) lAA cAA kAA
 have FNB:=zd5 (st:=zq1) lNB cNB kNB
 have FX1:=zd5 (st:=zs5) lX1 cX1 kX1
 have FP:=zd5 (st:=zI1) lP cP kP
 have FT:=zd5 (st:=zB4) lT cT kT
 have FLH:=zd5 (st:=zk7) lLH cLH kLH
 have FF1:=zd5 (st:=zi9) lF1 cF1 kF1
 have FS:=zd5 (st:=zu9) lS cS kS
 have FHL:=zd5 (st:=zn4) lHL cHL kHL
 have FVL:=zd5 (st:=zo4) lVL cVL kVL
 have FSE:=zd5 (st:=zr2) lSE cSE kSE
 have FCL:=zd5 (st:=zI2) lCL cCL kCL
 have FMO:=zd5 (st:=zv0) lMO cMO kMO
 have FSM:=zd5 (st:=zv1) lSM cSM kSM
 have FAL:=zd5 (st:=zk1) lAL cAL kAL
 have FIR:=zd5 (st:=zi3) lIR cIR kIR
 have FRI:=zd5 (st:=zv2) lRI cRI kRI
 have FZ:=zd5 (st:=sLaw) lZ cZ kZ
 have bW:=FW.binds (ps:=["thing"]) fun _ _ _ _ _ _ us hl=>match us,hl with | [_],_=>rfl
 have bN:=FN.binds (ps:=["thing"]) fun _ _ _ _ _ _ us hl=>match us,hl with | [_],_=>rfl
 have bD:=FD.binds (ps:=["thing"]) fun _ _ _ _ _ _ us hl=>match us,hl with | [_],_=>rfl
 have bH:=FH.binds (ps:=["deed"]) fun _ _ _ _ _ _ us hl=>match us,hl with | [_],_=>rfl
 have bC:=FC.binds (ps:=["lines", "deed"]) fun _ _ _ _ _ _ us hl=>match us,hl with | [_,_],_=>rfl
 have bO:=FO.binds (ps:=["lines", "deed"]) fun _ _ _ _ _ _ us hl=>match us,hl with | [_,_],_=>rfl
 have bB:=FB.binds (ps:=["row"]) fun _ _ _ _ _ _ us hl=>match us,hl with | [_],_=>rfl
 have bR:=FR.binds (ps:=["thing"]) fun _ _ _ _ _ _ us hl=>match us,hl with | [_],_=>rfl
 have bCK:=FCK.binds (ps:=["rooms"]) fun _ _ _ _ _ _ us hl=>match us,hl with | [_],_=>rfl
 have bRW:=FRW.binds (ps:=["story", "rooms"]) fun _ _ _ _ _ _ us hl=>match us,hl with | [_,_],_=>rfl
 have bRO:=FRO.binds (ps:=["story", "rooms"]) fun _ _ _ _ _ _ us hl=>match us,hl with | [_,_],_=>rfl
 have bWF:=FWF.binds (ps:=["numbers", "left"]) fun _ _ _ _ _ _ us hl=>match us,hl with | [_,_],_=>rfl
 have bRA:=FRA.binds (ps:=["left", "ahead"]) fun _ _ _ _ _ _ us hl=>match us,hl with | [_,_],_=>rfl
 have bAA:=FAA.binds (ps:=["story", "rooms"]) fun _ _ _ _ _ _ us hl=>match us,hl with | [_,_],_=>rfl
 have bNB:=FNB.binds (ps:=["story"]) fun _ _ _ _ _ _ us hl=>match us,hl with | [_],_=>rfl
 have bX1:=FX1.binds (ps:=["_law_cell"]) fun _ _ _ _ _ _ us hl=>match us,hl with | [_],_=>rfl
 have bP:=FP.binds (ps:=["_law_script", "_law_k"]) fun _ _ _ _ _ _ us hl=>match us,hl with | [_,_],_=>rfl
 have bT:=FT.binds (ps:=["_law_pack_here", "_law_size"]) fun _ _ _ _ _ _ us hl=>match us,hl with | [_,_],_=>rfl
 have bLH:=FLH.binds (ps:=["_law_pack_here"]) fun _ _ _ _ _ _ us hl=>match us,hl with | [_],_=>rfl
 have bF1:=FF1.binds (ps:=["_law_waiting"]) fun _ _ _ _ _ _ us hl=>match us,hl with | [_],_=>rfl
 have bS:=FS.binds (ps:=["_law_pack_here", "_law_hands_here", "_law_most"]) fun _ _ _ _ _ _ us hl=>match us,hl with | [_,_,_],_=>rfl
 have bHL:=FHL.binds (ps:=["_law_deed"]) fun _ _ _ _ _ _ us hl=>match us,hl with | [_],_=>rfl
 have bVL:=FVL.binds (ps:=["_law_row", "_law_hand"]) fun _ _ _ _ _ _ us hl=>match us,hl with | [_,_],_=>rfl
 have bSE:=FSE.binds (ps:=["_law_row", "_law_other"]) fun _ _ _ _ _ _ us hl=>match us,hl with | [_,_],_=>rfl
 have bCL:=FCL.binds (ps:=["_law_row"]) fun _ _ _ _ _ _ us hl=>match us,hl with | [_],_=>rfl
 have bMO:=FMO.binds (ps:=["_law_row"]) fun _ _ _ _ _ _ us hl=>match us,hl with | [_],_=>rfl
 have bSM:=FSM.binds (ps:=["_law_row", "_law_number", "_law_kind"]) fun _ _ _ _ _ _ us hl=>match us,hl with | [_,_,_],_=>rfl
 have bAL:=FAL.binds (ps:=["_law_row", "_law_one", "_law_other", "_law_rooms"]) fun _ _ _ _ _ _ us hl=>match us,hl with | [_,_,_,_],_=>rfl
 have bIR:=FIR.binds (ps:=["_law_row", "_law_told", "_law_rooms"]) fun _ _ _ _ _ _ us hl=>match us,hl with | [_,_,_],_=>rfl
 have bRI:=FRI.binds (ps:=["_law_story_here", "_law_rooms"]) fun _ _ _ _ _ _ us hl=>match us,hl with | [_,_],_=>rfl
 exact ⟨dy4 "law" "law" (zc1 sLaw) (za5 sLaw) (za0 sLaw) .none kVZ dcZ pmZ anZ cdZ ctZ,fun s v=>.of_eq rfl,fun base _ _=>zd96 FZ T.1 T.2.1 T.2.2 ⟨⟨FN,bN,dy2 X G aN⟩,⟨FD,bD,dy2 X G aD⟩,⟨FC,bC,dy2 X G aC⟩,⟨FO,bO,dy2 X G aO⟩,⟨FB,bB,dy2 X G aB⟩,⟨FCK,bCK,dy2 X G aCK⟩,⟨FR,bR,dy2 X G aR⟩,⟨FW,bW,dy2 X G aW⟩⟩ ⟨⟨FRO,bRO,dy2 X G aRO⟩,⟨FAA,bAA,dy2 X G aAA⟩,⟨FNB,bNB,dy2 X G aNB⟩,⟨FH,bH,dy2 X G aH⟩,⟨FWF,bWF,dy2 X G aWF⟩,⟨FRA,bRA,dy2 X G aRA⟩⟩ ⟨⟨FF1,bF1,dy2 X G aF1⟩,⟨FHL,bHL,dy2 X G aHL⟩,⟨FVL,bVL,dy2 X G aVL⟩,⟨FSE,bSE,dy2 X G aSE⟩,⟨FCL,bCL,dy2 X G aCL⟩,⟨FMO,bMO,dy2 X G aMO⟩,⟨FSM,bSM,dy2 X G aSM⟩,⟨FAL,bAL,dy2 X G aAL⟩,⟨FIR,bIR,dy2 X G aIR⟩,⟨FRW,bRW,dy2 X G aRW⟩⟩ ⟨⟨FX1,bX1,dy2 X G aX1⟩,⟨FP,bP,dy2 X G aP⟩,⟨FT,bT,dy2 X G aT⟩,⟨FLH,bLH,dy2 X G aLH⟩,⟨FS,bS,dy2 X G aS⟩,⟨FRI,bRI,dy2 X G aRI⟩⟩⟩
theorem walk {l : PySem.W.OpenLaw} {q : dy7} {loose : List Str} {XP : (Str->Option Value)->Heap->Prop} {YP : World->Heap->Prop} {d : DefRec} {K : Params->ay2} (hn : l.most = some 63) (hdf : d.params.defaults = [])
  (hY : ∀ (w : World) (h : Heap),YP w h->(K w.params).In h)
  (F : ∀ (w : World) (mg : Str->Option Value) (fa : Addr) (h : Heap),(K w.params).In h->h.Ns by7 mg->mg d.name = some (.ref fa) ->
   ∃ fd : ey8,(∀ (s : Shared) (u : Value),BindsTo s fd ⟨[u],[]⟩ [("_law_script",u)]) /\ ∀ base : Heap,(K w.params).In base->base.Ns by7 mg->zj8 l.prog w (K w.params) mg base CX0 7 fa fd ["_law_script"] (za37 (K w.params))) :
  PySem.W.WalkO q loose XP YP l.row.toRowW d [] (fun f vs=>PySem.call f vs) :=
 L2.za64 (n:=63) (k:=7) (x := "_law_script") (CX:=fun _=>CX0) (sp:=fun w=>za37 (K w.params)) hn (by decide) hdf ⟨rfl,by decide,by decide⟩ hY F (fun _ _ a ns hl hb _ hS=>za38 hl hb hS) fun _ _ _ _ _ z=>z
end K1
open PySem PySem.W PyProof.Rows
def PySem.W.Fast.tw9279055921719213970 : Unit := ()
def PySem.W.Fast.tw3387695734983061644 : Unit := ()
def PySem.W.Fast.tw17459916805200979991 : Unit := ()
def PySem.W.Fast.tw7676933703025281790 : Unit := ()
def PySem.W.Fast.tw16597633236088792925 : Unit := ()
def PySem.W.Fast.tw3977101534691984542 : Unit := ()
def PySem.W.Fast.tw8550682874739313928 : Unit := ()
def PySem.W.Fast.tw736879320443102382 : Unit := ()
def PySem.W.Fast.tw10062682000727499259 : Unit := ()
def PySem.W.Fast.tw9068897092627209502 : Unit := ()
def PySem.W.Fast.tw6477020138618132972 : Unit := ()
def PySem.W.Fast.tw4357570620483381927 : Unit := ()
def PySem.W.Fast.tw13680600778086570563 : Unit := ()
def PySem.W.Fast.tw13225633671227122508 : Unit := ()
def PySem.W.Fast.tw5704172867483288764 : Unit := ()
def PySem.W.Fast.tw11088826295323314827 : Unit := ()
def PySem.W.Fast.tw10864549602587697275 : Unit := ()
def PySem.W.Fast.tw11390788364094826601 : Unit := ()
def PySem.W.Fast.tw17660087825395895932 : Unit := ()
def PySem.W.Fast.tw8212101186233163265 : Unit := ()
def PySem.W.Fast.tw15671309337340216007 : Unit := ()
def PySem.W.Fast.tw301602137470296286 : Unit := ()
def PySem.W.Fast.tw18441975908250345307 : Unit := ()
def PySem.W.Fast.tw10966085684800622733 : Unit := ()
def PySem.W.Fast.tw432278463966392419 : Unit := ()
def PySem.W.Fast.tw12735874216315771638 : Unit := ()
def PySem.W.Fast.tw8741432269415132786 : Unit := ()
def PySem.W.Fast.tw9662743229868104379 : Unit := ()
def PySem.W.Fast.tw5007129096158563302 : Unit := ()
def PySem.W.Fast.tw16226209405795001881 : Unit := ()
def PySem.W.Fast.tw8630924266250885070 : Unit := ()
def PySem.W.Fast.tw2245128889734352901 : Unit := ()
def PySem.W.Fast.tw6603160782939899195 : Unit := ()
def PySem.W.Fast.tw5246064648250649286 : Unit := ()
def PySem.W.Fast.tw13864635808352803975 : Unit := ()
def PySem.W.Fast.tw17313653867350365433 : Unit := ()
def PySem.W.Fast.tw16646409696460321357 : Unit := ()
def PySem.W.Fast.tw2763678485046131582 : Unit := ()
def PySem.W.Fast.tw2480852061729963150 : Unit := ()
def PySem.W.Fast.tw15135629521231177620 : Unit := ()
def PySem.W.Fast.tw1096069335791426830 : Unit := ()
def PySem.W.Fast.tw8102678724500868534 : Unit := ()
def PySem.W.Fast.tw1522118641912201610 : Unit := ()
def PySem.W.Fast.tw5498402721649332507 : Unit := ()
def PySem.W.Fast.tw16473182956753626567 : Unit := ()
def PySem.W.Fast.tw10918549819593780512 : Unit := ()
def PySem.W.Fast.tw12844686025320082720 : Unit := ()
def PySem.W.Fast.tw3672477656393104869 : Unit := ()
def PySem.W.Fast.tw13248504148499255774 : Unit := ()
def PySem.W.Fast.tw3007123752340222376 : Unit := ()
def PySem.W.Fast.tw9791352557671410193 : Unit := ()
def PySem.W.Fast.tw14166485492116313855 : Unit := ()
def PySem.W.Fast.tw13877813594192286760 : Unit := ()
def PySem.W.Fast.tw6982764278851605788 : Unit := ()
def PySem.W.Fast.tw13989018059392266210 : Unit := ()
def PySem.W.Fast.tw11669993137774614372 : Unit := ()
def PySem.W.Fast.tw7707526357993373304 : Unit := ()
def PySem.W.Fast.tw11987320907818596770 : Unit := ()
def PySem.W.Fast.tw9446096035996309444 : Unit := ()
def PySem.W.Fast.tw9888741689295554164 : Unit := ()
def PySem.W.Fast.tw13560461745873431025 : Unit := ()
def PySem.W.Fast.tw16658760754692615940 : Unit := ()
def PySem.W.Fast.tw8650160667057040849 : Unit := ()
set_option maxRecDepth 100000 in
set_option maxHeartbeats 0 in
theorem PySem.Challenge.cw_talehands_k22_stories_within_rooms_holds : PySem.Challenge.rw_talehands_k22_stories_within_rooms.Holds := by
 w_on; o_law; k_head; (case hw=>w_witness2)
 k_fill
 refine K1.walk (l:=PySem.Challenge.rw_talehands_k22_stories_within_rooms) rfl rfl (fun w h Y=>PySem.W.kIn_of Y) ?F
 case F =>
  intro w mg fa h KX G hmg
  refine' K1.all_mk KX G hmg ?aW ?lW ?cW ?kW ?aN ?lN ?cN ?kN ?aD ?lD ?cD ?kD ?aH ?lH ?cH ?kH ?aC ?lC ?cC ?kC ?aO ?lO ?cO ?kO ?aB ?lB ?cB ?kB ?aR ?lR ?cR ?kR ?aCK ?lCK ?cCK ?kCK ?aRW ?lRW ?cRW ?kRW ?aRO ?lRO ?cRO ?kRO ?aWF ?lWF ?cWF ?kWF ?aRA ?lRA ?cRA ?kRA ?aAA ?lAA ?cAA ?kAA ?aNB ?lNB ?cNB ?kNB ?aX1 ?lX1 ?cX1 ?kX1 ?aP ?lP ?cP ?kP ?aT ?lT ?cT ?kT ?aLH ?lLH ?cLH ?kLH ?aF1 ?lF1 ?cF1 ?kF1 ?aS ?lS ?cS ?kS ?aHL ?lHL ?cHL ?kHL ?aVL ?lVL ?cVL ?kVL ?aSE ?lSE ?cSE ?kSE ?aCL ?lCL ?cCL ?kCL ?aMO ?lMO ?cMO ?kMO ?aSM ?lSM ?cSM ?kSM ?aAL ?lAL ?cAL ?kAL ?aIR ?lIR ?cIR ?kIR ?aRI ?lRI ?cRI ?kRI ?aZ ?lZ ?cZ ?kZ ?z0 ?z1 ?z2 ?z3 ?z4 ?z5 ?z6 ?z7 ?z8 ?z9 ?z10 ?z11 ?z12 ?z13 ?z14 ?z15 ?z16 ?aLet ?aLon ?aKin ?lKin ?aRoo ?aNR ?xNR
  (case aW=>k_is)
  (case lW=>k_is)
  (case cW=>k_is)
  (case kW=>k_is)
  (case aN=>k_is)
  (case lN=>k_is)
  (case cN=>k_is)
  (case kN=>k_is)
  (case aD=>k_is)
  (case lD=>k_is)
  (case cD=>k_is)
  (case kD=>k_is)
  (case aH=>k_is)
  (case lH=>k_is)
  (case cH=>k_is)
  (case kH=>k_is)
  (case aC=>k_is)
  (case lC=>k_is)
  (case cC=>k_is)
  (case kC=>k_is)
  (case aO=>k_is)
  (case lO=>k_is)
  (case cO=>k_is)
  (case kO=>k_is)
  (case aB=>k_is)
  (case lB=>k_is)
  (case cB=>k_is)
  (case kB=>k_is)
  (case aR=>k_is)
  (case lR=>k_is)
  (case cR=>k_is)
  (case kR=>k_is)
  (case aCK=>k_is)
  (case lCK=>k_is)
  (case cCK=>k_is)
  (case kCK=>k_is)
  (case aRW=>k_is)
  (case lRW=>k_is)
  (case cRW=>k_is)
  (case kRW=>k_is)
  (case aRO=>k_is)
  (case lRO=>k_is)
  (case cRO=>k_is)
  (case kRO=>k_is)
  (case aWF=>k_is)
  (case lWF=>k_is)
  (case cWF=>k_is)
  (case kWF=>k_is)
  (case aRA=>k_is)
  (case lRA=>k_is)
  (case cRA=>k_is)
  (case kRA=>k_is)
  (case aAA=>k_is)
  (case lAA=>k_is)
  (case cAA=>k_is)
  (case kAA=>k_is)
  (case aNB=>k_is)
  (case lNB=>k_is)
  (case cNB=>k_is)
  (case kNB=>k_is)
  (case aX1=>k_is)
  (case lX1=>k_is)
  (case cX1=>k_is)
  (case kX1=>k_is)
  (case aP=>k_is)
  (case lP=>k_is)
  (case cP=>k_is)
  (case kP=>k_is)
  (case aT=>k_is)
  (case lT=>k_is)
  (case cT=>k_is)
  (case kT=>k_is)
  (case aLH=>k_is)
  (case lLH=>k_is)
  (case cLH=>k_is)
  (case kLH=>k_is)
  (case aF1=>k_is)
  (case lF1=>k_is)
  (case cF1=>k_is)
  (case kF1=>k_is)
  (case aS=>k_is)
  (case lS=>k_is)
  (case cS=>k_is)
  (case kS=>k_is)
  (case aHL=>k_is)
  (case lHL=>k_is)
  (case cHL=>k_is)
  (case kHL=>k_is)
  (case aVL=>k_is)
  (case lVL=>k_is)
  (case cVL=>k_is)
  (case kVL=>k_is)
  (case aSE=>k_is)
  (case lSE=>k_is)
  (case cSE=>k_is)
  (case kSE=>k_is)
  (case aCL=>k_is)
  (case lCL=>k_is)
  (case cCL=>k_is)
  (case kCL=>k_is)
  (case aMO=>k_is)
  (case lMO=>k_is)
  (case cMO=>k_is)
  (case kMO=>k_is)
  (case aSM=>k_is)
  (case lSM=>k_is)
  (case cSM=>k_is)
  (case kSM=>k_is)
  (case aAL=>k_is)
  (case lAL=>k_is)
  (case cAL=>k_is)
  (case kAL=>k_is)
  (case aIR=>k_is)
  (case lIR=>k_is)
  (case cIR=>k_is)
  (case kIR=>k_is)
  (case aRI=>k_is)
  (case lRI=>k_is)
  (case cRI=>k_is)
  (case kRI=>k_is)
  (case aZ=>k_is)
  (case lZ=>k_is)
  (case cZ=>k_is)
  (case kZ=>k_is)
  (case z0=>k_is)
  (case z1=>k_is)
  (case z2=>k_is)
  (case z3=>k_is)
  (case z4=>k_is)
  (case z5=>k_is)
  (case z6=>k_is)
  (case z7=>k_is)
  (case z8=>k_is)
  (case z9=>k_is)
  (case z10=>k_is)
  (case z11=>k_is)
  (case z12=>k_is)
  (case z13=>k_is)
  (case z14=>k_is)
  (case z15=>k_is)
  (case z16=>k_is)
  (case aLet=>k_is)
  (case aLon=>k_is)
  (case aKin=>k_is)
  (case lKin=>k_is)
  (case aRoo=>k_is)
  (case aNR=>k_is)
  (case xNR=>k_exc)
