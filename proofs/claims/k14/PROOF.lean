import PyProof.Rows.All
import Wide.All
import OpenK.AllK
import Wide.FinOn
import Lean
import PyProof.EqAt
import PyProof.EqKinds
import PyProof.TupleCall
import PySem.Challenge.RW_talehands_k14_least_rows
open PySem renaming wpAny_bind → ay0, wpAny_pure → ay2, sizeLine → by2, mainGlobals → cy2, Program → cy8, wpAny_call_entry → dy3, wpAny_newObj_type → dy8, foldedSetIterable → ey1, wpAny_holding → ey5, wpAny_callSpecial?_slot → fy0, bootBuiltins → fy2, starEach → fy6, FuncData → fy7, wpAny_mono → fy9, codeAny_builtin → hy1, strKind → hy3, compareOp → hy5, Spec → hy7, plainId_quiet → iy5, wpAny_setField_rec → jy0, mem_of_lookup → jy4, wpAny_field → jy5, wpAny_setField → ky0, wpAny_dictEntries → ky4, wpAny_isInstance → ky8, wpAny_truthy_bool → ly0, codeAny → ly4, wpAny_standAt → ly5, sysModules → ly9, assignEach → my1, DictEntry → my5, sizeLine_eq → my8, wpAny_rule → my9, wpAny_notOrdered_dict → ny7, builtinLookup_eq_fast → ny8, wpAny_dictEpoch → oy0, wpAny_typeNameOfWhole_itemiter → oy1, binaryOp → oy3, Builtin → oy6, wpAny_typeNameOfWhole_keyiter → oy7, wpAny_typeNameOfWhole_valiter → oy8, attributeBase → oy9, wpAny_attempt → py1, wpAny_typeOf → py2, letOwnedTupleGo → py6, wpAny_ite_split → py9, wpAny_updateSeq → qy0, wpAny_eqBool_str → qy2, wpAny_seqItems → ry5, wpAny_typeNameOf_itemiter → ry6, wpAny_passesOwn → ry7, scanBound → sy3, wpAny_pyIter_slot → sy4, wpAny_typeNameOf_keyiter → sy7, wpAny_typeNameOf_valiter → sy8, wpAny_fieldsOf → uy0, setField → uy3, codeAny_mono → uy6, wpAny_loadPart' → uy7, typeLookup_type → vy1, wpAny_pyIter_list → vy5, NameKind → xy2
open PySem.Heap renaming get?_push_of_some → ay1, get?_push_size → ay7, lt_size → by1, get?_update_other → dy0, SameBut → fy5, get?_update_self → fy8, size_push → ny3
open List renaming getElem?_eq_some_iff → ay3, length_map → ay4, getElem?_append_left → ay8, mem_cons_self → ay9, mem_cons_of_mem → by0, getElem?_map → by3, getElem?_eq_getElem → by5, mem_cons → by7, size_toArray → cy0, length_append → cy1, getElem?_set_ne → cy3, mem_map → cy4, mem_of_getElem? → cy5, getElem?_append_right → cy9, mem_append_right → dy1, length_take → dy2, mem_append → ey0, map_cons → ey6, mem_singleton → ey7, take_add_one → ey8, map_map → ey9, map_append → fy3, mem_iff_getElem? → gy1, getElem?_take_of_lt → gy2, getElem?_set_self → gy3, mem_filter → gy5, take_length → gy7, length_set → gy9, append_assoc → iy0, find?_cons → iy7, getElem_inj → jy9, not_mem_nil → ky1, range → ky2, nodup_cons → ly6, getD → ly8, mem_append_left → my0, mem_of_mem_take → my2, take_of_length_le → my7, map_congr_left → ny1, append_nil → ny5, length_filter_le → ny6, getElem?_eq_none → ny9, length_cons → oy4, lookup_cons → oy5, ext_getElem? → py5, getElem_mem → qy4, length_singleton → qy5, filter_append → qy6, take_sublist → ry9, any_cons → ty0, length_eq_zero_iff → ty2, zipIdx_map_fst → ty5, prefix_refl → ty7, mem_flatMap → ty8, map_take → vy7, mem_iff_getElem → wy0, set_append_left → wy1, take_prefix → wy5, any_eq_true → wy6, foldl_cons → xy4, length → xy6
open PySem.W renaming Frag → ay5, nsIn → cy6, keepIn → dy6, codeIn → dy7, fnOf → ey2, mg_none_of → ey3, mg_of → ey4, kia_one → jy3
open Nat renaming le_refl → ay6, ne_of_lt → by6, lt_of_lt_of_le → by8, zero_le → dy5, le_trans → dy9, ne_of_gt → ky5, le_of_lt → ky9, lt_of_le_of_lt → ly7, lt_succ_self → my3, lt_succ_of_lt → ny0, lt_irrefl → ny2, min_eq_left → py7, le_succ → ry1, add_sub_cancel_left → ty4, le_succ_of_le → vy9
open Bool renaming false_ne_true → by9, false_eq_true → iy3, false_and → qy9, eq_iff_iff → ry8, and_eq_true → ty6
open PySem.Value renaming ref → cy7, none → dy4, type → qy3, isStrOf_shape → wy7
open PySem.Around renaming under_plainId → fy1
open Ne renaming symm → fy4
open PySem.F renaming plainAttrs_list → gy0, slot_list_append → iy1, type_list_append → iy2, plainAttrs_dict → iy6, slot_dict_itemiterator_next → iy8, plain_extend_loop → iy9, slot_dict_valueiterator_next → ky6, plain_min_loop → ky7, slot_dict_keyiterator_next → ly3, slot_tuple_iterator_next → my4, slot_enumerate_next → py8, slot_dict_get → qy7, slot_list_getattribute → sy6, slot_dict_values → sy9, plain_list_iadd → ty3, plain_any_loop → uy2, called_set → vy0, type_dict_get → vy3, slot_dict_getitem → wy3
open Option renaming map_eq_some_iff → gy4, map_some → xy3
open PySem.Builtin.Dict_items renaming ownsTuple → gy6, ownedTupleFields → wy9, ownedTupleIsFree → xy0
open PySem.Obj renaming data_mapFields → gy8, mapSeq → hy9, isFreed_of_fields → ly2, cls_mapFields → sy2, mapFields → vy8
open PySem.Builtin.Int renaming intBits → hy0
open PySem.Heap.SameBut renaming update → hy4
open PyProof.Rows renaming slot_tuple_getitem → hy8, subscriptTail_builtinR → qy1, callWith_type1 → uy5
open Array renaming length_toList → iy4, getElem?_toList → jy6, getElem?_eq_none → my6, getElem?_eq_getElem → ry3
open PySem.PyData renaming str → jy1, eqvAll → ny4, canLayAll0 → py3, eqv → py4, canLay0 → ry2, depthAll → sy1, strOk → uy9
open Option.some renaming inj → jy2
open PySem.Builtin.List renaming listExtendWith → jy7, listSameRef → sy5, listLengthHint → vy2
open PySem.Builtin.Dict renaming showsAll → jy8
open Int renaming toNat_natCast → ky3
open PySem.Str renaming ofString → ly1
open PySem.PassesOwn renaming never → oy2
open PySem.NameKind renaming free → py0
open PySem.Shared renaming TypeIs → qy8
open PySem.Builtin.Slice renaming slicePlaces → ry0, sliceAdjust → wy2
open PySem.Builtin.SmallTypes renaming nextOf → ry4, ownedTupleHandOut → wy4, ownedTupleIsFree → wy8
open PySem.Builtin.Tuple renaming tupleExact → sy0
open PySem.SetTable renaming grown → ty9
open PySem.Calls renaming callWith_builtin → uy1
open Sum.inr renaming inj → uy4
open ForInStep renaming yield → uy8
open False renaming elim → vy4
open True renaming intro → vy6
open PySem.Builtin.Str renaming occurrences → xy1
open Sum renaming inr → xy5
open List.Perm renaming refl → xy7
noncomputable section
set_option Elab.async false
set_option linter.all false
set_option maxRecDepth 100000
set_option Elab.async false
set_option linter.all false
set_option maxRecDepth 100000
namespace L2
open PySem PySem.Spec PyProof.Rows
abbrev Key := Sum Int Str
def zJ1 : Key -> Value -> Bool
 | .inl k, v => Value.isInt k v
 | .inr x, v => Value.isStrOf x v
def keyH (w : World) : Key -> Int
 | .inl k => hashInt k
 | .inr x => hashStr w x
theorem zd0 : ∀ {k : Key} {v : Value}, zJ1 k v = true -> (∃ i t, k = Sum.inl i /\ v = Value.int i t) \/ (∃ x t, k = xy5 x /\ v = Value.str x t)
 | .inl i, v, h => by
  obtain ⟨t, e⟩ := Value.isInt_shape (k := i) (v := v) h;exact .inl ⟨i, t, rfl, e⟩
 | .inr x, v, h => by
  obtain ⟨t, e⟩ := wy7 (x := x) (v := v) h;exact .inr ⟨x, t, rfl, e⟩
theorem zX5 (i : Int) (t : Tok) : zJ1 (.inl i) (.int i t) = true := by simp [zJ1, Value.isInt]
theorem zX6 (x : Str) (t : Tok) : zJ1 (.inr x) (.str x t) = true := by simp [zJ1, Value.isStrOf]
theorem zd13 (a b : Int) : decide ((Sum.inl a : Key) = Sum.inl b) = (a == b) := by
 by_cases e : a = b
 ·subst e; simp
 ·have h : ¬ (Sum.inl a : Key) = Sum.inl b := fun q => e (Sum.inl.inj q);rw [decide_eq_false h];exact (beq_eq_false_iff_ne.mpr e).symm
theorem zd14 (a b : Str) : decide ((xy5 a : Key) = xy5 b) = decide (a = b) := by
 by_cases e : a = b
 ·subst e; simp
 ·have h : ¬ (xy5 a : Key) = xy5 b := fun q => e (uy4 q);rw [decide_eq_false h, decide_eq_false e]
theorem zd15 (a : Int) (b : Str) : decide ((Sum.inl a : Key) = xy5 b) = false := decide_eq_false (fun q => nomatch q)
theorem zd16 (a : Str) (b : Int) : decide ((xy5 a : Key) = Sum.inl b) = false := decide_eq_false (fun q => nomatch q)
def zb5 (prog : cy8) (w : World) : PySem.KeyKind prog w Key where
 is := zJ1
 hash := keyH w
 inj := fun v a b ha hb => by
  rcases zd0 ha with ⟨i, t, rfl, rfl⟩ | ⟨x, t, rfl, rfl⟩
  ·rcases zd0 hb with ⟨j, u, rfl, e⟩ | ⟨y, u, rfl, e⟩
   ·injection e with e1 _; rw [e1]
   ·exact nomatch e
  ·rcases zd0 hb with ⟨j, u, rfl, e⟩ | ⟨y, u, rfl, e⟩
   ·exact nomatch e
   ·injection e with e1 _; rw [e1]
 byValue := fun k v h => by
  rcases zd0 h with ⟨i, t, rfl, rfl⟩ | ⟨x, t, rfl, rfl⟩ <;> rfl
 pyHash := fun hv h => by
  rcases zd0 hv with ⟨i, t, rfl, rfl⟩ | ⟨x, t, rfl, rfl⟩
  ·exact wpAny_pyHash_int h
  ·exact wpAny_pyHash_str h
 eqBool := fun hu hv h => by
  rcases zd0 hu with ⟨i, t, rfl, rfl⟩ | ⟨x, t, rfl, rfl⟩
  ·rcases zd0 hv with ⟨j, u, rfl, rfl⟩ | ⟨y, u, rfl, rfl⟩
   ·rw [zd13] at h; exact wpAny_eqBool_int h
   ·rw [zd15] at h; exact SeqAt.EqAt.int_str i t y u _ _ _ _ h
  ·rcases zd0 hv with ⟨j, u, rfl, rfl⟩ | ⟨y, u, rfl, rfl⟩
   ·rw [zd16] at h; exact SeqAt.EqAt.str_int x t j u _ _ _ _ h
   ·rw [zd14] at h; exact qy2 h
 «strs» := fun k x t v h => by
  rcases zd0 h with ⟨i, u, rfl, e⟩ | ⟨y, u, rfl, e⟩
  ·exact nomatch e
  ·injection e with e1 _
   subst e1;cases v <;> rfl
theorem zJ2 (prog : cy8) (w : World) (i : Int) (t : Tok) : (zb5 prog w).is (.inl i) (.int i t) = true := zX5 i t
theorem zt7 (prog : cy8) (w : World) (x : Str) (t : Tok) : (zb5 prog w).is (.inr x) (.str x t) = true := zX6 x t
inductive V where
 | non | bl (b : Bool) | int (i : Int) | str (x : Str) | byt (b : Array UInt8) | flt (b : UInt64) | ref (a : Addr) | ty (n : String)
 deriving DecidableEq
def RelV : V -> Value -> Prop
 | .non, u => u = dy4
 | .bl b, u => u = Value.bool b
 | .int i, u => ∃ t, u = Value.int i t
 | .str x, u => ∃ t, u = Value.str x t
 | .byt b, u => ∃ t, u = Value.bytes b t
 | .flt b, u => ∃ t, u = Value.float b t
 | .ref a, u => u = cy7 a
 | .ty n, u => u = qy3 n
abbrev Vals : List V -> List Value -> Prop := Paired RelV
theorem Vals.length {xs : List V} {us : List Value} (r : Vals xs us) : xs.length = us.length := Paired.length r
theorem Vals.get : ∀ {xs : List V} {us : List Value} {i : Nat} {x : V}, Vals xs us -> xs[i]? = some x -> ∃ u, us[i]? = some u /\ RelV x u
 | _, _, _, _, .nil, e => by simp at e
 | _, _, 0, _, .cons r _, e => by simp at e; subst e; exact ⟨_, rfl, r⟩
 | _, _, i + 1, x, .cons _ t, e => by
  obtain ⟨u, h1, h2⟩ := Vals.get (i := i) (x := x) t (by simpa using e);exact ⟨u, by simpa using h1, h2⟩
theorem Vals.set {x : V} {u : Value} (r : RelV x u) : ∀ {xs : List V} {us : List Value} (i : Nat), Vals xs us -> Vals (xs.set i x) (us.set i u)
 | _, _, _, .nil => .nil
 | _, _, 0, .cons _ t => .cons r t
 | _, _, i + 1, .cons q t => .cons q (Vals.set r i t)
theorem Vals.append : ∀ {xs ys : List V} {us ws : List Value}, Vals xs us -> Vals ys ws -> Vals (xs ++ ys) (us ++ ws)
 | _, _, _, _, .nil, s => s
 | _, _, _, _, .cons r t, s => .cons r (Vals.append t s)
theorem Vals.take : ∀ {xs : List V} {us : List Value} (n : Nat), Vals xs us -> Vals (xs.take n) (us.take n)
 | _, _, 0, _ => .nil
 | _, _, _ + 1, .nil => .nil
 | _, _, n + 1, .cons r t => .cons r (Vals.take n t)
theorem Vals.drop : ∀ {xs : List V} {us : List Value} (n : Nat), Vals xs us -> Vals (xs.drop n) (us.drop n)
 | _, _, 0, r => r
 | _, _, _ + 1, .nil => .nil
 | _, _, n + 1, .cons _ t => Vals.drop n t
def zz0 : Option V -> Option Value -> Prop
 | some v, some u => RelV v u
 | none, none => True
 | _, _ => False
def KV {κ : Type} : List (κ × V) -> List (κ × Value) -> Prop := Paired fun (p : κ × V) (q : κ × Value) => p.1 = q.1 /\ RelV p.2 q.2
def kV : Key -> V
 | .inl i => .int i
 | .inr x => .str x
inductive HO where
 | lst (xs : List V)
 | tup (xs : List V)
 | dK (kvs : List (Key × V)) | dT (kvs : List (List Key × V))
 | set (S : Int -> Bool) (n : Nat)
 | ins (C dx : Addr) (fs : List (Str × V))
 | own (x : Addr)
 | xd (fs : List (Str × V))
 | met (f x : Addr)
 | rng (lo hi : Int)
 | frz (o : Obj) (u : HO)
 | tbl (ps : Array Value)
 | ext (φ : Heap -> Prop)
abbrev Hp := Addr -> Option HO
def upd (H : Hp) (a : Addr) (o : HO) : Hp := fun b => if b = a then some o else H b
theorem zb3 {H : Hp} {a : Addr} {o : HO} : upd H a o a = some o := by unfold upd; rw [if_pos rfl]
theorem za5 {H : Hp} {a b : Addr} {o : HO} (h : b ≠ a) : upd H a o b = H b := by unfold upd; rw [if_neg h]
theorem zJ3 {H : Hp} {a b : Addr} {o u : HO} (h : H a = some o) (h' : H b = some u) (d : o ≠ u) : a ≠ b := by
 intro e; subst e; rw [h] at h'; exact d (jy2 h')
theorem za3 {H : Hp} {a b : Addr} {o : HO} (h : H a = some o) (h' : H b = none) : a ≠ b := by
 intro e; subst e; rw [h] at h'; cases h'
section
variable (P : cy8) (w : World)
def zb6 (H : Hp) (h : Heap) (a : Addr) : HO -> Prop
 | .lst xs => xs.length <= by2 /\ ∃ (its : List Value) (n : Nat), Vals xs its /\ h.get? a = some { cls := .type "list", data := .seq its.toArray n }
 | .tup xs => xs.length <= by2 /\ ∃ its : List Value, Vals xs its /\ IsTup h a its.toArray
 | .dK kvs => kvs.length <= by2 /\ (a == ly9) = false /\ ∃ vs, KV kvs vs /\ h.DictOf (zb5 P w) a vs
 | .dT kvs => kvs.length <= by2 /\ (a == ly9) = false /\ ∃ xs : List (List Key × Addr × Value),
   Paired (fun (p : List Key × V) (q : List Key × Addr × Value) => p.1 = q.1 /\ H q.2.1 = some (.tup (p.1.map kV)) /\ RelV p.2 q.2.2) kvs xs /\
   ∃ o es ep, h.get? a = some o /\ o.ExactDict /\ o.data = .dict es ep /\ es.toList = xs.map (entryOfKey (tupleKind (zb5 P w))) /\ (xs.map (·.1)).Nodup
 | .set S n => h.SetOf (intKind P w) a S n
 | .ins C dx fs => H dx = some (.own a) /\ fs.length <= 1000 /\ dx ≠ a /\ h.get? a = some (PySem.W.instObj C dx) /\
   ∃ mA, h.Ns1 dx mA /\ (∀ f, zz0 (fs.lookup f) (mA f)) /\ PySem.Within mA (fs.map (·.1))
 | .own _ => ∃ o, h.get? a = some o
 | .xd fs => ∃ mA, h.Ns1 a mA /\ ∀ f, zz0 (fs.lookup f) (mA f)
 | .rng lo hi => ∃ t u v, h.get? a = some { cls := .type "range", data := .fields #[.int lo t, .int hi u, .int 1 v] }
 | .frz o u => h.get? a = some o /\ zb6 H h a u
 | .tbl ps => h.get? a = some { cls := .none, data := .fields ps }
 | .met f x => h.get? a = some (PySem.W.methodObj (.ref f) (.ref x))
 | .ext φ => φ h /\ (∃ o, h.get? a = some o) /\ ∀ h1 h2 : Heap, φ h1 -> (∀ o, h1.get? a = some o -> h2.get? a = some o) -> φ h2
def HOk (H : Hp) (h : Heap) : Prop := ∀ a o, H a = some o -> zb6 P w H h a o
end
section
variable {P : cy8} {w : World} {H H' : Hp} {h h' : Heap} {a : Addr} {o : HO}
theorem zb6.lt (x : zb6 P w H h a o) : a < h.objs.size := by
 cases o with
 | lst xs => obtain ⟨_, _, _, _, e⟩ := x; exact by1 e
 | tup xs => obtain ⟨_, _, _, p⟩ := x; exact p.lt
 | dK kvs => obtain ⟨_, _, _, _, o, _, _, e, _⟩ := x; exact by1 e
 | dT kvs => obtain ⟨_, _, _, _, o, _, _, e, _⟩ := x; exact by1 e
 | set S n => obtain ⟨o, _, _, _, e, _⟩ := x; exact by1 e
 | ins C dx fs => obtain ⟨_, _, _, e, _⟩ := x; exact by1 e
 | own y => obtain ⟨_, e⟩ := x; exact by1 e
 | xd fs => obtain ⟨_, ⟨_, _, _, e, _⟩, _⟩ := x; exact by1 e
 | rng lo hi => obtain ⟨_, _, _, e⟩ := x; exact by1 e
 | frz ob u => obtain ⟨e, _⟩ := x; exact by1 e
 | tbl ps => exact by1 (show h.get? a = some _ from x)
 | met f y => exact by1 (show h.get? a = some _ from x)
 | ext φ => obtain ⟨_, ⟨_, e⟩, _⟩ := x; exact by1 e
theorem Paired.mapP {α β : Type} {F G : α -> β -> Prop} : ∀ {l₁ : List α} {l₂ : List β}, Paired F l₁ l₂ -> (∀ a b, F a b -> G a b) -> Paired G l₁ l₂
 | _, _, .nil, _ => .nil
 | _, _, .cons r t, f => .cons (f _ _ r) (Paired.mapP t f)
theorem zb6.zR6 (x : zb6 P w H h a o) (k : ∀ b u, (b = a \/ H b = some (.own a)) -> h.get? b = some u -> h'.get? b = some u)
  (ho : ∀ b, H b = some (.own a) -> H' b = some (.own a)) (ht : ∀ b xs, H b = some (.tup xs) -> H' b = some (.tup xs)) : zb6 P w H' h' a o := by
 induction o with
 | lst xs => obtain ⟨z, its, n, r, e⟩ := x; exact ⟨z, its, n, r, k _ _ (.inl rfl) e⟩
 | tup xs => obtain ⟨z, its, r, ob, e, c⟩ := x; exact ⟨z, its, r, ob, k _ _ (.inl rfl) e, c⟩
 | dK kvs => obtain ⟨z, y, vs, r, ob, es, ep, e, c⟩ := x; exact ⟨z, y, vs, r, ob, es, ep, k _ _ (.inl rfl) e, c⟩
 | dT kvs =>
  obtain ⟨z, y, xs, r, ob, es, ep, e, c⟩ := x;exact ⟨z, y, xs, Paired.mapP r fun p q z => ⟨z.1, ht _ _ z.2.1, z.2.2⟩, ob, es, ep, k _ _ (.inl rfl) e, c⟩
 | set S n => obtain ⟨ob, es, ep, t, e, c⟩ := x; exact ⟨ob, es, ep, t, k _ _ (.inl rfl) e, c⟩
 | ins C dx fs =>
  obtain ⟨d, z, ne, e, mA, ⟨od, es, ep, e2, c⟩, r⟩ := x;exact ⟨ho _ d, z, ne, k _ _ (.inl rfl) e, mA, ⟨od, es, ep, k _ _ (.inr d) e2, c⟩, r⟩
 | own y => obtain ⟨ob, e⟩ := x; exact ⟨ob, k _ _ (.inl rfl) e⟩
 | xd fs => obtain ⟨mA, ⟨od, es, ep, e, c⟩, r⟩ := x; exact ⟨mA, ⟨od, es, ep, k _ _ (.inl rfl) e, c⟩, r⟩
 | rng lo hi => obtain ⟨t, u, v, e⟩ := x; exact ⟨t, u, v, k _ _ (.inl rfl) e⟩
 | frz ob u ih => obtain ⟨e, q⟩ := x; exact ⟨k _ _ (.inl rfl) e, ih q⟩
 | tbl ps =>
  have e : h.get? a = some { cls := .none, data := .fields ps } := x;show h'.get? a = some { cls := .none, data := .fields ps };exact k a _ (.inl rfl) e
 | met f y =>
  have e : h.get? a = some (PySem.W.methodObj (.ref f) (.ref y)) := x;show h'.get? a = some (PySem.W.methodObj (.ref f) (.ref y));exact k a _ (.inl rfl) e
 | ext φ => obtain ⟨p, ⟨o, e⟩, st⟩ := x; exact ⟨st _ _ p fun o q => k _ _ (.inl rfl) q, ⟨o, k _ _ (.inl rfl) e⟩, st⟩
theorem HOk.lt (x : HOk P w H h) (e : H a = some o) : a < h.objs.size := (x a o e).lt
theorem HOk.fresh (x : HOk P w H h) (e : h.objs.size <= a) : H a = none := by
 cases q : H a with
 | none => rfl
 | some u => exact absurd (by8 (x.lt q) e) (ny2 _)
theorem HOk.kept (x : HOk P w H h) (k : ∀ b u, h.get? b = some u -> h'.get? b = some u) : HOk P w H h' := fun a o e =>
 (x a o e).zR6 (fun b u _ q => k b u q) (fun _ q => q) fun _ _ q => q
theorem HOk.laid (x : HOk P w H h) (k : ∀ b u, h.get? b = some u -> h'.get? b = some u) (hp : h.objs.size <= a) (new : zb6 P w (upd H a o) h' a o) : HOk P w (upd H a o) h' := fun b u e => by
 have hn := x.fresh hp
 by_cases hb : b = a
 ·subst hb; rw [zb3] at e; cases e; exact new
 ·rw [za5 hb] at e;exact (x b u e).zR6 (fun c v _ q => k c v q) (fun c q => by rw [za5 (za3 q hn)]; exact q) fun c xs q => by rw [za5 (za3 q hn)]; exact q
end
def Rd (H : Hp) (a : Addr) (u : HO) : Prop := H a = some u \/ ∃ o, H a = some (.frz o u)
theorem Rd.ok {P : cy8} {w : World} {H : Hp} {h : Heap} {a : Addr} {u : HO} (r : Rd H a u) (x : HOk P w H h) : zb6 P w H h a u := by
 rcases r with r | ⟨o, r⟩
 ·exact x a u r
 ·obtain ⟨_, q⟩ := x a _ r;exact q
def Mut : Option HO -> Prop
 | some (.lst _) => True
 | some (.dK _) => True
 | some (.dT _) => True
 | some (.set _ _) => True
 | some (.ins _ _ _) => True
 | some (.ext _) => True
 | _ => False
section
variable {P : cy8} {w : World} {H : Hp} {h h' : Heap} {x e : Addr} {o' : HO}
theorem HOk.write (ok : HOk P w H h) (mu : Mut (H x)) (he : e = x \/ H e = some (.own x)) (k : ∀ b u, b ≠ e -> h.get? b = some u -> h'.get? b = some u) (heo : ∃ u, h'.get? e = some u)
  (new : zb6 P w (upd H x o') h' x o') : HOk P w (upd H x o') h' := fun b u q => by
 have nown : ∀ c y, H c = some (.own y) -> c ≠ x := fun c y r z => by subst z; rw [r] at mu; exact mu
 have ntup : ∀ c xs, H c = some (.tup xs) -> c ≠ x := fun c xs r z => by subst z; rw [r] at mu; exact mu
 by_cases hb : b = x
 ·subst hb; rw [zb3] at q; cases q; exact new
 ·rw [za5 hb] at q
  by_cases hbe : b = e
  ·have q' : H b = some (.own x) := by
    rcases he with z | z
    ·exact absurd (hbe.trans z) hb
    ·rw [hbe]; exact z
   rw [q] at q'; cases q';obtain ⟨v, hv⟩ := heo;exact ⟨v, by rw [hbe]; exact hv⟩
  ·refine (ok b u q).zR6 (fun c v hc r => k c v ?_ r) (fun c r => by rw [za5 (nown c b r)]; exact r) fun c xs r => by rw [za5 (ntup c xs r)]; exact r
   rcases hc with rfl | hc
   ·exact hbe
   ·rintro rfl;rcases he with z | z
    ·exact nown c b hc z
    ·rw [hc] at z; cases z; exact hb rfl
end
structure Un (fs ex : List Addr) (H H' : Hp) (h h' : Heap) : Prop where
 keep : ∀ b o, h.get? b = some o -> H b = none -> b ∉ fs -> b ∉ ex -> h'.get? b = some o
 slot : ∀ b o, h.get? b = some o -> H b = none -> b ∈ fs -> b ∉ ex -> ∃ sl, h'.get? b = some { o with slots := sl }
 free : ∀ b o, h.get? b = some o -> H b = none -> b ∉ ex -> H' b = none
 there : ∀ b o, h.get? b = some o -> b ∉ ex -> ∃ o', h'.get? b = some o'
 tups : ∀ b xs, H b = some (.tup xs) -> H' b = some (.tup xs)
 frzs : ∀ b o u, H b = some (.frz o u) -> H' b = some (.frz o u)
 tbls : ∀ b ps, H b = some (.tbl ps) -> ∃ more, H' b = some (.tbl (ps ++ more))
section
variable {fs fs' ex ex' : List Addr} {H H1 H2 : Hp} {h h1 h2 h' : Heap} {a x e : Addr} {o : HO}
theorem Un.any (u : Un fs ex H H1 h h1) {b : Addr} {ob : Obj} (q : h.get? b = some ob) (n : H b = none) (hx : b ∉ ex) : ∃ sl, h1.get? b = some { ob with slots := sl } := by
 by_cases hb : b ∈ fs
 ·exact u.slot b ob q n hb hx
 ·exact ⟨ob.slots, u.keep b ob q n hb hx⟩
theorem Un.kept (k : ∀ b u, h.get? b = some u -> h'.get? b = some u) : Un fs ex H H h h' :=
 ⟨fun b ob q _ _ _ => k b ob q, fun b ob q _ _ _ => ⟨ob.slots, k b ob q⟩, fun _ _ _ n _ => n, fun b ob q _ => ⟨ob, k b ob q⟩, fun _ _ q => q, fun _ _ _ q => q, fun _ ps q => ⟨#[], by rw [q]; simp⟩⟩
theorem Un.refl : Un fs ex H H h h := Un.kept fun _ _ q => q
theorem Un.laid (k : ∀ b u, h.get? b = some u -> h'.get? b = some u) (hp : h.objs.size <= a) (hn : H a = none) : Un fs ex H (upd H a o) h h' where
 keep := fun b u q _ _ _ => k b u q
 slot := fun b u q _ _ _ => ⟨u.slots, k b u q⟩
 free := fun b u q n _ => by rw [za5 (by6 (by8 (by1 q) hp))]; exact n
 there := fun b u q _ => ⟨u, k b u q⟩
 tups := fun b xs q => by rw [za5 (za3 q hn)]; exact q
 frzs := fun b u xs q => by rw [za5 (za3 q hn)]; exact q
 tbls := fun b ps q => ⟨#[], by rw [za5 (za3 q hn), q]; simp⟩
theorem Un.write (mu : Mut (H x)) (he : e = x \/ H e = some (.own x)) (k : ∀ b u, b ≠ e -> h.get? b = some u -> h'.get? b = some u) (heo : ∃ u, h'.get? e = some u) : Un fs ex H (upd H x o) h h' := by
 have hx : ∀ b, H b = none -> b ≠ x := fun b n z => by subst z; rw [n] at mu; exact mu
 have hb : ∀ b, H b = none -> b ≠ e := fun b n z => by
  subst z;rcases he with r | r
  ·exact hx b n r
  ·rw [n] at r; cases r
 have hm : ∀ b u, H b = some u -> ¬ Mut (some u) -> b ≠ x := fun b u q nm z => by subst z; rw [q] at mu; exact nm mu
 refine ⟨fun b u q n _ _ => k b u (hb b n) q, fun b u q n _ _ => ⟨u.slots, k b u (hb b n) q⟩, fun b u q n _ => by rw [za5 (hx b n)]; exact n, fun b u q _ => ?_,
  fun b xs q => by rw [za5 (hm b _ q fun z => z)]; exact q, fun b u xs q => by rw [za5 (hm b _ q fun z => z)]; exact q, fun b ps q => ⟨#[], by rw [za5 (hm b _ q fun z => z), q]; simp⟩⟩
 by_cases hbe : b = e
 ·subst hbe; exact heo
 ·exact ⟨u, k b u hbe q⟩
end
def trk (h : Heap) (H : Hp) : List Addr := (ky2 h.objs.size).filter fun a => (H a).isSome
def hidT (h : Heap) (H : Hp) : Heap := PySem.W.hideAll h (trk h H)
theorem zX7 (h : Heap) (H : Hp) : (hidT h H).objs.size = h.objs.size := PySem.W.hideAll_size _ _
theorem zb13 {h : Heap} {H : Hp} {b : Addr} {o : Obj} (e : h.get? b = some o) (n : H b = none) : (hidT h H).get? b = some o :=
 PySem.W.hideAll_get _ e fun hm => by
  have q : (H b).isSome = true := (gy5.mp hm).2;rw [n] at q; simp at q
theorem zc28 {h : Heap} {H : Hp} {b : Addr} {o : Obj} (e : (hidT h H).get? b = some o) : h.get? b = some o /\ H b = none := by
 have e' : h.get? b = some o := PySem.W.of_hideAll (trk h H) e;refine ⟨e', ?_⟩;cases q : H b with
 | none => rfl
 | some x =>
  have hm : b ∈ trk h H := gy5.mpr ⟨List.mem_range.mpr (by1 e'), by simp [q]⟩;have z : (hidT h H).get? b = none := PySem.W.hideAll_none (trk h H) hm;rw [z] at e; cases e
structure Mod (K : ay5) (mg : Str -> Option Value) (base : Heap) : Prop where
 kin : K.In base
 glob : base.Ns cy2 mg
 blt : ∃ mb, base.Ns builtinsNs mb /\ ∀ x : Str, x ≠ "__name__" -> mb x = fy2 x
 nolimit : base.NoLimit
structure Cx where
 prog : cy8
 w : World
 K : ay5
 mg : Str -> Option Value
 base : Heap
 A : Around
 N : List Str
 s₀ : Shared
 H₀ : Hp
 env : Env
 outer : List Env
 stack : List Env
 ex : List Addr
 fn : Str -> Bool
 calm : Bool
 pn : List (Addr × Obj)
 xe : Value -> Shared -> Prop
def frs (l : List Env) : List Addr := l.filterMap (·.frame)
abbrev Cx.fs (X : Cx) : List Addr := frs X.outer
def Vis (sc : Scope) (x : Str) : Prop := sc.names.lookup x = some .local \/ sc.names.lookup x = some .cell \/ sc.names.lookup x = some .free
def Loc (sc : Scope) (x : Str) : Prop := sc.names.lookup x = some .local \/ sc.names.lookup x = some .cell
def Look (env : Env) (h : Heap) (m : Str -> Option Value) (x : Str) (u : Value) : Prop :=
 (env.kindOf x = some .local /\ m x = some u) \/ ((env.kindOf x = some .cell \/ env.kindOf x = some .free) /\ ∃ c, env.cells.lookup x = some c /\ h.IsCell c (some u))
structure Cx.Ok (X : Cx) : Prop where
 mod : Mod X.K X.mg X.base
 kind : X.env.scope.kind = .function
 glob : X.env.globals = cy2
 blt : X.env.builtins = builtinsNs
 above : X.s₀.heap.objs.size <= X.env.locals
 inj : ∀ x y c, X.env.cells.lookup x = some c -> X.env.cells.lookup y = some c -> x = y
 has : ∀ x, (X.env.kindOf x = some .cell \/ X.env.kindOf x = some .free) -> ∃ c, X.env.cells.lookup x = some c
 cab : ∀ x c, X.fn x = true -> X.env.cells.lookup x = some c -> X.s₀.heap.objs.size <= c
 hd : X.calm = true -> X.A.handled = none
 frames : X.A.frames = some X.stack
 stk : X.stack = X.outer \/ (X.stack = X.env :: X.outer /\ X.env.frame = some X.env.locals)
 exf : ∀ b ∈ X.ex, b ≠ X.env.locals /\ ∀ x c, X.env.cells.lookup x = some c -> c ≠ b
 bs : ∀ b o, X.base.get? b = some o -> X.s₀.heap.get? b = some o /\ X.H₀ b = none
 bsz : X.base.objs.size <= X.s₀.heap.objs.size
 noex : ∀ b o, X.base.get? b = some o -> b ∉ X.ex
 exfs : ∀ b ∈ X.ex, b ∉ X.fs
 zX8 : X.s₀.heap.FunFrames X.base X.outer
 frf : ∀ b ∈ X.fs, X.H₀ b = none
structure Inv (X : Cx) (pins : List (Addr × Obj)) (σ : List (Option V)) (H : Hp) (s : Shared) : Prop where
 ok : X.Ok
 os : s.os = X.s₀.os
 bare : AllBare s.gens
 base : Un X.fs X.ex X.H₀ H X.s₀.heap s.heap
 loc : ∃ m, s.heap.Ns X.env.locals m /\ ∀ (i : Nat) (x : Str) (v : V), X.N[i]? = some x -> σ[i]? = some (some v) -> Vis X.env.scope x -> ∃ u, RelV v u /\ Look X.env s.heap m x u
 cell : ∀ x c, X.env.cells.lookup x = some c -> ∃ v, s.heap.IsCell c v
 free : H X.env.locals = none
 freeC : ∀ x c, X.env.cells.lookup x = some c -> H c = none
 pin : ∀ p ∈ X.pn ++ pins, s.heap.get? p.1 = some p.2 /\ H p.1 = none /\ p.1 ≠ X.env.locals /\ p.1 ∉ X.fs /\ ∀ v, p.2.data ≠ .cell v
 hok : HOk X.prog X.w H s.heap
 len : σ.length = X.N.length
section
variable {X : Cx} {pins : List (Addr × Obj)} {σ : List (Option V)} {H H' : Hp} {s : Shared} {h' : Heap}
theorem Cx.Ok.nofr (ok : X.Ok) {b : Addr} {o : Obj} (e : X.base.get? b = some o) : b ∉ X.fs := fun hb => by
 have := (ok.zX8.mem hb).1;rw [e] at this; cases this
theorem Inv.bs (I : Inv X pins σ H s) : ∀ b o, X.base.get? b = some o -> s.heap.get? b = some o /\ H b = none := fun b o e =>
 ⟨I.base.keep b o (I.ok.bs b o e).1 (I.ok.bs b o e).2 (I.ok.nofr e) (I.ok.noex b o e), I.base.free b o (I.ok.bs b o e).1 (I.ok.bs b o e).2 (I.ok.noex b o e)⟩
theorem Inv.bk (I : Inv X pins σ H s) : ∀ b o, X.base.get? b = some o -> s.heap.get? b = some o := fun b o e => (I.bs b o e).1
theorem Inv.mod (I : Inv X pins σ H s) : Mod X.K X.mg X.base := I.ok.mod
theorem Inv.kIn (I : Inv X pins σ H s) : X.K.In s.heap := I.ok.mod.kin.keeps I.bk
theorem Inv.fr (I : Inv X pins σ H s) : ∃ m, Fr X.base X.env.locals s.heap m :=
 let ⟨m, hn, _⟩ := I.loc
 ⟨m, hn, I.bk, dy9 I.ok.bsz I.ok.above⟩
theorem Inv.lt (I : Inv X pins σ H s) : X.env.locals < s.heap.objs.size := let ⟨_, hn, _⟩ := I.loc; hn.lt
theorem Inv.sz (I : Inv X pins σ H s) : X.s₀.heap.objs.size <= s.heap.objs.size := dy9 I.ok.above (ky9 I.lt)
theorem Inv.nofs (I : Inv X pins σ H s) {a : Addr} (h : s.heap.objs.size <= a) : a ∉ X.fs := fun hb => by
 obtain ⟨_, o, ho, _⟩ := I.ok.zX8.mem hb;exact absurd (by8 (by1 ho) (dy9 I.sz h)) (ny2 _)
theorem Inv.cne (I : Inv X pins σ H s) : ∀ x c, X.env.cells.lookup x = some c -> c ≠ X.env.locals := fun x c e z => by
 obtain ⟨v, o, ho, hd⟩ := I.cell x c e;obtain ⟨m, ⟨o', es, ep, ho', hd', _⟩, _⟩ := I.loc;rw [z, ho'] at ho; cases ho; rw [hd'] at hd; cases hd
theorem Inv.zX8 (I : Inv X pins σ H s) : s.heap.FunFrames X.base X.outer := by
 have all : ∀ (l : List Env), (∀ b ∈ frs l, b ∈ X.fs) -> X.s₀.heap.FunFrames X.base l -> s.heap.FunFrames X.base l := by
  intro l
  induction l with
  | nil => intro _ _; trivial
  | cons env r ih =>
   intro hs hl;obtain ⟨hk, ⟨L, o, hf, hn, ho, hd⟩, hr⟩ := hl;have hL : L ∈ X.fs := hs L (by unfold frs; rw [List.filterMap_cons, hf]; exact ay9);obtain ⟨sl, e⟩ := I.base.slot L o ho (I.ok.frf L hL) hL fun z => I.ok.exfs L z hL;exact ⟨hk, ⟨L, _, hf, hn, e, hd⟩, ih (fun b hb => hs b (by unfold frs; rw [List.filterMap_cons, hf]; exact by0 _ hb)) hr⟩
 exact all X.outer (fun _ hb => hb) I.ok.zX8
theorem Inv.stack (I : Inv X pins σ H s) : s.heap.FunFrames X.base X.stack := by
 rcases I.ok.stk with e | ⟨e, hf⟩
 ·rw [e]; exact I.zX8
 ·rw [e];obtain ⟨m, hn, _⟩ := I.loc;refine .cons (by rw [I.ok.kind]; decide) hf hn ?_ I.zX8;exact Heap.get?_none_of_le (dy9 I.ok.bsz I.ok.above)
theorem Inv.zX9 (I : Inv X pins σ H s) : ∀ b ∈ frs X.stack, b ∈ X.env.locals :: X.fs := fun b hb => by
 rcases I.ok.stk with e | ⟨e, hf⟩
 ·rw [e] at hb; exact by0 _ hb
 ·rw [e] at hb;unfold frs at hb;rw [List.filterMap_cons, hf] at hb;exact hb
theorem Inv.zY0 (I : Inv X pins σ H s) : ∀ b ∈ frs X.stack, H b = none := fun b hb => by
 rcases by7.mp (I.zX9 b hb) with e | hb
 ·rw [e]; exact I.free
 ·obtain ⟨_, o, ho, _⟩ := I.ok.zX8.mem hb;exact I.base.free b o ho (I.ok.frf b hb) fun z => I.ok.exfs b z hb
theorem Inv.step {g' : Array GenState} {t' : Nat} {d' : Drawn} {ch : List Addr} (I : Inv X pins σ H s)
  (hch : ∀ b ∈ ch, (b ∈ X.ex \/ X.s₀.heap.objs.size <= b) /\ b ≠ X.env.locals /\ (∀ x c, X.env.cells.lookup x = some c -> c ≠ b) /\ ∀ p ∈ X.pn ++ pins, p.1 ≠ b)
  (keep : ∀ b o, b ≠ X.env.locals -> b ∉ X.fs -> b ∉ ch -> s.heap.get? b = some o -> H b = none -> h'.get? b = some o)
  (slot : ∀ b o, b ≠ X.env.locals -> b ∈ X.fs -> b ∉ ch -> s.heap.get? b = some o -> H b = none -> ∃ sl, h'.get? b = some { o with slots := sl }) (free : ∀ b o, b ∉ ch -> s.heap.get? b = some o -> H b = none -> H' b = none)
  (there : ∀ b o, b ∉ ch -> s.heap.get? b = some o -> ∃ o', h'.get? b = some o')
  (tups : ∀ b xs, H b = some (.tup xs) -> H' b = some (.tup xs)) (frzs : ∀ b o u, H b = some (.frz o u) -> H' b = some (.frz o u)) (tbls : ∀ b ps, H b = some (.tbl ps) -> ∃ more, H' b = some (.tbl (ps ++ more)))
  (ns : ∀ m, s.heap.Ns X.env.locals m -> h'.Ns X.env.locals m) (hok : HOk X.prog X.w H' h') (hg : AllBare g') :
  Inv X pins σ H' { s with heap := h', gens := g', drawn := d', toks := t' } := by
 have neL : ∀ b o, X.s₀.heap.get? b = some o -> b ≠ X.env.locals := fun b o e => by6 (by8 (by1 e) I.ok.above)
 have neC : ∀ b o, X.s₀.heap.get? b = some o -> b ∉ X.ex -> b ∉ ch := fun b o e hx hb => by
  rcases (hch b hb).1 with z | z
  ·exact hx z
  ·exact absurd (by8 (by1 e) z) (ny2 _)
 have cellK : ∀ x c, X.env.cells.lookup x = some c -> ∀ v, s.heap.IsCell c v -> h'.IsCell c v := fun x c e v zR => by
  obtain ⟨o, ho, hd⟩ := zR;have nch : c ∉ ch := fun z => (hch c z).2.2.1 x c e rfl
  by_cases hc : c ∈ X.fs
  ·obtain ⟨sl, q⟩ := slot c o (I.cne x c e) hc nch ho (I.freeC x c e);exact ⟨_, q, hd⟩
  ·exact ⟨o, keep c o (I.cne x c e) hc nch ho (I.freeC x c e), hd⟩
 refine ⟨I.ok, I.os, hg, ⟨fun b o e n hb hx => ?_, fun b o e n hb hx => ?_, fun b o e n hx => ?_, fun b o e hx => ?_, fun b xs e => tups b xs (I.base.tups b xs e), fun b o xs e => frzs b o xs (I.base.frzs b o xs e), fun b ps e => ?_⟩, ?_, fun x c e => ?_, ?_, fun x c e => ?_, fun p hp => ?_, hok, I.len⟩
 ·exact keep b o (neL b o e) hb (neC b o e hx) (I.base.keep b o e n hb hx) (I.base.free b o e n hx)
 ·obtain ⟨sl, e1⟩ := I.base.slot b o e n hb hx;obtain ⟨sl', e2⟩ := slot b _ (neL b o e) hb (neC b o e hx) e1 (I.base.free b o e n hx);exact ⟨sl', e2⟩
 ·obtain ⟨o', e1⟩ := I.base.there b o e hx;exact free b o' (neC b o e hx) e1 (I.base.free b o e n hx)
 ·obtain ⟨o', e1⟩ := I.base.there b o e hx;exact there b o' (neC b o e hx) e1
 ·obtain ⟨m1, e1⟩ := I.base.tbls b ps e;obtain ⟨m2, e2⟩ := tbls b _ e1;exact ⟨m1 ++ m2, by rw [e2, Array.append_assoc]⟩
 ·obtain ⟨m, hn, hl⟩ := I.loc;refine ⟨m, ns m hn, fun i x v e1 e2 e3 => ?_⟩;obtain ⟨u, r, l⟩ := hl i x v e1 e2 e3;refine ⟨u, r, ?_⟩;rcases l with l | ⟨k, c, e, z⟩
  ·exact .inl l
  ·exact .inr ⟨k, c, e, cellK x c e _ z⟩
 ·obtain ⟨v, z⟩ := I.cell x c e;exact ⟨v, cellK x c e v z⟩
 ·obtain ⟨m, ⟨o, _, _, ho, _⟩, _⟩ := I.loc;exact free _ o (fun z => (hch _ z).2.1 rfl) ho I.free
 ·obtain ⟨v, o, ho, hd⟩ := I.cell x c e;exact free c o (fun z => (hch c z).2.2.1 x c e rfl) ho (I.freeC x c e)
 ·obtain ⟨e, n, ne, nf, d⟩ := I.pin p hp;have nch : p.1 ∉ ch := fun z => (hch p.1 z).2.2.2 p hp rfl;exact ⟨keep p.1 p.2 ne nf nch e n, free p.1 p.2 nch e n, ne, nf, d⟩
theorem Inv.un {t' : Nat} (I : Inv X pins σ H s) (u : Un X.fs [] H H' s.heap h') (hok : HOk X.prog X.w H' h') : Inv X pins σ H' { s with heap := h', toks := t' } := by
 obtain ⟨m, ⟨o, es, ep, ho, r⟩, _⟩ := id I.loc;obtain ⟨sl, hL⟩ := u.any ho I.free (by simp)
 exact I.step (g' := s.gens) (d' := s.drawn) (ch := []) (fun _ z => nomatch z) (fun b o _ hb _ e n => u.keep b o e n hb (by simp)) (fun b o _ hb _ e n => u.slot b o e n hb (by simp)) (fun b o _ e n => u.free b o e n (by simp)) (fun b o _ e => u.there b o e (by simp)) u.tups u.frzs u.tbls (fun m' hm => by
  obtain ⟨o', es', ep', ho', r'⟩ := hm;rw [ho] at ho'; cases ho'
  exact ⟨_, es', ep', hL, r'⟩) hok I.bare
theorem Inv.call {g' : Array GenState} {t' : Nat} {d' : Drawn} {ch : List Addr} (I : Inv X pins σ H s) (u : Un (frs X.stack) ch H H' s.heap h') (hok : HOk X.prog X.w H' h') (hg : AllBare g')
  (hch : ∀ b ∈ ch, (b ∈ X.ex \/ X.s₀.heap.objs.size <= b) /\ b ≠ X.env.locals /\ (∀ x c, X.env.cells.lookup x = some c -> c ≠ b) /\ ∀ p ∈ X.pn ++ pins, p.1 ≠ b) :
  Inv X pins σ H' { s with heap := h', gens := g', drawn := d', toks := t' } := by
 obtain ⟨m, ⟨o, es, ep, ho, r⟩, _⟩ := id I.loc;obtain ⟨sl, hL⟩ := u.any ho I.free fun z => (hch _ z).2.1 rfl
 exact I.step (ch := ch) hch (fun b o hL hb hc e n => u.keep b o e n (fun z => (by7.mp (I.zX9 b z)).elim hL hb) hc) (fun b o _ _ hc e n => u.any e n hc) (fun b o hc e n => u.free b o e n hc) (fun b o hc e => u.there b o e hc) u.tups u.frzs u.tbls (fun m' hm => by
  obtain ⟨o', es', ep', ho', r'⟩ := hm;rw [ho] at ho'; cases ho'
  exact ⟨_, es', ep', hL, r'⟩) hok hg
theorem Inv.turned {t' : Nat} {it : Addr} (I : Inv X pins σ H s) (k : ∀ b o, b ≠ it -> s.heap.get? b = some o -> h'.get? b = some o) (hn : H it = none) (hL : it ≠ X.env.locals)
  (h1 : it ∈ X.ex \/ X.s₀.heap.objs.size <= it) (h2 : ∀ x c, X.env.cells.lookup x = some c -> c ≠ it) (h3 : ∀ p ∈ X.pn ++ pins, p.1 ≠ it) : Inv X pins σ H { s with heap := h', toks := t' } := by
 have nit : ∀ b u, H b = some u -> b ≠ it := fun b u e z => by rw [z, hn] at e; cases e
 refine I.step (g' := s.gens) (d' := s.drawn) (ch := [it]) (fun b hb => ?_) (fun b o _ _ hc e _ => k b o (fun z => hc (by simp [z])) e) (fun b o _ _ hc e _ => ⟨o.slots, k b o (fun z => hc (by simp [z])) e⟩) (fun _ _ _ _ n => n)
  (fun b o hc e => ⟨o, k b o (fun z => hc (by simp [z])) e⟩) (fun _ _ e => e) (fun _ _ _ e => e) (fun b ps e => ⟨#[], by rw [e]; simp⟩) (fun m hm => ?_) (fun b u e => ?_) I.bare
 ·have e : b = it := by simpa using hb
  subst e;exact ⟨h1, hL, h2, h3⟩
 ·obtain ⟨o, es, ep, ho, r⟩ := hm;exact ⟨o, es, ep, k _ o (fy4 hL) ho, r⟩
 ·refine (I.hok b u e).zR6 (fun c v hc q => k c v ?_ q) (fun _ q => q) fun _ _ q => q;rcases hc with z | z
  ·rw [z]; exact nit b u e
  ·exact nit c _ z
theorem Inv.tok (I : Inv X pins σ H s) (t : Nat) : Inv X pins σ H { s with toks := t } := I.un (h' := s.heap) (t' := t) Un.refl I.hok
theorem Inv.kept {t' : Nat} (I : Inv X pins σ H s) (k : ∀ b u, s.heap.get? b = some u -> h'.get? b = some u) : Inv X pins σ H { s with heap := h', toks := t' } := I.un (Un.kept k) (I.hok.kept k)
theorem Inv.laid {a : Addr} {o : HO} {t' : Nat} (I : Inv X pins σ H s) (k : ∀ b u, s.heap.get? b = some u -> h'.get? b = some u) (hp : s.heap.objs.size <= a) (new : zb6 X.prog X.w (upd H a o) h' a o) :
  Inv X pins σ (upd H a o) { s with heap := h', toks := t' } := I.un (Un.laid k hp (I.hok.fresh hp)) (I.hok.laid k hp new)
theorem Inv.write {x e : Addr} {o : HO} {t' : Nat} (I : Inv X pins σ H s) (mu : Mut (H x)) (he : e = x \/ H e = some (.own x)) (k : ∀ b u, b ≠ e -> s.heap.get? b = some u -> h'.get? b = some u) (heo : ∃ u, h'.get? e = some u)
  (new : zb6 X.prog X.w (upd H x o) h' x o) : Inv X pins σ (upd H x o) { s with heap := h', toks := t' } := I.un (Un.write mu he k heo) (I.hok.write mu he k heo new)
theorem Inv.weak {σ' : List (Option V)} (I : Inv X pins σ H s) (hl : σ'.length = σ.length) (w : ∀ (i : Nat) v, σ'[i]? = some (some v) -> σ[i]? = some (some v)) : Inv X pins σ' H s :=
 ⟨I.ok, I.os, I.bare, I.base, let ⟨m, hn, hl'⟩ := I.loc; ⟨m, hn, fun i x v e1 e2 e3 => hl' i x v e1 (w i v e2) e3⟩, I.cell, I.free, I.freeC, I.pin, I.hok, hl.trans I.len⟩
theorem Inv.zk9 {pins' : List (Addr × Obj)} (I : Inv X pins σ H s) (h : ∀ p ∈ pins', s.heap.get? p.1 = some p.2 /\ H p.1 = none /\ p.1 ≠ X.env.locals /\ p.1 ∉ X.fs /\ ∀ v, p.2.data ≠ .cell v) : Inv X pins' σ H s :=
 ⟨I.ok, I.os, I.bare, I.base, I.loc, I.cell, I.free, I.freeC, fun p hp => (ey0.mp hp).elim (fun z => I.pin p (my0 _ z)) (h p), I.hok, I.len⟩
theorem zN5 {N : List Str} (hN : N.Nodup) {i j : Nat} {x : Str} (a : N[i]? = some x) (b : N[j]? = some x) : i = j := by
 obtain ⟨h1, e1⟩ := ay3.mp a;obtain ⟨h2, e2⟩ := ay3.mp b;exact (jy9 hN).mp (e1.trans e2.symm)
theorem zt8 {M : Model} {A : Around} {E : Value -> Shared -> Prop} {i : Nat} {x : Str} {v : V} {u : Value} {Q : Unit -> Shared -> Prop} (I : Inv X pins σ H s) (hN : X.N.Nodup) (hi : X.N[i]? = some x) (hx : Loc X.env.scope x) (r : RelV v u)
  (h : ∀ s', Inv X pins (σ.set i (some v)) H s' -> (∃ a, fy5 a s.heap s'.heap /\ (a = X.env.locals \/ X.env.cells.lookup x = some a)) -> Q () s') (hf : X.fn x = true \/ X.env.scope.names.lookup x = some .local := by first | exact .inl rfl | exact .inr rfl | assumption) : wpAny M A (storeName X.env x u) Q E s := by
 obtain ⟨m, hn, hl⟩ := id I.loc;have hcls : (X.env.scope.kind == .class || (X.env.scope.kind == .module && X.env.locals != X.env.globals)) = false := by rw [I.ok.kind]; rfl
 have hiσ : i < σ.length := by rw [I.len]; exact (ay3.mp hi).1
 have cne := I.cne
 have tracked : ∀ {a : Addr} {h' : Heap}, (∃ o, s.heap.get? a = some o /\ H a = none) -> fy5 a s.heap h' -> HOk X.prog X.w H h' := fun {a h'} ha hs b ob e => by
  obtain ⟨_, _, hfree⟩ := ha;refine (I.hok b ob e).zR6 (fun c w' hc q => (hs.2 c ?_).trans q) (fun _ q => q) fun _ _ q => q;rintro rfl;rcases hc with rfl | hc
  ·rw [hfree] at e; cases e
  ·rw [hfree] at hc; cases hc
 rcases hx with hk | hk
 ·refine wpAny_storeName_local hk hn (fun h' hn' hs => ?_) hcls;obtain ⟨oL, _, _, hoL, _⟩ := id hn;refine h _ ⟨I.ok, I.os, I.bare, ⟨fun b o e n hb hx => ?_, fun b o e n hb hx => ?_, I.base.free, fun b o e hx => ?_, I.base.tups, I.base.frzs, I.base.tbls⟩, ⟨_, hn', fun j y v' e1 e2 e3 => ?_⟩, fun y c e => ?_, I.free, I.freeC, fun p hp => ?_, tracked ⟨oL, hoL, I.free⟩ hs, by simpa using I.len⟩ ⟨_, hs, .inl rfl⟩
  ·exact (hs.2 b (by6 (by8 (by1 e) I.ok.above))).trans (I.base.keep b o e n hb hx)
  ·obtain ⟨sl, e1⟩ := I.base.slot b o e n hb hx;exact ⟨sl, (hs.2 b (by6 (by8 (by1 e) I.ok.above))).trans e1⟩
  ·obtain ⟨o', e1⟩ := I.base.there b o e hx;exact ⟨o', (hs.2 b (by6 (by8 (by1 e) I.ok.above))).trans e1⟩
  ·by_cases hj : j = i
   ·subst hj;rw [hi] at e1; cases e1;rw [gy3 hiσ] at e2;cases e2;exact ⟨u, r, .inl ⟨hk, by simp⟩⟩
   ·rw [cy3 (fy4 hj)] at e2;obtain ⟨u', r', q⟩ := hl j y v' e1 e2 e3;refine ⟨u', r', ?_⟩;rcases q with ⟨k, e⟩ | ⟨k, c, e, z⟩
    ·refine .inl ⟨k, ?_⟩;have : y ≠ x := fun e => hj (zN5 hN e1 (e ▸ hi));simp [this, e]
    ·exact .inr ⟨k, c, e, z.sameBut hs (cne y c e)⟩
  ·obtain ⟨w', z⟩ := I.cell y c e;exact ⟨w', z.sameBut hs (cne y c e)⟩
  ·obtain ⟨e, n, ne, nf, d⟩ := I.pin p hp;exact ⟨(hs.2 p.1 ne).trans e, n, ne, nf, d⟩
 ·have hfn : X.fn x = true := by
   rcases hf with z | z
   ·exact z
   ·rw [z] at hk; cases hk
  obtain ⟨c, hc⟩ := I.ok.has x (.inl hk);obtain ⟨w', z⟩ := I.cell x c hc;refine wpAny_storeName_cell I.ok.kind hk hc z (fun h' hc' hs => ?_);obtain ⟨oc, hoc, hocd⟩ := id z;refine h { s with heap := h' } ⟨I.ok, I.os, I.bare, ⟨fun b o e n hb hx => ?_, fun b o e n hb hx => ?_, I.base.free, fun b o e hx => ?_, I.base.tups, I.base.frzs, I.base.tbls⟩, ⟨m, hn.sameBut hs (fy4 (cne x c hc)), fun j y v' e1 e2 e3 => ?_⟩, fun y c' e => ?_, I.free, I.freeC, fun p hp => ?_, tracked ⟨oc, hoc, I.freeC x c hc⟩ hs, by simpa using I.len⟩ ⟨c, hs, .inr hc⟩
  ·exact (hs.2 b (by6 (by8 (by1 e) (I.ok.cab x c hfn hc)))).trans (I.base.keep b o e n hb hx)
  ·obtain ⟨sl, e1⟩ := I.base.slot b o e n hb hx;exact ⟨sl, (hs.2 b (by6 (by8 (by1 e) (I.ok.cab x c hfn hc)))).trans e1⟩
  ·obtain ⟨o', e1⟩ := I.base.there b o e hx;exact ⟨o', (hs.2 b (by6 (by8 (by1 e) (I.ok.cab x c hfn hc)))).trans e1⟩
  ·by_cases hj : j = i
   ·subst hj;rw [hi] at e1; cases e1;rw [gy3 hiσ] at e2;cases e2;exact ⟨u, r, .inr ⟨.inl hk, c, hc, hc'⟩⟩
   ·rw [cy3 (fy4 hj)] at e2;obtain ⟨u', r', q⟩ := hl j y v' e1 e2 e3;refine ⟨u', r', ?_⟩;rcases q with q | ⟨k, c', e, z'⟩
    ·exact .inl q
    ·refine .inr ⟨k, c', e, z'.sameBut hs ?_⟩;rintro rfl;exact hj (zN5 hN e1 (I.ok.inj _ _ _ e hc ▸ hi))
  ·by_cases hcc : c' = c
   ·subst hcc; exact ⟨_, hc'⟩
   ·obtain ⟨w2, z2⟩ := I.cell y c' e;exact ⟨w2, z2.sameBut hs hcc⟩
  ·obtain ⟨e, n, ne, nf, d⟩ := I.pin p hp;refine ⟨(hs.2 p.1 ?_).trans e, n, ne, nf, d⟩;intro q;rw [q, hoc] at e;have q' : oc = p.2 := jy2 e;exact d w' (by rw [<- q']; exact hocd)
theorem zN6 {M : Model} {A : Around} {E : Value -> Shared -> Prop} {i : Nat} {x : Str} {v : V} {u : Value} {Q : Unit -> Shared -> Prop} (I : Inv X pins σ H s) (hN : X.N.Nodup) (hi : X.N[i]? = some x) (hx : Loc X.env.scope x) (r : RelV v u)
  (h : ∀ s', Inv X pins (σ.set i (some v)) H s' -> Q () s') (hf : X.fn x = true \/ X.env.scope.names.lookup x = some .local := by first | exact .inl rfl | exact .inr rfl | assumption) : wpAny M A (storeName X.env x u) Q E s :=
 zt8 I hN hi hx r (fun s' I' _ => h s' I') hf
theorem Inv.zb14 {s' : Shared} {ch : List Addr} (I : Inv X pins σ H s) (ho : s'.os = s.os) (u : Un (frs X.stack) ch H H' s.heap s'.heap) (hok : HOk X.prog X.w H' s'.heap) (hg : AllBare s'.gens)
  (hch : ∀ b ∈ ch, (b ∈ X.ex \/ X.s₀.heap.objs.size <= b) /\ b ≠ X.env.locals /\ (∀ x c, X.env.cells.lookup x = some c -> c ≠ b) /\ ∀ p ∈ X.pn ++ pins, p.1 ≠ b) : Inv X pins σ H' s' := by
 obtain ⟨h', g', d', t', o'⟩ := s';have e : o' = s.os := ho;subst e;exact I.call (g' := g') (t' := t') (d' := d') u hok hg hch
end
abbrev XK := Value -> Option Addr -> Hp -> Prop
abbrev St := List (Option V)
abbrev VK := V -> Hp -> Prop
abbrev TE := St -> Hp -> VK -> Prop
abbrev TT := St -> Hp -> (Bool -> Hp -> Prop) -> Prop
abbrev TA := St -> Hp -> (List V -> Hp -> Prop) -> Prop
structure Ends where
 nx : St -> Hp -> Prop
 rt : VK
 bk : St -> Hp -> Prop := fun _ _ => False
 ct : St -> Hp -> Prop := fun _ _ => False
abbrev TS := Ends -> St -> Hp -> Prop
def EP (X : Cx) (pins : List (Addr × Obj)) (σ : St) (Q : VK) (u : Value) (s' : Shared) : Prop := ∃ v H', Inv X pins σ H' s' /\ RelV v u /\ Q v H'
def TP (X : Cx) (pins : List (Addr × Obj)) (σ : St) (Q : Bool -> Hp -> Prop) (b : Bool) (s' : Shared) : Prop := ∃ H', Inv X pins σ H' s' /\ Q b H'
def AP (X : Cx) (pins : List (Addr × Obj)) (σ : St) (Q : List V -> Hp -> Prop) (us : List Value) (s' : Shared) : Prop := ∃ vs H', Inv X pins σ H' s' /\ Vals vs us /\ Q vs H'
def SP (X : Cx) (pins : List (Addr × Obj)) (D : Ends) (f : Flow) (s' : Shared) : Prop :=
 match f with
 | .next => ∃ σ' H', Inv X pins σ' H' s' /\ D.nx σ' H'
 | .brk => ∃ σ' H', Inv X pins σ' H' s' /\ D.bk σ' H'
 | .cont => ∃ σ' H', Inv X pins σ' H' s' /\ D.ct σ' H'
 | .ret u => ∃ v σ' H', Inv X pins σ' H' s' /\ RelV v u /\ D.rt v H'
def PE (X : Cx) (e : Expr) (t : TE) : Prop :=
 ∀ (pins : List (Addr × Obj)) (s : Shared) (σ : St) (H : Hp) (Q : VK), Inv X pins σ H s -> t σ H Q -> wpAny (model X.prog X.w) X.A (eval e X.env) (EP X pins σ Q) X.xe s
def PT (X : Cx) (e : Expr) (t : TT) : Prop :=
 ∀ (pins : List (Addr × Obj)) (s : Shared) (σ : St) (H : Hp) (Q : Bool -> Hp -> Prop), Inv X pins σ H s -> t σ H Q -> wpAny (model X.prog X.w) X.A (isTrue e X.env (eval e X.env)) (TP X pins σ Q) X.xe s
def PW (X : Cx) (e : Expr) (t : TT) : Prop :=
 ∀ (whole : Sem Value) (pins : List (Addr × Obj)) (s : Shared) (σ : St) (H : Hp) (Q : Bool -> Hp -> Prop), Inv X pins σ H s -> t σ H Q -> wpAny (model X.prog X.w) X.A (isTrue e X.env whole) (TP X pins σ Q) X.xe s
theorem PW.pt {X : Cx} {e : Expr} {t : TT} (h : PW X e t) : PT X e t := h _
def PA (X : Cx) (es : List Expr) (t : TA) : Prop :=
 ∀ (pos : Pos) (pins : List (Addr × Obj)) (s : Shared) (σ : St) (H : Hp) (Q : List V -> Hp -> Prop), Inv X pins σ H s -> t σ H Q -> wpAny (model X.prog X.w) X.A (spliced (backTo pos (fy6 es X.env))) (AP X pins σ Q) X.xe s
def PS (X : Cx) (st : Stmt) (t : TS) : Prop :=
 ∀ (pins : List (Addr × Obj)) (s : Shared) (σ : St) (H : Hp) (D : Ends), Inv X pins σ H s -> t D σ H -> wpAny (model X.prog X.w) X.A (exec st X.env) (SP X pins D) X.xe s
def PSs (X : Cx) (st : List Stmt) (t : TS) : Prop :=
 ∀ (pins : List (Addr × Obj)) (s : Shared) (σ : St) (H : Hp) (D : Ends), Inv X pins σ H s -> t D σ H -> wpAny (model X.prog X.w) X.A (execs st X.env) (SP X pins D) X.xe s
theorem thn {α : Type} {t : Sem α} {Q Q' : α -> Shared -> Prop} {M : Model} {A : Around} {E : Value -> Shared -> Prop} {s : Shared} (h : wpAny M A t Q E s) (hQ : ∀ a s, Q a s -> Q' a s) : wpAny M A t Q' E s := fy9 h hQ fun _ _ x => x
section
variable {X : Cx}
def tVar (i : Nat) : TE := fun σ H Q => ∃ v, σ[i]? = some (some v) /\ Q v H
def tC (v : V) : TE := fun _ H Q => Q v H
theorem zd17 {i : Nat} {x : Str} {pos : Pos} (hN : X.N[i]? = some x) (hv : Vis X.env.scope x) (hd : (x == ("__debug__" : Str)) = false := by decide) (hcd : (x == ("__classdict__" : Str)) = false := by decide) : PE X (.Name x pos) (tVar i) := by
 intro pins s σ H Q I h;obtain ⟨v, e, h⟩ := h;obtain ⟨m, hn, hl⟩ := I.loc;obtain ⟨u, r, l⟩ := hl i x v hN e hv;have fin : EP X pins σ Q u s := ⟨v, H, I, r, h⟩
 rcases l with ⟨hk, hm⟩ | ⟨hk, c, hc, hcell⟩
 ·exact wpAny_Name (wpAny_loadName_local I.ok.kind hk hn hm fin) hd
 ·rcases hk with hk | hk
  ·exact wpAny_Name (wpAny_loadName_cell I.ok.kind hk hc hcell fin) hd
  ·exact wpAny_Name (wpAny_loadName_free I.ok.kind hk hc hcell fin hcd) hd
theorem zd18 {i j pos} : PE X (.Constant (.int i) j pos) (tC (.int i)) := fun _ _ _ H _ I h => wpAny_Constant_int ⟨.int i, H, I.tok _, ⟨_, rfl⟩, h⟩
theorem ze29 {b j pos} : PE X (.Constant (.bool b) j pos) (tC (.bl b)) := fun _ _ _ H _ I h => Constant_bool ⟨.bl b, H, I, rfl, h⟩
theorem zd19 {x j pos} : PE X (.Constant (.str x) j pos) (tC (.str x)) := fun _ _ _ H _ I h => Calls.Constant_str ⟨.str x, H, I.tok _, ⟨_, rfl⟩, h⟩
def Gl (X : Cx) (x : Str) : Prop := X.env.kindOf x = some .globalImplicit
theorem zY1 {E : Value -> Shared -> Prop} {pins : List (Addr × Obj)} {s : Shared} {σ : St} {H : Hp} {x : Str} {u : Value} {pos : Pos} {Q : Value -> Shared -> Prop} (I : Inv X pins σ H s) (hg : Gl X x) (hm : X.mg x = some u) (h : Q u s)
  (hd : (x == ("__debug__" : Str)) = false := by decide) : wpAny (model X.prog X.w) X.A (eval (.Name x pos) X.env) Q E s :=
 Calls.Name_function_global I.ok.kind hg (Calls.loadGlobal_global (by rw [I.ok.glob]; exact I.mod.glob.keeps I.bk) hm h) hd
theorem zE0 {E : Value -> Shared -> Prop} {pins : List (Addr × Obj)} {s : Shared} {σ : St} {H : Hp} {x : Str} {u : Value} {pos : Pos} {Q : Value -> Shared -> Prop} (I : Inv X pins σ H s) (hg : Gl X x) (hm : X.mg x = none) (hv : fy2 x = some u) (h : Q u s)
  (hn : x ≠ "__name__" := by decide) (hd : (x == ("__debug__" : Str)) = false := by decide) : wpAny (model X.prog X.w) X.A (eval (.Name x pos) X.env) Q E s := by
 obtain ⟨mb, h1, h2⟩ := I.mod.blt;exact Calls.Name_function_global I.ok.kind hg (Calls.loadGlobal_builtin (by rw [I.ok.glob]; exact I.mod.glob.keeps I.bk) hm (by rw [I.ok.blt]; exact h1.keeps I.bk) ((h2 x hn).trans hv) h) hd
theorem zc29 {x : Str} {v : V} {u : Value} {pos : Pos} (hg : Gl X x) (hm : X.mg x = some u) (r : RelV v u) (hd : (x == ("__debug__" : Str)) = false := by decide) : PE X (.Name x pos) (tC v) :=
 fun _ _ _ H _ I h => zY1 I hg hm ⟨v, H, I, r, h⟩ hd
theorem zc30 {x : Str} {v : V} {u : Value} {pos : Pos} (hg : Gl X x) (hm : X.mg x = none) (hv : fy2 x = some u) (r : RelV v u) (hn : x ≠ "__name__" := by decide) (hd : (x == ("__debug__" : Str)) = false := by decide) : PE X (.Name x pos) (tC v) :=
 fun _ _ _ H _ I h => zE0 I hg hm hv ⟨v, H, I, r, h⟩ hn hd
variable {a b : Expr} {ta tb : TE} {pos : Pos}
def tB (t : TE) : TT := fun σ H Q => t σ H fun x H1 => ∃ c, x = .bl c /\ Q c H1
theorem zd20 {e : Expr} {t : TE} (h : PE X e t) (he : ∀ whole, isTrue e X.env whole = (do let v <- whole; standAt e.pos; holding [v] (truthy v)) := by intro _; rfl) : PT X e (tB t) := by
 intro pins s σ H Q I hw;refine isTrue_plain (thn (h pins s σ H _ I hw) fun v s1 ⟨x, H1, I1, r1, q1⟩ => ?_) (he _);obtain ⟨d, rfl, q⟩ := q1;cases r1;exact ly0 ⟨H1, I1, q⟩
variable {tA tB' : TT} {rest : List Expr}
def tAnd (t u : TT) : TT := fun σ H Q => t σ H fun c H1 => if c = true then u σ H1 Q else Q false H1
def tOr (t u : TT) : TT := fun σ H Q => t σ H fun c H1 => if c = true then Q true H1 else u σ H1 Q
def tNot (t : TT) : TT := fun σ H Q => t σ H fun c H1 => Q (!c) H1
theorem zc31 (ha : PT X a tA) : PW X (.BoolOp .And [a] pos) tA := by
 intro wh pins s σ H Q I h;refine isTrue_and (thn (ha pins s σ H Q I h) fun c s1 e => ?_);cases c with
 | true => exact isTrue_and_nil e
 | false => exact e
theorem zd21 (ha : PT X a tA) : PW X (.BoolOp .Or [a] pos) tA := by
 intro wh pins s σ H Q I h;refine isTrue_or (thn (ha pins s σ H Q I h) fun c s1 e => ?_);cases c with
 | false => exact isTrue_or_nil e
 | true => exact e
theorem zd22 (ha : PT X a tA) (hb : PW X (.BoolOp .And (b :: rest) pos) tB') : PW X (.BoolOp .And (a :: b :: rest) pos) (tAnd tA tB') := by
 intro wh pins s σ H Q I h;refine isTrue_and (thn (ha pins s σ H _ I h) fun c s1 ⟨H1, I1, q1⟩ => ?_);cases c with
 | true => exact hb wh pins s1 σ H1 Q I1 q1
 | false => exact ⟨H1, I1, q1⟩
theorem ze30 (ha : PT X a tA) (hb : PW X (.BoolOp .Or (b :: rest) pos) tB') : PW X (.BoolOp .Or (a :: b :: rest) pos) (tOr tA tB') := by
 intro wh pins s σ H Q I h;refine isTrue_or (thn (ha pins s σ H _ I h) fun c s1 ⟨H1, I1, q1⟩ => ?_);cases c with
 | true => exact ⟨H1, I1, q1⟩
 | false => exact hb wh pins s1 σ H1 Q I1 q1
theorem zd23 (ha : PT X a tA) : PT X (.UnaryOp .Not a pos) (tNot tA) := by
 intro pins s σ H Q I h;exact isTrue_not (ha pins s σ H (fun c H1 => Q (!c) H1) I h)
def ze31 (ta tb : TE) : TE := fun σ H Q => ta σ H fun x H1 => ∃ c, x = .bl c /\ if c = true then tb σ H1 Q else Q (.bl false) H1
def tOrV (ta tb : TE) : TE := fun σ H Q => ta σ H fun x H1 => ∃ c, x = .bl c /\ if c = true then Q (.bl true) H1 else tb σ H1 Q
theorem zd24 {op} {t : TE} (h : PE X a t) : PE X (.BoolOp op [a] pos) t := fun pins s σ H Q I hw => BoolOp_one (h pins s σ H Q I hw)
theorem zd25 (ha : PE X a ta) (hb : PE X (.BoolOp .And (b :: rest) pos) tb) : PE X (.BoolOp .And (a :: b :: rest) pos) (ze31 ta tb) := by
 intro pins s σ H Q I h;refine BoolOp_and (thn (ha pins s σ H _ I h) fun v s1 ⟨x, H1, I1, r1, q1⟩ => ?_);obtain ⟨c, rfl, q1⟩ := q1;cases r1;refine ly0 ?_;cases c with
 | true => exact hb pins s1 σ H1 Q I1 q1
 | false => exact ⟨.bl false, H1, I1, rfl, q1⟩
theorem ze32 (ha : PE X a ta) (hb : PE X (.BoolOp .Or (b :: rest) pos) tb) : PE X (.BoolOp .Or (a :: b :: rest) pos) (tOrV ta tb) := by
 intro pins s σ H Q I h;refine BoolOp_or (thn (ha pins s σ H _ I h) fun v s1 ⟨x, H1, I1, r1, q1⟩ => ?_);obtain ⟨c, rfl, q1⟩ := q1;cases r1;refine ly0 ?_;cases c with
 | false => exact hb pins s1 σ H1 Q I1 q1
 | true => exact ⟨.bl true, H1, I1, rfl, q1⟩
def tIf (t : TT) (ta tb : TE) : TE := fun σ H Q => t σ H fun c H1 => if c = true then ta σ H1 Q else tb σ H1 Q
theorem zb15 {c : Expr} (hc : PT X c tA) (ha : PE X a ta) (hb : PE X b tb) : PE X (.IfExp c a b pos) (tIf tA ta tb) := by
 intro pins s σ H Q I h;refine wpAny_IfExp (thn (hc pins s σ H _ I h) fun d s1 ⟨H1, I1, q1⟩ => ?_);cases d with
 | true => exact ha pins s1 σ H1 Q I1 q1
 | false => exact hb pins s1 σ H1 Q I1 q1
end
def SqL (K : ay5) (H : Hp) (a : Addr) (xs : List V) : Prop :=
 Rd H a (.lst xs) \/
  ∃ (o : Obj) (its : Array Value) (n : Nat), K.lookup a = some o /\ o.cls = .type "list" /\ o.dict = none /\ o.data = .seq its n /\ its.size <= by2 /\ Vals xs its.toList
def SqT (K : ay5) (H : Hp) (a : Addr) (xs : List V) : Prop :=
 Rd H a (.tup xs) \/
  ∃ (o : Obj) (its : Array Value) (n : Nat), K.lookup a = some o /\ o.cls = .type "tuple" /\ o.data = .seq its n /\ its.size <= by2 /\ Vals xs its.toList
def absV : Value -> Option V
 | .none => some .non
 | .bool b => some (.bl b)
 | .int i _ => some (.int i)
 | .str x _ => some (.str x)
 | .bytes b _ => some (.byt b)
 | .float b _ => some (.flt b)
 | .ref a => some (.ref a)
 | .type n => some (.ty n)
 | _ => none
theorem RelV.abs {x : V} {u : Value} (r : RelV x u) : absV u = some x := by
 cases x with
 | non => cases r; rfl
 | bl _ => cases r; rfl
 | int _ => obtain ⟨t, rfl⟩ := r; rfl
 | str _ => obtain ⟨t, rfl⟩ := r; rfl
 | byt _ => obtain ⟨t, rfl⟩ := r; rfl
 | flt _ => obtain ⟨t, rfl⟩ := r; rfl
 | ref _ => cases r; rfl
 | ty _ => cases r; rfl
theorem RelV.inj {x y : V} {u : Value} (r : RelV x u) (q : RelV y u) : x = y := jy2 (r.abs.symm.trans q.abs)
theorem Vals.inj : ∀ {xs ys : List V} {us : List Value}, Vals xs us -> Vals ys us -> xs = ys
 | _, _, _, .nil, .nil => rfl
 | _, _, _, .cons r t, .cons r' t' => by rw [r.inj r', Vals.inj t t']
section
variable {X : Cx} {pins : List (Addr × Obj)} {σ : St} {H : Hp} {s : Shared} {a : Addr} {xs ys : List V}
theorem SqL.of {K : ay5} (h : H a = some (.lst xs)) : SqL K H a xs := .inl (.inl h)
theorem SqT.of {K : ay5} (h : H a = some (.tup xs)) : SqT K H a xs := .inl (.inl h)
theorem Inv.list (I : Inv X pins σ H s) (h : SqL X.K H a xs) : ∃ its : List Value, Vals xs its /\ PlainL s.heap a its.toArray /\ xs.length <= by2 := by
 rcases h with h | ⟨o, its, n, hk, hc, hd, hs, hz, r⟩
 ·obtain ⟨z, its, n, r, e⟩ := h.ok I.hok;exact ⟨its, r, ⟨_, n, e, rfl, rfl, rfl⟩, z⟩
 ·refine ⟨its.toList, r, ⟨o, n, I.kIn a o hk, hc, hd, by simpa using hs⟩, ?_⟩;have e := r.length;simp only [iy4] at e;omega
theorem Inv.tuple (I : Inv X pins σ H s) (h : SqT X.K H a xs) : ∃ its : List Value, Vals xs its /\ IsTup s.heap a its.toArray /\ xs.length <= by2 := by
 rcases h with h | ⟨o, its, n, hk, hc, hs, hz, r⟩
 ·obtain ⟨z, its, r, p⟩ := h.ok I.hok;exact ⟨its, r, p, z⟩
 ·refine ⟨its.toList, r, ⟨o, I.kIn a o hk, hc, n, by simpa using hs⟩, ?_⟩;have e := r.length;simp only [iy4] at e;omega
theorem Inv.zb16 (I : Inv X pins σ H s) (h : SqL X.K H a xs) (h' : SqL X.K H a ys) : xs = ys := by
 obtain ⟨its, r, ⟨o, n, e, _, _, d⟩, _⟩ := I.list h;obtain ⟨its', r', ⟨o', n', e', _, _, d'⟩, _⟩ := I.list h';rw [e] at e'; cases e';rw [d] at d';injection d' with d1 _
 have : its = its' := by simpa using congrArg Array.toList d1
 subst this;exact r.inj r'
theorem Inv.zE1 (I : Inv X pins σ H s) (h : SqT X.K H a xs) (h' : SqT X.K H a ys) : xs = ys := by
 obtain ⟨its, r, ⟨o, e, _, n, d⟩, _⟩ := I.tuple h;obtain ⟨its', r', ⟨o', e', _, n', d'⟩, _⟩ := I.tuple h';rw [e] at e'; cases e';rw [d] at d';injection d' with d1 _
 have : its = its' := by simpa using congrArg Array.toList d1
 subst this;exact r.inj r'
end
abbrev Cx.wish (X : Cx) (E : Value -> Shared -> Prop) : Cx := { X with xe := E }
abbrev Cx.nox (X : Cx) : Cx := X.wish fun _ _ => False
theorem Cx.Ok.wish {X : Cx} (ok : X.Ok) (E : Value -> Shared -> Prop) : (X.wish E).Ok :=
 ⟨ok.mod, ok.kind, ok.glob, ok.blt, ok.above, ok.inj, ok.has, ok.cab, ok.hd, ok.frames, ok.stk, ok.exf, ok.bs, ok.bsz, ok.noex, ok.exfs, ok.zX8, ok.frf⟩
theorem Cx.Ok.zr3 {X : Cx} {E : Value -> Shared -> Prop} (ok : (X.wish E).Ok) : X.Ok :=
 ⟨ok.mod, ok.kind, ok.glob, ok.blt, ok.above, ok.inj, ok.has, ok.cab, ok.hd, ok.frames, ok.stk, ok.exf, ok.bs, ok.bsz, ok.noex, ok.exfs, ok.zX8, ok.frf⟩
section
variable {X : Cx} {pins : List (Addr × Obj)} {σ : St} {H : Hp} {s : Shared} {E : Value -> Shared -> Prop}
theorem Inv.wish (I : Inv X pins σ H s) (E : Value -> Shared -> Prop) : Inv (X.wish E) pins σ H s := ⟨I.ok.wish E, I.os, I.bare, I.base, I.loc, I.cell, I.free, I.freeC, I.pin, I.hok, I.len⟩
theorem Inv.zr3 (I : Inv (X.wish E) pins σ H s) : Inv X pins σ H s := ⟨I.ok.zr3, I.os, I.bare, I.base, I.loc, I.cell, I.free, I.freeC, I.pin, I.hok, I.len⟩
theorem SP.zr3 {D : Ends} {f : Flow} {s' : Shared} (h : SP (X.wish E) pins D f s') : SP X pins D f s' := by
 cases f with
 | next => obtain ⟨σ', H', I, q⟩ := h; exact ⟨σ', H', I.zr3, q⟩
 | brk => obtain ⟨σ', H', I, q⟩ := h; exact ⟨σ', H', I.zr3, q⟩
 | cont => obtain ⟨σ', H', I, q⟩ := h; exact ⟨σ', H', I.zr3, q⟩
 | ret u => obtain ⟨v, σ', H', I, r, q⟩ := h; exact ⟨v, σ', H', I.zr3, r, q⟩
theorem PSs.nox {st : List Stmt} {t : TS} (h : PSs X.nox st t) : PSs X st t := fun pins s σ H D I hw =>
 fy9 (h pins s σ H D (I.wish _) hw) (fun _ _ q => q.zr3) fun _ _ z => vy4 z
end
section
variable {X : Cx} {st : Stmt} {rest : List Stmt} {t u : TS} {e : Expr} {te : TE} {pos : Pos}
def ze33 : TS := fun D σ H => D.nx σ H
def tSeq (t u : TS) : TS := fun D σ H => t { D with nx := u D } σ H
theorem zc32 : PSs X [] ze33 := fun _ _ σ H _ I h => wpAny_execs_nil ⟨σ, H, I, h⟩
theorem zb17 (h1 : PS X st t) (h2 : PSs X rest u) : PSs X (st :: rest) (tSeq t u) := by
 intro pins s σ H D I h;refine wpAny_execs_cons (thn (h1 pins s σ H { D with nx := u D } I h) fun f s1 q => ?_);cases f with
 | next =>
  obtain ⟨σ', H', I', q⟩ := q;exact h2 pins s1 σ' H' D I' q
 | ret v => exact q
 | brk => exact q
 | cont => exact q
theorem zc33 (h1 : PS X st t) : PSs X [st] t := by
 intro pins s σ H D I h;refine wpAny_execs_cons (thn (h1 pins s σ H D I h) fun f s1 q => ?_);cases f with
 | next => exact wpAny_execs_nil q
 | ret v => exact q
 | brk => exact q
 | cont => exact q
theorem Inv.quiet {pins : List (Addr × Obj)} {σ : St} {H : Hp} {s : Shared} (I : Inv X pins σ H s) : interactive X.env = false := by simp [interactive, I.ok.kind]
def ze34 (te : TE) : TS := fun D σ H => te σ H fun _ H1 => D.nx σ H1
theorem zc34 (he : PE X e te) (hs : swapsWith e none pos.line X.env = pure false := by rfl) : PS X (.Expr e pos) (ze34 te) := by
 intro pins s σ H D I h;exact wpAny_Expr_any (thn (he pins s σ H _ I h) fun v s1 ⟨x, H1, I1, r1, q1⟩ => ⟨σ, H1, I1, q1⟩) I.quiet hs
def tRet (te : TE) : TS := fun D σ H => te σ H D.rt
theorem zY2 (he : PE X e te) : PS X (.Return (some e) pos) (tRet te) := by
 intro pins s σ H D I h;exact wpAny_Return_some (thn (he pins s σ H _ I h) fun v s1 ⟨x, H1, I1, r1, q1⟩ => ⟨x, σ, H1, I1, r1, q1⟩)
def tIfS (c : TT) (t u : TS) : TS := fun D σ H => c σ H fun b H1 => if b = true then t D σ H1 else u D σ H1
theorem ze35 {c : Expr} {a b : List Stmt} {tc : TT} (hc : PT X c tc) (ha : PSs X a t) (hb : PSs X b u) : PS X (.If c a b pos) (tIfS tc t u) := by
 intro pins s σ H D I h;refine wpAny_If (thn (hc pins s σ H _ I h) fun d s1 ⟨H1, I1, q1⟩ => ?_);cases d with
 | true => exact ha pins s1 σ H1 D I1 q1
 | false => exact hb pins s1 σ H1 D I1 q1
end
abbrev TG := V -> St -> Hp -> (St -> Hp -> Prop) -> Prop
abbrev TGs := List V -> St -> Hp -> (St -> Hp -> Prop) -> Prop
def PG (X : Cx) (target : Expr) (t : TG) : Prop :=
 ∀ (pins : List (Addr × Obj)) (s : Shared) (σ : St) (H : Hp) (v : V) (u : Value) (Q : St -> Hp -> Prop), Inv X pins σ H s -> RelV v u -> t v σ H Q ->
  wpAny (model X.prog X.w) X.A (assign target X.env u) (fun _ s' => ∃ σ' H', Inv X pins σ' H' s' /\ Q σ' H') X.xe s
def PGs (X : Cx) (ts : List Expr) (t : TGs) : Prop :=
 ∀ (pins : List (Addr × Obj)) (s : Shared) (σ : St) (H : Hp) (vs : List V) (us : List Value) (Q : St -> Hp -> Prop), Inv X pins σ H s -> Vals vs us -> t vs σ H Q ->
  wpAny (model X.prog X.w) X.A (assignInOrder ((my1 ts X.env).map (·.2)) us) (fun _ s' => ∃ σ' H', Inv X pins σ' H' s' /\ Q σ' H') X.xe s
abbrev TSet := V -> V -> V -> Hp -> (Hp -> Prop) -> Prop
def PSet (X : Cx) (t : TSet) : Prop :=
 ∀ (pins : List (Addr × Obj)) (s : Shared) (σ : St) (H : Hp) (o i v : V) (ov iv u : Value) (Q : Hp -> Prop), Inv X pins σ H s -> RelV o ov -> RelV i iv -> RelV v u -> t o i v H Q ->
  wpAny (model X.prog X.w) X.A (setItem ov iv u) (fun _ s' => ∃ H', Inv X pins σ H' s' /\ Q H') X.xe s
section
variable {X : Cx} {pos : Pos}
def zn2 (i : Nat) : TG := fun v σ H Q => Q (σ.set i (some v)) H
theorem zt9 {i : Nat} {x : Str} (hN : X.N.Nodup) (hi : X.N[i]? = some x) (hx : Loc X.env.scope x) (hf : X.fn x = true \/ X.env.scope.names.lookup x = some .local := by first | exact .inl rfl | exact .inr rfl | assumption) : PG X (.Name x pos) (zn2 i) := by
 intro pins s σ H v u Q I r h;exact wpAny_assign_Name (zN6 I hN hi hx r (fun s' I' => ⟨_, H, I', h⟩) hf)
def gNil : TGs := fun vs σ H Q => vs = [] /\ Q σ H
def zR7 (t : TG) (u : TGs) : TGs := fun vs σ H Q => ∃ v r, vs = v :: r /\ t v σ H fun σ' H' => u r σ' H' Q
theorem zY3 : PGs X [] gNil := by
 intro pins s σ H vs us Q I r h;obtain ⟨e, h⟩ := h;subst e;cases r;exact assignInOrder_nil ⟨σ, H, I, h⟩
theorem zN7 {e : Expr} {es : List Expr} {t : TG} {u : TGs} (h1 : PG X e t) (h2 : PGs X es u)
  (hs : (my1 (e :: es) X.env).map (·.2) = assign e X.env :: (my1 es X.env).map (·.2) := by rfl) : PGs X (e :: es) (zR7 t u) := by
 intro pins s σ H vs us Q I r h;obtain ⟨v, vr, e1, h⟩ := h;subst e1;cases r with
 | cons r rr =>
  rw [hs];refine assignInOrder_cons (thn (h1 pins s σ H _ _ _ I r h) fun _ s1 ⟨σ1, H1, I1, q1⟩ => ?_);exact h2 pins s1 σ1 H1 _ _ Q I1 rr q1
def gTup (K : ay5) (n : Nat) (t : TGs) : TG := fun v σ H Q => ∃ a xs, v = .ref a /\ SqT K H a xs /\ xs.length = n /\ t xs σ H Q
theorem zY4 {es : List Expr} {k : Nat} {t : TGs} {n : Nat} (hc : X.calm = true) (h : PGs X es t)
  (hn : (my1 es X.env).length = n := by rfl) (hst : (my1 es X.env).findIdx? (·.1) = none := by rfl) : PG X (.Tuple es k pos) (gTup X.K n t) := by
 intro pins s σ H v u Q I r hw;obtain ⟨a, xs, e1, hq, hl, hw⟩ := hw;subst e1;cases r;obtain ⟨its, rv, ht, hz⟩ := I.tuple hq;refine assign_Tuple_tuple (I.ok.hd hc) ht (by simp [hn, <- hl, rv.length]) hst fun h' hx => ?_;have I1 : Inv X pins σ H { s with heap := h' } := I.kept (t' := s.toks) fun b o e => hx b o (by6 (by1 e)) e;exact h pins _ σ H xs _ Q I1 (by simpa using rv) hw
def gSub (to ti : TE) (t : TSet) : TG := fun v σ H Q => to σ H fun o H1 => ti σ H1 fun i H2 => t o i v H2 fun H3 => Q σ H3
theorem zd27 {o i : Expr} {to ti : TE} {t : TSet} (ho : PE X o to) (hi : PE X i ti) (hs : PSet X t)
  (ha : ∀ v, assign (.Subscript o i pos) X.env v = (do
   let ov <- holding [v] (eval o X.env)
   let iv <- holding [v, ov] (eval i X.env)
   standAt pos
   holding [v, ov, iv] (setItem ov iv v)
   release [v, ov, iv] []) := by intro _; rfl) : PG X (.Subscript o i pos) (gSub to ti t) := by
 intro pins s σ H v u Q I r h;rw [ha];refine ay0 (ey5 (thn (ho pins s σ H _ I h) fun ov s1 ⟨x, H1, I1, r1, q1⟩ => ?_));refine ay0 (ey5 (thn (hi pins s1 σ H1 _ I1 q1) fun iv s2 ⟨y, H2, I2, r2, q2⟩ => ?_));refine ay0 (ly5 (ay0 (ey5 (thn (hs pins s2 σ H2 x y v ov iv u _ I2 r1 r2 r q2) fun _ s3 ⟨H3, I3, q3⟩ => ?_))));exact wpAny_release ⟨σ, H3, I3, q3⟩
def tAsg (te : TE) (g : TG) : TS := fun D σ H => te σ H fun x H1 => g x σ H1 D.nx
theorem zd28 {tg e : Expr} {te : TE} {g : TG} (he : PE X e te) (hg : PG X tg g) (hs : swapsWithSole [tg] e pos.line X.env = pure false := by rfl) (hw : swappedStores [tg] e X.env = pure none := by rfl)
  (h1 : (my1 [tg] X.env).map (·.2) = [assign tg X.env] := by rfl) : PS X (.Assign [tg] e pos) (tAsg te g) := by
 intro pins s σ H D I h;refine wpAny_Assign_stores (thn (he pins s σ H _ I h) fun v s1 ⟨x, H1, I1, r1, q1⟩ => ?_) hs hw;rw [h1];exact thn (hg pins s1 σ H1 x v _ I1 r1 q1) fun _ s2 q => q
theorem zd29 {i : Nat} {x : Str} {e : Expr} {te : TE} {pos' : Pos} (hN : X.N.Nodup) (hi : X.N[i]? = some x) (hx : Loc X.env.scope x) (he : PE X e te) (hs : swapsWith e (some (.Name x pos')) pos.line X.env = pure false := by rfl) (hf : X.fn x = true \/ X.env.scope.names.lookup x = some .local := by first | exact .inl rfl | exact .inr rfl | assumption) :
  PS X (.Assign [.Name x pos'] e pos) (tAsg te (zn2 i)) := by
 intro pins s σ H D I h;refine wpAny_Assign_Name (thn (he pins s σ H _ I h) fun v s1 ⟨y, H1, I1, r1, q1⟩ => ?_) hs;exact zN6 I1 hN hi hx r1 (fun s2 I2 => ⟨_, H1, I2, q1⟩) hf
end
section
variable {X : Cx} {pos : Pos}
def zd30 (c : TT) (tb : TS) : TS := fun D σ H => ∃ W : Nat -> St -> Hp -> Prop, (∃ m, W m σ H) /\ ∀ m σ H, W m σ H ->
 c σ H fun b H1 => if b = true then ∃ N : St -> Hp -> Prop, (∀ σ' H', N σ' H' -> ∃ m', m' < m /\ W m' σ' H') /\ tb { D with nx := N, ct := N, bk := D.nx } σ H1 else D.nx σ H1
theorem zb18 {c : Expr} {body : List Stmt} {tc : TT} {tb : TS} (hp : PassesOwn (model X.prog X.w) X.A X.env X.xe) (hc : PT X c tc) (hb : PSs X body tb) : PS X (.While c body [] pos) (zd30 tc tb) := by
 intro pins s σ H D I h;obtain ⟨W, ⟨m0, w0⟩, turn⟩ := h;refine wpAny_While (codeAny_whileLoop (fun n s' => ∃ σ' H', Inv X pins σ' H' s' /\ W n σ' H') ?_ m0 ⟨σ, H, I, w0⟩);rintro n s1 ⟨σ1, H1, I1, w1⟩;refine ry7 hp (thn (hc pins s1 σ1 H1 _ I1 (turn n σ1 H1 w1)) fun b s2 ⟨H2, I2, q2⟩ => ?_);cases b with
 | true =>
  obtain ⟨N, hN, q2⟩ := q2;rw [if_pos rfl];refine ry7 hp (thn (hb pins s2 σ1 H2 _ I2 q2) fun f s3 q3 => ?_);cases f with
  | next =>
   obtain ⟨σ3, H3, I3, n3⟩ := q3;obtain ⟨m', hm, w3⟩ := hN σ3 H3 n3;exact ⟨m', hm, σ3, H3, I3, w3⟩
  | cont =>
   obtain ⟨σ3, H3, I3, n3⟩ := q3;obtain ⟨m', hm, w3⟩ := hN σ3 H3 n3;exact ⟨m', hm, σ3, H3, I3, w3⟩
  | brk => exact q3
  | ret v => exact q3
 | false =>
  rw [if_neg by9];exact wpAny_execs_nil ⟨σ1, H2, I2, q2⟩
end
structure It where
 go : Nat -> Hp -> Prop
 yld : Nat -> Hp -> V -> Hp -> Prop
 stop : Nat -> Hp -> Prop
def zs4 (X : Cx) (pins : List (Addr × Obj)) (H : Hp) (b : Addr) : Prop :=
 H b = none /\ b ≠ X.env.locals /\ b ∉ X.fs /\ (b ∈ X.ex \/ X.s₀.heap.objs.size <= b) /\ (∀ x c, X.env.cells.lookup x = some c -> c ≠ b) /\ ∀ p ∈ X.pn ++ pins, p.1 ≠ b
theorem Inv.zY5 {X : Cx} {pins : List (Addr × Obj)} {σ : St} {H H' : Hp} {s : Shared} {b : Addr} (I : Inv X pins σ H s) (hb : s.heap.objs.size <= b) (hn : H' b = none) : zs4 X pins H' b := by
 refine ⟨hn, ky5 (by8 I.lt hb), I.nofs hb, .inr (dy9 I.sz hb), fun x c e z => ?_, fun p hp z => ?_⟩
 ·obtain ⟨v, q⟩ := I.cell x c e;exact absurd (by8 q.lt (by rw [z]; exact hb)) (ny2 _)
 ·exact absurd (by8 (by1 (I.pin p hp).1) (by rw [z]; exact hb)) (ny2 _)
structure Turn (P : cy8) (w : World) (K : ay5) (tg : Expr) (J : It) (fp : List Addr) (it : Addr) (tn : Nat -> Heap -> Prop) : Prop where
 mem : it ∈ fp
 obj : ∀ i h, tn i h -> ∀ b ∈ fp, ∃ o, h.get? b = some o /\ ∀ v, o.data ≠ .cell v
 keep : ∀ i h h', tn i h -> (∀ b ∈ fp, ∀ o, h.get? b = some o -> h'.get? b = some o) -> tn i h'
 item : ∀ (X : Cx), X.prog = P -> X.w = w -> X.K = K -> X.calm = true -> ∀ (i : Nat) (pins : List (Addr × Obj)) (s : Shared) (σ : St) (H : Hp) (E : Value -> Shared -> Prop), Inv X pins σ H s -> (∀ b ∈ fp, zs4 X pins H b) -> tn i s.heap -> J.go i H ->
  wpAny (model P w) X.A (pyNext (.ref it)) (fun r s1 => ∃ u, r = some u /\
   wpAny (model P w) X.A (py6 tg (.ref it) u) (fun _ s2 => ∃ x H', Inv X pins σ H' s2 /\ RelV x u /\ J.yld i H x H' /\ tn (i + 1) s2.heap /\ ∀ b ∈ fp, H' b = none) E s1) E s
 done : ∀ (X : Cx), X.prog = P -> X.w = w -> X.K = K -> X.calm = true -> ∀ (i : Nat) (pins : List (Addr × Obj)) (s : Shared) (σ : St) (H : Hp) (E : Value -> Shared -> Prop), Inv X pins σ H s -> (∀ b ∈ fp, zs4 X pins H b) -> tn i s.heap -> J.stop i H ->
  wpAny (model P w) X.A (pyNext (.ref it)) (fun r s1 => r = none /\ Inv X pins σ H s1) E s
 self : ∀ (A : Around) (i : Nat) (s : Shared) (Q : Value -> Shared -> Prop) (E : Value -> Shared -> Prop), tn i s.heap -> Q (.ref it) s -> wpAny (model P w) A (pyIter (.ref it)) Q E s
abbrev TI := St -> Hp -> (It -> Hp -> Prop) -> Prop
def PIE (X : Cx) (pins : List (Addr × Obj)) (σ : St) (tg : Expr) (R : It -> Hp -> Prop) (itv : Value) (s2 : Shared) : Prop :=
 ∃ (it : Addr) (fp : List Addr) (tn : Nat -> Heap -> Prop) (J : It) (H' : Hp), itv = .ref it /\ Inv X pins σ H' s2 /\ Turn X.prog X.w X.K tg J fp it tn /\ tn 0 s2.heap /\ (∀ b ∈ fp, zs4 X pins H' b) /\ R J H'
def PI (X : Cx) (tg iter : Expr) (wi : TI) : Prop :=
 ∀ (pins : List (Addr × Obj)) (s : Shared) (σ : St) (H : Hp) (R : It -> Hp -> Prop), Inv X pins σ H s -> wi σ H R ->
  wpAny (model X.prog X.w) X.A (eval iter X.env) (fun v s1 => wpAny (model X.prog X.w) X.A (pyIter v) (PIE X pins σ tg R) X.xe s1) X.xe s
theorem zJ4 {M : Model} {A : Around} {E : Value -> Shared -> Prop} {s : Shared} {tg : Expr} {it : Addr} {u : Value} {o : Obj} {n : String} {vs : Array Value} {Q : Unit -> Shared -> Prop} (ho : s.heap.get? it = some o) (hc : o.cls = .type n) (hd : o.data = .fields vs)
    (hn : ["enumerate", "zip", "dict_itemiterator", "dict_reverseitemiterator", "odict_iterator", "itertools.zip_longest", "itertools.pairwise"].contains n = false) (hQ : Q () s) : wpAny M A (py6 tg (.ref it) u) Q E s := by
  unfold letOwnedTupleGo
  cases tg <;> first
    | exact ay2 hQ
    | (cases u <;> first
        | exact ay2 hQ
        | (refine ay0 (wpAny_load ho ?_)
           rw [hc, hd];show wpAny M A (if (["enumerate", "zip", "dict_itemiterator", "dict_reverseitemiterator", "odict_iterator", "itertools.zip_longest", "itertools.pairwise"].contains n && vs[0]? == some (rawInt _)) = true then _ else _) Q E s;rw [if_neg (by intro h; rw [hn, qy9] at h; cases h)]
           exact ay2 hQ))
def Itl (K : ay5) (a : Addr) : It :=
 ⟨fun i H => ∃ xs x, SqL K H a xs /\ xs[i]? = some x, fun i H x H' => H' = H /\ ∀ xs, SqL K H a xs -> xs[i]? = some x, fun i H => ∃ xs, SqL K H a xs /\ xs.length <= i⟩
def Itt (K : ay5) (a : Addr) : It :=
 ⟨fun i H => ∃ xs x, SqT K H a xs /\ xs[i]? = some x, fun i H x H' => H' = H /\ ∀ xs, SqT K H a xs -> xs[i]? = some x, fun i H => ∃ xs, SqT K H a xs /\ xs.length <= i⟩
def Itr (lo : Int) (n : Nat) : It := ⟨fun i _ => i < n, fun i H x H' => H' = H /\ x = .int (lo + i), fun i _ => n <= i⟩
theorem zY6 {P : cy8} {w : World} {K : ay5} {tg : Expr} (a it : Addr) : Turn P w K tg (Itl K a) [it] it (fun i h => h.IsListIter it a i) where
 mem := by simp
 obj := fun i h st b hb => by
  have e : b = it := by simpa using hb
  subst e;obtain ⟨o, e, c, d⟩ := st;exact ⟨o, e, fun v z => by rw [d] at z; cases z⟩
 keep := fun i h h' st k => st.at fun o e => k it (by simp) o e
 item := by
  intro X hP hw hK hc i pins s σ H E I hf st hg;subst hP hw hK;obtain ⟨xs, x, hq, hx⟩ := hg;obtain ⟨its, rv, p, hz⟩ := I.list hq;obtain ⟨u, hu, ru⟩ := rv.get hx;obtain ⟨f0, f1, f2, f3, f4, f5⟩ := hf it (by simp);refine wpAny_pyNext_list_item st p.isList (x := u) (by simpa using hu) fun h' st' sb => ?_;have I1 : Inv X pins σ H { s with heap := h' } := I.turned (t' := s.toks) (fun b o hb e => (sb.2 b hb).trans e) f0 f1 f3 f4 f5;obtain ⟨o, e, c, d⟩ := id st';exact ⟨u, rfl, zJ4 (s := { s with heap := h' }) e c d (by decide) ⟨x, H, I1, ru, ⟨rfl, fun ys hy => by rw [I.zb16 hy hq]; exact hx⟩, st', fun b hb => (hf b hb).1⟩⟩
 done := by
  intro X hP hw hK hc i pins s σ H E I hf st hg;subst hP hw hK;obtain ⟨xs, hq, hx⟩ := hg;obtain ⟨its, rv, p, hz⟩ := I.list hq;obtain ⟨f0, f1, f2, f3, f4, f5⟩ := hf it (by simp);have hl := rv.length;exact wpAny_pyNext_list_end (I.ok.hd hc) st p.isList (by simp; omega) fun h' eb => ⟨rfl, I.turned (t' := s.toks) (fun b o hb e => eb b o hb e) f0 f1 f3 f4 f5⟩
 self := fun _ _ _ _ _ st h => wpAny_pyIter_listiter st h
theorem zR8 {P : cy8} {w : World} {K : ay5} {tg : Expr} (a it : Addr) : Turn P w K tg (Itt K a) [it] it (fun i h => h.IsTupleIter it a i) where
 mem := by simp
 obj := fun i h st b hb => by
  have e : b = it := by simpa using hb
  subst e;obtain ⟨o, e, c, d⟩ := st;exact ⟨o, e, fun v z => by rw [d] at z; cases z⟩
 keep := fun i h h' st k => st.at fun o e => k it (by simp) o e
 item := by
  intro X hP hw hK hc i pins s σ H E I hf st hg;subst hP hw hK;obtain ⟨xs, x, hq, hx⟩ := hg;obtain ⟨its, rv, p, hz⟩ := I.tuple hq;obtain ⟨u, hu, ru⟩ := rv.get hx;obtain ⟨f0, f1, f2, f3, f4, f5⟩ := hf it (by simp);refine wpAny_pyNext_tuple_item st (show s.heap.IsTuple a its.toArray from p) (x := u) (by simpa using hu) fun h' st' sb => ?_;have I1 : Inv X pins σ H { s with heap := h' } := I.turned (t' := s.toks) (fun b o hb e => (sb.2 b hb).trans e) f0 f1 f3 f4 f5;obtain ⟨o, e, c, d⟩ := id st';exact ⟨u, rfl, zJ4 (s := { s with heap := h' }) e c d (by decide) ⟨x, H, I1, ru, ⟨rfl, fun ys hy => by rw [I.zE1 hy hq]; exact hx⟩, st', fun b hb => (hf b hb).1⟩⟩
 done := by
  intro X hP hw hK hc i pins s σ H E I hf st hg;subst hP hw hK;obtain ⟨xs, hq, hx⟩ := hg;obtain ⟨its, rv, p, hz⟩ := I.tuple hq;obtain ⟨f0, f1, f2, f3, f4, f5⟩ := hf it (by simp);have hl := rv.length;exact wpAny_pyNext_tuple_end (I.ok.hd hc) st (show s.heap.IsTuple a its.toArray from p) (by simp; omega) fun h' eb => ⟨rfl, I.turned (t' := s.toks) (fun b o hb e => eb b o hb e) f0 f1 f3 f4 f5⟩
 self := fun _ _ _ _ _ st h => wpAny_pyIter_tupleiter st h
theorem zR9 {P : cy8} {w : World} {K : ay5} {tg : Expr} (it : Addr) (lo : Int) (n : Nat) : Turn P w K tg (Itr lo n) [it] it (fun i h => IsRangeIter h it (lo + (i : Nat) * 1) ((n : Int) - (i : Nat)) 1) where
 mem := by simp
 obj := fun i h st b hb => by
  have e : b = it := by simpa using hb
  subst e
  exact ⟨_, st, fun v z => by
   have z' : Data.fields _ = Data.cell v := z
   cases z'⟩
 keep := fun i h h' st k => k it (by simp) _ st
 item := by
  intro X hP hw hK hc i pins s σ H E I hf st hg;subst hP hw hK;obtain ⟨f0, f1, f2, f3, f4, f5⟩ := hf it (by simp);have W := Walks.range (prog := X.prog) (w := X.w) (I.ok.hd hc) it lo 1 n;refine W.item i s _ _ hg st fun v h' tk hv st' kk => ?_;obtain ⟨t, rfl⟩ := hv;have I1 : Inv X pins σ H { s with heap := h', toks := tk } := I.turned (fun b o hb e => kk b o (by simpa using hb) e) f0 f1 f3 f4 f5;refine ⟨_, rfl, zJ4 (s := { s with heap := h', toks := tk }) (n := "range_iterator") st' rfl rfl (by decide) ⟨.int (lo + i), H, I1, ⟨t, ?_⟩, ⟨rfl, rfl⟩, st', fun b hb => (hf b hb).1⟩⟩;rw [Int.mul_one]
 done := by
  intro X hP hw hK hc i pins s σ H E I hf st hg;subst hP hw hK;obtain ⟨f0, f1, f2, f3, f4, f5⟩ := hf it (by simp);exact wpAny_pyNext_range_end (I.ok.hd hc) st (by have : n <= i := hg; omega) fun h' eb => ⟨rfl, I.turned (t' := s.toks) (fun b o hb e => eb b o hb e) f0 f1 f3 f4 f5⟩
 self := fun _ _ _ _ _ st h => wpAny_pyIter_rangeiter st h
section
variable {X : Cx} {tg : Expr}
def ze37 (K : ay5) (tl : TE) : TI := fun σ H R => tl σ H fun x H1 => ∃ a, x = .ref a /\ (∃ xs, SqL K H1 a xs) /\ R (Itl K a) H1
def iTup (K : ay5) (tl : TE) : TI := fun σ H R => tl σ H fun x H1 => ∃ a, x = .ref a /\ (∃ xs, SqT K H1 a xs) /\ R (Itt K a) H1
theorem zY7 {l : Expr} {tl : TE} (hl : PE X l tl) : PI X tg l (ze37 X.K tl) := by
 intro pins s σ H R I h;refine thn (hl pins s σ H _ I h) fun v s1 zR => ?_;obtain ⟨x, H1, I1, r1, q1⟩ := zR;obtain ⟨a, e, ⟨xs, hq⟩, q⟩ := q1;subst e;cases r1;obtain ⟨its, rv, p, hz⟩ := I1.list hq;refine vy5 p.isList ?_;refine ⟨s1.heap.objs.size, [s1.heap.objs.size], _, _, H1, rfl, I1.kept (t' := s1.toks) fun b o e => ay1 _ e, zY6 a _, ⟨_, ay7 _ rfl, rfl, rfl⟩, fun b hb => ?_, q⟩;have e : b = s1.heap.objs.size := by simpa using hb
 subst e;exact I1.zY5 (ay6 _) (I1.hok.fresh (ay6 _))
theorem zb95 {l : Expr} {tl : TE} (hl : PE X l tl) : PI X tg l (iTup X.K tl) := by
 intro pins s σ H R I h;refine thn (hl pins s σ H _ I h) fun v s1 zR => ?_;obtain ⟨x, H1, I1, r1, q1⟩ := zR;obtain ⟨a, e, ⟨xs, hq⟩, q⟩ := q1;subst e;cases r1;obtain ⟨its, rv, p, hz⟩ := I1.tuple hq;refine wpAny_pyIter_tuple (show s1.heap.IsTuple a its.toArray from p) ?_;refine ⟨s1.heap.objs.size, [s1.heap.objs.size], _, _, H1, rfl, I1.kept (t' := s1.toks) fun b o e => ay1 _ e, zR8 a _, ⟨_, ay7 _ rfl, rfl, rfl⟩, fun b hb => ?_, q⟩;have e : b = s1.heap.objs.size := by simpa using hb
 subst e;exact I1.zY5 (ay6 _) (I1.hok.fresh (ay6 _))
theorem zb19 {pins : List (Addr × Obj)} {σ : St} {H : Hp} {s : Shared} {R : It -> Hp -> Prop} {E : Value -> Shared -> Prop} {lo hi : Int} {t u v : Tok} {tk : Nat} (I : Inv X pins σ H s) (h1 : -(2 ^ 62) <= lo) (h2 : lo < 2 ^ 62) (h3 : -(2 ^ 62) <= hi) (h4 : hi < 2 ^ 62)
  (q : R (Itr lo (hi - lo).toNat) H) : wpAny (model X.prog X.w) X.A (pyIter (.ref s.heap.objs.size)) (PIE X pins σ tg R) E { s with heap := s.heap.push { cls := .type "range", data := .fields #[.int lo t, .int hi u, .int 1 v] }, toks := tk } := by
 refine wpAny_pyIter_range (IsRange.new ..) (small_one h1 h2 h3 h4) ?_;have I1 : Inv X pins σ H { s with heap := s.heap.push { cls := .type "range", data := .fields #[.int lo t, .int hi u, .int 1 v] }, toks := tk } := I.kept fun b o e => ay1 _ e
 refine ⟨(s.heap.push { cls := .type "range", data := .fields #[.int lo t, .int hi u, .int 1 v] }).objs.size, [(s.heap.push { cls := .type "range", data := .fields #[.int lo t, .int hi u, .int 1 v] }).objs.size], _, _, H, rfl,
  I1.kept (t' := tk) fun b o e => ay1 _ e, zR9 _ lo (hi - lo).toNat, ?_, fun b hb => ?_, q⟩
 ·have e1 : lo + ((0 : Nat) : Int) * 1 = lo := by simp
  have e2 : (((hi - lo).toNat : Nat) : Int) - ((0 : Nat) : Int) = Builtin.Range.rangeSize lo hi 1 := by rw [rangeSize_one]; split <;> omega
  show IsRangeIter _ _ (lo + ((0 : Nat) : Int) * 1) ((((hi - lo).toNat : Nat) : Int) - ((0 : Nat) : Int)) 1;rw [e1, e2];exact ay7 _ rfl
 ·have e : b = (s.heap.push { cls := .type "range", data := .fields #[.int lo t, .int hi u, .int 1 v] }).objs.size := by simpa using hb
  subst e;exact I1.zY5 (ay6 _) (I1.hok.fresh (ay6 _))
def ze38 (ta : TA) : TI := fun σ H R => ta σ H fun vs H1 => ∃ j : Int, vs = [.int j] /\ -(2 ^ 62) <= j /\ j < 2 ^ 62 /\ R (Itr 0 j.toNat) H1
theorem zY8 {a : Expr} {ta : TA} {p pos : Pos} (hg : Gl X "range") (hm : X.mg "range" = none) (ha : PA X [a] ta) (hs : fy6 [a] X.env = [(false, eval a X.env)] := by rfl) : PI X tg (.Call (.Name "range" p) [a] [] pos) (ze38 ta) := by
 intro pins s σ H R I h;refine Call_ (zE0 I hg hm boot_range (uy5 (thn (ha pos pins s σ H _ I h) fun us s1 ⟨vs, H1, I1, r1, q1⟩ => ?_) hs rfl));obtain ⟨j, e, q1, q2, q⟩ := q1;subst e;cases r1 with
 | cons r rr =>
  cases rr;obtain ⟨t, rfl⟩ := r;exact call_range_1 (zb19 I1 (by omega) (by omega) q1 q2 (by simpa using q))
def tFor (wi : TI) (g : TG) (tb : TS) : TS := fun D σ H => wi σ H fun J H1 => ∃ W : Nat -> Nat -> St -> Hp -> Prop, (∃ m, W 0 m σ H1) /\ ∀ i m σ H, W i m σ H ->
 (J.stop i H /\ D.nx σ H) \/ (J.go i H /\ ∃ N : St -> Hp -> Prop, (∀ σ' H', N σ' H' -> ∃ m', m' < m /\ W (i + 1) m' σ' H') /\ ∀ x H', J.yld i H x H' -> g x σ H' fun σ2 H2 => tb { D with nx := N, ct := N, bk := D.nx } σ2 H2)
def ze6 (fp : List Addr) (h : Heap) : List (Addr × Obj) := fp.filterMap fun b => (h.get? b).map fun o => (b, o)
theorem ze0 {fp : List Addr} {h : Heap} {b : Addr} {o : Obj} (hb : b ∈ fp) (e : h.get? b = some o) : (b, o) ∈ ze6 fp h := List.mem_filterMap.mpr ⟨b, hb, by rw [e]; rfl⟩
theorem zg2 {fp : List Addr} {h : Heap} {p : Addr × Obj} (hp : p ∈ ze6 fp h) : p.1 ∈ fp /\ h.get? p.1 = some p.2 := by
 obtain ⟨b, hb, e⟩ := List.mem_filterMap.mp hp;cases q : h.get? b with
 | none => rw [q] at e; cases e
 | some o =>
  rw [q] at e;have e' : (b, o) = p := jy2 e;subst e';exact ⟨hb, q⟩
theorem Inv.pinned {pins : List (Addr × Obj)} {σ : St} {H : Hp} {s : Shared} {fp : List Addr} (I : Inv X pins σ H s) (hf : ∀ b ∈ fp, zs4 X pins H b) (ho : ∀ b ∈ fp, ∃ o, s.heap.get? b = some o /\ ∀ v, o.data ≠ .cell v) : Inv X (pins ++ ze6 fp s.heap) σ H s :=
 I.zk9 fun p hp => (ey0.mp hp).elim (fun z => I.pin p (dy1 _ z)) fun z => by
  obtain ⟨hb, e⟩ := zg2 z;obtain ⟨f0, f1, f2, _⟩ := hf p.1 hb;obtain ⟨o, e', d⟩ := ho p.1 hb;rw [e] at e'; cases e';exact ⟨e, f0, f1, f2, d⟩
theorem Inv.zz1 {pins pl : List (Addr × Obj)} {σ : St} {H : Hp} {s : Shared} (I : Inv X (pins ++ pl) σ H s) : Inv X pins σ H s := I.zk9 fun p hp => I.pin p (dy1 _ (my0 _ hp))
theorem zb96 {iter : Expr} {body : List Stmt} {wi : TI} {g : TG} {tb : TS} {pos : Pos} (hp : PassesOwn (model X.prog X.w) X.A X.env X.xe) (hc : X.calm = true) (hi : PI X tg iter wi) (hg : PG X tg g) (hb : PSs X body tb)
  (hs : ∀ x, ey1 iter X.env x = pure x := by intro _; rfl) : PS X (.For tg iter body [] pos) (tFor wi g tb) := by
 intro pins s σ H D I h;refine wpAny_For (thn (hi pins s σ H _ I h) fun v s1 h1 => thn h1 fun itv s2 h2 => ?_) hs;obtain ⟨it, fp, tn, J, H2, e, I2, T, st2, f2, W, ⟨m0, w0⟩, turn⟩ := h2;subst e;have stat : ∀ {H' : Hp}, (∀ b ∈ fp, H' b = none) -> ∀ b ∈ fp, zs4 X pins H' b := fun hn b hb => ⟨hn b hb, (f2 b hb).2⟩
 refine codeAny_forLoop_any (fun n s' => ∃ i σ' H', Inv X pins σ' H' s' /\ tn i s'.heap /\ (∀ b ∈ fp, H' b = none) /\ W i n σ' H') ?_ m0 ⟨0, σ, H2, I2, st2, fun b hb => (f2 b hb).1, w0⟩;rintro n s3 ⟨i, σ3, H3, I3, st3, fr3, w3⟩;rcases turn i n σ3 H3 w3 with ⟨stop, qn⟩ | ⟨go, N, hN, step⟩
 ·refine ry7 hp (thn (T.done X rfl rfl rfl hc i pins s3 σ3 H3 X.xe I3 (stat fr3) st3 stop) fun r s4 ⟨hr, I4⟩ => ?_);subst hr;exact wpAny_execs_nil ⟨σ3, H3, I4, qn⟩
 ·refine ry7 hp (thn (T.item X rfl rfl rfl hc i pins s3 σ3 H3 X.xe I3 (stat fr3) st3 go) fun r s4 ⟨u, hr, h4⟩ => ?_);subst hr;refine ry7 hp (thn h4 fun _ s5 ⟨x, H5, I5, r5, y5, st5, fr5⟩ => ?_);have I5' := I5.pinned (stat fr5) (T.obj _ _ st5);refine ry7 hp (thn (hg _ s5 σ3 H5 x u _ I5' r5 (step x H5 y5)) fun _ s6 ⟨σ6, H6, I6, q6⟩ => ?_);refine ry7 hp (thn (hb _ s6 σ6 H6 _ I6 q6) fun f s7 q7 => ?_)
  have again : ∀ {σ7 : St} {H7 : Hp}, Inv X (pins ++ ze6 fp s5.heap) σ7 H7 s7 -> N σ7 H7 -> ∃ m, m < n /\ ∃ i σ' H', Inv X pins σ' H' s7 /\ tn i s7.heap /\ (∀ b ∈ fp, H' b = none) /\ W i m σ' H' := fun {σ7 H7} I7 n7 => by
   obtain ⟨m', hm, w7⟩ := hN σ7 H7 n7;refine ⟨m', hm, i + 1, σ7, H7, I7.zz1, T.keep _ _ _ st5 fun b hb o e => (I7.pin (b, o) (dy1 _ (dy1 _ (ze0 hb e)))).1, fun b hb => ?_, w7⟩;obtain ⟨o, e, d⟩ := T.obj _ _ st5 b hb;exact (I7.pin (b, o) (dy1 _ (dy1 _ (ze0 hb e)))).2.1
  cases f with
  | next => obtain ⟨σ7, H7, I7, n7⟩ := q7; exact again I7 n7
  | cont => obtain ⟨σ7, H7, I7, n7⟩ := q7; exact again I7 n7
  | brk => obtain ⟨σ7, H7, I7, q7⟩ := q7; exact ⟨σ7, H7, I7.zz1, q7⟩
  | ret v => obtain ⟨x7, σ7, H7, I7, r7, q7⟩ := q7; exact ⟨x7, σ7, H7, I7.zz1, r7, q7⟩
end
abbrev R2 := V -> V -> Hp -> VK -> Prop
def OpR (X : Cx) (f : Value -> Value -> Sem Value) (r : R2) : Prop :=
 ∀ (pins : List (Addr × Obj)) (s : Shared) (σ : St) (H : Hp) (x y : V) (v u : Value) (Q : VK), Inv X pins σ H s -> RelV x v -> RelV y u -> r x y H Q ->
  wpAny (model X.prog X.w) X.A (f v u) (EP X pins σ Q) X.xe s
def UnR (X : Cx) (f : Value -> Sem Value) (r : V -> Hp -> VK -> Prop) : Prop :=
 ∀ (pins : List (Addr × Obj)) (s : Shared) (σ : St) (H : Hp) (x : V) (v : Value) (Q : VK), Inv X pins σ H s -> RelV x v -> r x H Q ->
  wpAny (model X.prog X.w) X.A (f v) (EP X pins σ Q) X.xe s
def zj0 (X : Cx) (f : Value) (r : List V -> Hp -> VK -> Prop) : Prop :=
 ∀ (pins : List (Addr × Obj)) (s : Shared) (σ : St) (H : Hp) (xs : List V) (us : List Value) (Q : VK), Inv X pins σ H s -> Vals xs us -> r xs H Q ->
  wpAny (model X.prog X.w) X.A (call f us) (EP X pins σ Q) X.xe s
def TruR (X : Cx) (r : V -> Hp -> (Bool -> Hp -> Prop) -> Prop) : Prop :=
 ∀ (pins : List (Addr × Obj)) (s : Shared) (σ : St) (H : Hp) (x : V) (v : Value) (Q : Bool -> Hp -> Prop), Inv X pins σ H s -> RelV x v -> r x H Q ->
  wpAny (model X.prog X.w) X.A (truthy v) (TP X pins σ Q) X.xe s
def tOp (r : R2) (ta tb : TE) : TE := fun σ H Q => ta σ H fun x H1 => tb σ H1 fun y H2 => r x y H2 Q
def tUn (r : V -> Hp -> VK -> Prop) (ta : TE) : TE := fun σ H Q => ta σ H fun x H1 => r x H1 Q
def rI (C : Int -> Int -> Prop) (g : Int -> Int -> V) : R2 := fun x y H Q => ∃ i j, x = .int i /\ y = .int j /\ C i j /\ Q (g i j) H
def rI0 (g : Int -> Int -> V) : R2 := fun x y H Q => ∃ i j, x = .int i /\ y = .int j /\ Q (g i j) H
def rU (g : Int -> V) : V -> Hp -> VK -> Prop := fun x H Q => ∃ i, x = .int i /\ Q (g i) H
section
variable {X : Cx} {a b c : Expr} {ta tb tc : TE} {pos : Pos}
theorem binT (ha : PE X a ta) (hb : PE X b tb) {pins : List (Addr × Obj)} {s : Shared} {σ : St} {H : Hp} {R : V -> V -> Hp -> Prop} (I : Inv X pins σ H s)
  (h : ta σ H fun x H1 => tb σ H1 fun y H2 => R x y H2) {Q : Value -> Shared -> Prop} {f : Value -> Value -> Sem Value}
  (hf : ∀ v u s2 x y H2, Inv X pins σ H2 s2 -> RelV x v -> RelV y u -> R x y H2 -> wpAny (model X.prog X.w) X.A (f v u) Q X.xe s2) :
  wpAny (model X.prog X.w) X.A (eval a X.env) (fun v s₁ => wpAny (model X.prog X.w) X.A (eval b X.env) (fun u s₂ => wpAny (model X.prog X.w) X.A (f v u) Q X.xe s₂) X.xe s₁) X.xe s := by
 refine thn (ha pins s σ H _ I h) fun v s1 zR => ?_;obtain ⟨x, H1, I1, r1, q1⟩ := zR;refine thn (hb pins s1 σ H1 _ I1 q1) fun u s2 zR => ?_;obtain ⟨y, H2, I2, r2, q2⟩ := zR;exact hf v u s2 x y H2 I2 r1 r2 q2
theorem ze40 {op : Operator} {r : R2} (ho : OpR X (oy3 op) r) (ha : PE X a ta) (hb : PE X b tb) : PE X (.BinOp a op b pos) (tOp r ta tb) := by
 intro pins s σ H Q I h;exact wpAny_BinOp (binT ha hb I h fun v u s2 x y H2 I2 rx ry q => ho pins s2 σ H2 x y v u Q I2 rx ry q)
theorem ze41 {op : UnaryOp} {r : V -> Hp -> VK -> Prop} (ho : UnR X (unaryOp op) r) (ha : PE X a ta) : PE X (.UnaryOp op a pos) (tUn r ta) := by
 intro pins s σ H Q I h;exact UnaryOp_ (thn (ha pins s σ H _ I h) fun v s1 ⟨x, H1, I1, r1, q1⟩ => ho pins s1 σ H1 x v Q I1 r1 q1)
theorem opI {f : Value -> Value -> Sem Value} {C : Int -> Int -> Prop} {g : Int -> Int -> Int}
  (rule : ∀ (i j : Int) (t u : Tok) (s : Shared) (Q : Value -> Shared -> Prop) (E : Value -> Shared -> Prop), C i j -> Q (.int (g i j) s.toks) { s with toks := s.toks + 1 } -> wpAny (model X.prog X.w) X.A (f (.int i t) (.int j u)) Q E s) :
  OpR X f (rI C fun i j => .int (g i j)) := by
 intro pins s σ H x y v u Q I rx ry h;obtain ⟨i, j, rfl, rfl, hc, q⟩ := h;obtain ⟨t, rfl⟩ := rx;obtain ⟨t', rfl⟩ := ry;exact rule i j t t' s _ _ hc ⟨.int (g i j), H, I.tok _, ⟨_, rfl⟩, q⟩
theorem opI0 {f : Value -> Value -> Sem Value} {g : Int -> Int -> Int}
  (rule : ∀ (i j : Int) (t u : Tok) (s : Shared) (Q : Value -> Shared -> Prop) (E : Value -> Shared -> Prop), Q (.int (g i j) s.toks) { s with toks := s.toks + 1 } -> wpAny (model X.prog X.w) X.A (f (.int i t) (.int j u)) Q E s) :
  OpR X f (rI0 fun i j => .int (g i j)) := by
 intro pins s σ H x y v u Q I rx ry h;obtain ⟨i, j, rfl, rfl, q⟩ := h;obtain ⟨t, rfl⟩ := rx;obtain ⟨t', rfl⟩ := ry;exact rule i j t t' s _ _ ⟨.int (g i j), H, I.tok _, ⟨_, rfl⟩, q⟩
theorem opB0 {f : Value -> Value -> Sem Value} {g : Int -> Int -> Bool}
  (rule : ∀ (i j : Int) (t u : Tok) (s : Shared) (Q : Value -> Shared -> Prop) (E : Value -> Shared -> Prop), Q (.bool (g i j)) s -> wpAny (model X.prog X.w) X.A (f (.int i t) (.int j u)) Q E s) :
  OpR X f (rI0 fun i j => .bl (g i j)) := by
 intro pins s σ H x y v u Q I rx ry h;obtain ⟨i, j, rfl, rfl, q⟩ := h;obtain ⟨t, rfl⟩ := rx;obtain ⟨t', rfl⟩ := ry;exact rule i j t t' s _ _ ⟨.bl (g i j), H, I, rfl, q⟩
def CDiv (i j : Int) : Prop := 0 < j /\ j < 1073741824
def CPow (i j : Int) : Prop := 0 <= j /\ j <= 1000000 /\ i.natAbs < 2 ^ 64
def CMul (i j : Int) : Prop := (-(2 ^ 64) < i /\ i < 2 ^ 64) \/ (-(2 ^ 64) < j /\ j < 2 ^ 64)
theorem CMul.ok {i j : Int} (h : CMul i j) : IntMulOk i j := by
 rcases h with ⟨h1, h2⟩ | ⟨h1, h2⟩
 ·exact .of_left (intBits_le_64 h1 h2)
 ·exact .of_right (intBits_le_64 h1 h2)
theorem zd31 : OpR X (oy3 .Add) (rI0 fun i j => .int (i + j)) := opI0 fun _ _ _ _ _ _ _ q => add_int q
theorem zd32 : OpR X (oy3 .Sub) (rI0 fun i j => .int (i - j)) := opI0 fun _ _ _ _ _ _ _ q => sub_int q
theorem zd33 : OpR X (oy3 .Mult) (rI CMul fun i j => .int (i * j)) := opI fun _ _ _ _ _ _ _ hc q => mul_int q hc.ok
theorem zd34 : OpR X (oy3 .Mod) (rI (fun _ j => 0 < j) fun i j => .int (i % j)) := opI fun i j _ _ _ _ _ hc q => by
 have h1 : (0 : Int) < j := hc;exact mod_int' (by omega) (by rw [Int.fmod_eq_emod_of_nonneg i (by omega)]; exact q)
theorem zd35 : OpR X (oy3 .Pow) (rI CPow fun i j => .int (i ^ j.toNat)) := opI fun _ _ _ _ _ _ _ hc q => pow_int_small hc.1 hc.2.1 hc.2.2 q
theorem unI {f : Value -> Sem Value} {g : Int -> Int}
  (rule : ∀ (i : Int) (t : Tok) (s : Shared) (Q : Value -> Shared -> Prop) (E : Value -> Shared -> Prop), Q (.int (g i) s.toks) { s with toks := s.toks + 1 } -> wpAny (model X.prog X.w) X.A (f (.int i t)) Q E s) :
  UnR X f (rU fun i => .int (g i)) := by
 intro pins s σ H x v Q I rx h;obtain ⟨i, rfl, q⟩ := h;obtain ⟨t, rfl⟩ := rx;exact rule i t s _ _ ⟨.int (g i), H, I.tok _, ⟨_, rfl⟩, q⟩
theorem zd36 : UnR X (unaryOp .USub) (rU fun i => .int (-i)) := unI fun _ _ _ _ _ q => neg_int q
end
def scal : V -> V -> Bool
 | .non, .non => true | .non, .int _ => true | .int _, .non => true | .non, .bl _ => true | .bl _, .non => true | .non, .str _ => true | .str _, .non => true
 | .int _, .int _ => true | .bl _, .bl _ => true | .str _, .str _ => true | .byt _, .byt _ => true
 | .int _, .str _ => true | .str _, .int _ => true | .bl _, .str _ => true | .str _, .bl _ => true
 | _, _ => false
def rEq : R2 := fun x y H Q => scal x y = true /\ Q (.bl (decide (x = y))) H
def rNe : R2 := fun x y H Q => scal x y = true /\ Q (.bl (!decide (x = y))) H
theorem zY9 {i j : Int} : decide (V.int i = V.int j) = (i == j) := by
 rw [ry8];simp
theorem zb97 {i j : Bool} : decide (V.bl i = V.bl j) = (i == j) := by
 rw [ry8];simp
theorem zZ0 {i j : Str} : decide (V.str i = V.str j) = (i == j) := by
 rw [ry8];simp
theorem zZ1 {i j : Array UInt8} : decide (V.byt i = V.byt j) = (i.toList == j.toList) := by
 rw [ry8];cases i;cases j;simp
section
variable {X : Cx} {a b c : Expr} {ta tb tc : TE} {pos : Pos}
theorem zc8 {pins : List (Addr × Obj)} {σ : St} {H : Hp} {s : Shared} {Q : VK} {k k' : Bool} (I : Inv X pins σ H s) (q : Q (.bl k) H) (e : k = k') : EP X pins σ Q (.bool k') s := by
 subst e;exact ⟨.bl k, H, I, rfl, q⟩
theorem zd37 : OpR X (hy5 .Eq) rEq := by
 intro pins s σ H x y v u Q I rx ry h;obtain ⟨hs, q⟩ := h;cases x with
 | non =>
  cases rx;cases y with
  | non => cases ry; exact PySem.EqNone.eq_none_none (zc8 I q (by simp))
  | bl j => cases ry; exact PySem.EqNone.eq_none_bool (zc8 I q (by simp))
  | int j => obtain ⟨t', rfl⟩ := ry; exact PySem.EqNone.eq_none_int (zc8 I q (by simp))
  | str j => obtain ⟨t', rfl⟩ := ry; exact PySem.EqNone.eq_none_str (zc8 I q (by simp))
  | _ => exact absurd (show false = true from hs) by9
 | bl i =>
  cases rx;cases y with
  | non => cases ry; exact PySem.EqNone.eq_bool_none (zc8 I q (by simp))
  | bl j => cases ry; exact eq_bool (zc8 I q zb97)
  | str j => obtain ⟨t', rfl⟩ := ry; exact PySem.EqMixed.eq_bool_str (zc8 I q (by simp))
  | _ => exact absurd (show false = true from hs) by9
 | int i =>
  obtain ⟨t, rfl⟩ := rx;cases y with
  | non => cases ry; exact PySem.EqNone.eq_int_none (zc8 I q (by simp))
  | int j => obtain ⟨t', rfl⟩ := ry; exact eq_int (zc8 I q zY9)
  | str j => obtain ⟨t', rfl⟩ := ry; exact PySem.EqMixed.eq_int_str (zc8 I q (by simp))
  | _ => exact absurd (show false = true from hs) by9
 | str i =>
  obtain ⟨t, rfl⟩ := rx;cases y with
  | non => cases ry; exact PySem.EqNone.eq_str_none (zc8 I q (by simp))
  | bl j => cases ry; exact PySem.EqMixed.eq_str_bool (zc8 I q (by simp))
  | int j => obtain ⟨t', rfl⟩ := ry; exact PySem.EqMixed.eq_str_int (zc8 I q (by simp))
  | str j => obtain ⟨t', rfl⟩ := ry; exact eq_str (zc8 I q zZ0)
  | _ => exact absurd (show false = true from hs) by9
 | byt i =>
  obtain ⟨t, rfl⟩ := rx;cases y with
  | byt j => obtain ⟨t', rfl⟩ := ry; exact PySem.W.eq_bytes (zc8 I q zZ1)
  | _ => exact absurd (show false = true from hs) by9
 | _ => cases y <;> exact absurd (show false = true from hs) by9
theorem zd38 : OpR X (hy5 .NotEq) rNe := by
 intro pins s σ H x y v u Q I rx ry h;obtain ⟨hs, q⟩ := h;cases x with
 | non =>
  cases rx;cases y with
  | non => cases ry; exact PySem.EqNone.ne_none_none (zc8 I q (by simp))
  | bl j => cases ry; exact PySem.EqNone.ne_none_bool (zc8 I q (by simp))
  | int j => obtain ⟨t', rfl⟩ := ry; exact PySem.EqNone.ne_none_int (zc8 I q (by simp))
  | str j => obtain ⟨t', rfl⟩ := ry; exact PySem.EqNone.ne_none_str (zc8 I q (by simp))
  | _ => exact absurd (show false = true from hs) by9
 | bl i =>
  cases rx;cases y with
  | non => cases ry; exact PySem.EqNone.ne_bool_none (zc8 I q (by simp))
  | bl j => cases ry; exact ne_bool (zc8 I q (congrArg not zb97))
  | str j => obtain ⟨t', rfl⟩ := ry; exact PySem.EqMixed.ne_bool_str (zc8 I q (by simp))
  | _ => exact absurd (show false = true from hs) by9
 | int i =>
  obtain ⟨t, rfl⟩ := rx;cases y with
  | non => cases ry; exact PySem.EqNone.ne_int_none (zc8 I q (by simp))
  | int j => obtain ⟨t', rfl⟩ := ry; exact ne_int (zc8 I q (congrArg not zY9))
  | str j => obtain ⟨t', rfl⟩ := ry; exact PySem.EqMixed.ne_int_str (zc8 I q (by simp))
  | _ => exact absurd (show false = true from hs) by9
 | str i =>
  obtain ⟨t, rfl⟩ := rx;cases y with
  | non => cases ry; exact PySem.EqNone.ne_str_none (zc8 I q (by simp))
  | bl j => cases ry; exact PySem.EqMixed.ne_str_bool (zc8 I q (by simp))
  | int j => obtain ⟨t', rfl⟩ := ry; exact PySem.EqMixed.ne_str_int (zc8 I q (by simp))
  | str j => obtain ⟨t', rfl⟩ := ry; exact ne_str (zc8 I q (congrArg not zZ0))
  | _ => exact absurd (show false = true from hs) by9
 | byt i =>
  obtain ⟨t, rfl⟩ := rx;cases y with
  | byt j => obtain ⟨t', rfl⟩ := ry; exact PySem.W.ne_bytes (zc8 I q (congrArg not zZ1))
  | _ => exact absurd (show false = true from hs) by9
 | _ => cases y <;> exact absurd (show false = true from hs) by9
theorem ze43 : OpR X (hy5 .Lt) (rI0 fun i j => .bl (decide (i < j))) := opB0 fun _ _ _ _ _ _ _ q => lt_int q
theorem ze44 : OpR X (hy5 .LtE) (rI0 fun i j => .bl (decide (i <= j))) := opB0 fun _ _ _ _ _ _ _ q => le_int q
theorem ze45 : OpR X (hy5 .Gt) (rI0 fun i j => .bl (decide (j < i))) := opB0 fun _ _ _ _ _ _ _ q => gt_int q
theorem zZ2 : OpR X (hy5 .In) (fun x y H Q => ∃ i j, x = .str i /\ y = .str j /\ Q (.bl (!(xy1 j i 0 j.length 1).isEmpty)) H) := by
 intro pins s σ H x y v u Q I rx ry h;obtain ⟨i, j, rfl, rfl, q⟩ := h;obtain ⟨t, rfl⟩ := rx;obtain ⟨t', rfl⟩ := ry;exact in_str (zc8 I q rfl)
theorem zc35 {op : CmpOp} {r : R2} (ho : OpR X (hy5 op) r) (ha : PE X a ta) (hb : PE X b tb) (hm : behindInMarks op b = false) : PE X (.Compare a [op] [b] pos) (tOp r ta tb) := by
 intro pins s σ H Q I h;exact wpAny_Compare1 (binT ha hb I h fun v u s2 x y H2 I2 rx ry q => ho pins s2 σ H2 x y v u Q I2 rx ry q) hm
def zd39 (t : TE) : TT := fun σ H Q => t σ H fun x H' => ∃ k, x = .bl k /\ Q k H'
theorem zc36 {op : CmpOp} {r : R2} (ho : OpR X (hy5 op) r) (ha : PE X a ta) (hb : PE X b tb) (hm : behindInMarks op b = false) : PT X (.Compare a [op] [b] pos) (zd39 (tOp r ta tb)) := by
 intro pins s σ H Q I h
 refine wpAny_isTrue_Compare1 (thn (ha pins s σ H _ I h) fun v s1 ⟨x, H1, I1, r1, q1⟩ => thn (hb pins s1 σ H1 _ I1 q1) fun u s2 ⟨y, H2, I2, r2, q2⟩ =>
  thn (ho pins s2 σ H2 x y v u _ I2 r1 r2 q2) fun c s3 ⟨z, H3, I3, r3, k, e, q3⟩ => ?_) hm
 subst e;cases r3;exact ly0 ⟨H3, I3, q3⟩
def zd40 (r r' : R2) (ta tb tc : TE) : TE := fun σ H Q => ta σ H fun x H1 => tb σ H1 fun y H2 => r x y H2 fun z H3 => ∃ k, z = .bl k /\
 (if k = true then tc σ H3 fun w' H4 => r' y w' H4 Q else Q (.bl false) H3)
theorem zb20 {op op' : CmpOp} {r r' : R2} (ho : OpR X (hy5 op) r) (ho' : OpR X (hy5 op') r') (ha : PE X a ta) (hb : PE X b tb) (hc : PE X c tc)
  (hm : lastMarks [op, op'] [b, c] = false := by with_unfolding_all rfl) : PT X (.Compare a [op, op'] [b, c] pos) (zd39 (zd40 r r' ta tb tc)) := by
 intro pins s σ H Q I h
 refine isTrue_chain (thn (ha pins s σ H _ I h) fun v s1 ⟨x, H1, I1, r1, q1⟩ => test_link (thn (hb pins s1 σ H1 _ I1 q1) fun u s2 ⟨y, H2, I2, r2, q2⟩ =>
  thn (ho pins s2 σ H2 x y v u _ I2 r1 r2 q2) fun d s3 ⟨z, H3, I3, r3, k, e, q3⟩ => ?_)) hm
 subst e;cases r3;refine ly0 ?_;cases k with
 | false =>
  obtain ⟨k', e', q'⟩ := q3;cases e';exact ite_ff ⟨H3, I3, q'⟩
 | true =>
  refine ite_tt (test_last (thn (hc pins s3 σ H3 _ I3 q3) fun w' s4 ⟨z', H4, I4, r4, q4⟩ => thn (ho' pins s4 σ H4 y z' u w' _ I4 r2 r4 q4) fun d' s5 ⟨z2, H5, I5, r5, k2, e2, q5⟩ => ?_));subst e2;cases r5;exact ly0 ⟨H5, I5, q5⟩
def TruV (K : ay5) (x : V) (H : Hp) (k : Bool) : Prop :=
 match x with
 | .non => k = false
 | .bl b => k = b
 | .int i => k = (i != 0)
 | .str y => y.length <= by2 /\ k = ((y.length : Int) != 0)
 | .byt y => y.size <= by2 /\ k = ((y.size : Int) != 0)
 | .ref p => (∃ xs, SqL K H p xs /\ k = !xs.isEmpty) \/ (∃ xs, SqT K H p xs /\ k = !xs.isEmpty) \/ ∃ kvs, H p = some (.dK kvs) /\ k = !kvs.isEmpty
 | _ => False
theorem zS0 {κ : Type} {kvs : List (κ × V)} {vs : List (κ × Value)} (r : KV kvs vs) : (!vs.isEmpty) = !kvs.isEmpty := by
 cases r <;> rfl
theorem zq0 {xs : List V} {its : List Value} (r : Vals xs its) : (!its.toArray.isEmpty) = !xs.isEmpty := by
 cases r <;> simp
theorem zu0 : (by2 : Nat) < 2 ^ 63 := by rw [my8]; decide
theorem zd41 : TruR X (fun x H Q => ∃ k, TruV X.K x H k /\ Q k H) := by
 intro pins s σ H x v Q I rx h;obtain ⟨k, e, q⟩ := h;have hl := zu0;have hs : by2 = 16777216 := my8;cases x with
 | non =>
  cases rx;have e' : k = false := e;subst e';exact truthy_none ⟨H, I, q⟩
 | bl b =>
  cases rx;have e' : k = b := e;subst e';exact ly0 ⟨H, I, q⟩
 | int i =>
  obtain ⟨t, rfl⟩ := rx;have e' : k = (i != 0) := e;subst e';exact PySem.P.truthy_int ⟨H, I, q⟩
 | str y =>
  obtain ⟨t, rfl⟩ := rx;obtain ⟨hy, e'⟩ : y.length <= by2 /\ k = ((y.length : Int) != 0) := e;subst e';exact PySem.P.truthy_str (by omega) ⟨H, I.tok _, q⟩
 | byt y =>
  obtain ⟨t, rfl⟩ := rx;obtain ⟨hy, e'⟩ : y.size <= by2 /\ k = ((y.size : Int) != 0) := e;subst e';exact PySem.W.truthy_bytes (by omega) ⟨H, I.tok _, q⟩
 | ref p =>
  cases rx;have e' : (∃ xs, SqL X.K H p xs /\ k = !xs.isEmpty) \/ (∃ xs, SqT X.K H p xs /\ k = !xs.isEmpty) \/ ∃ kvs, H p = some (.dK kvs) /\ k = !kvs.isEmpty := e;rcases e' with ⟨xs, hx, e'⟩ | ⟨xs, hx, e'⟩ | ⟨kvs, hx, e'⟩
  ·subst e';obtain ⟨its, r, pl, hz⟩ := I.list hx;have hlen := r.length;exact wpAny_truthy_list pl.isList (by simp only [cy0]; omega) ⟨H, I.tok _, by rw [zq0 r]; exact q⟩
  ·subst e';obtain ⟨its, r, pl, hz⟩ := I.tuple hx;have hlen := r.length;exact truthy_tuple pl (by simp only [cy0]; omega) ⟨H, I.tok _, by rw [zq0 r]; exact q⟩
  ·subst e';obtain ⟨hz, hS, vs, r, m⟩ : kvs.length <= by2 /\ (p == ly9) = false /\ ∃ vs, KV kvs vs /\ s.heap.DictOf (zb5 X.prog X.w) p vs := I.hok p _ hx;have hlen : kvs.length = vs.length := Paired.length r;exact wpAny_truthy_dict hS m (by omega) ⟨H, I.tok _, by rw [zS0 r]; exact q⟩
 | _ => exact (show False from e).elim
theorem zb21 (ha : PE X a ta) (he : ∀ whole, isTrue a X.env whole = (do let v <- whole; standAt a.pos; holding [v] (truthy v))) :
  PT X a (fun σ H Q => ta σ H fun x H' => ∃ k, TruV X.K x H' k /\ Q k H') := by
 intro pins s σ H Q I h;exact isTrue_plain (thn (ha pins s σ H _ I h) fun v s1 ⟨x, H1, I1, r1, q1⟩ => zd41 pins s1 σ H1 x v Q I1 r1 q1) (he _)
theorem vals1 {x : V} {us : List Value} (r : Vals [x] us) : ∃ u, us = [u] /\ RelV x u := by
 cases r with
 | cons r1 r2 => cases r2; exact ⟨_, rfl, r1⟩
theorem vals2 {x y : V} {us : List Value} (r : Vals [x, y] us) : ∃ u w', us = [u, w'] /\ RelV x u /\ RelV y w' := by
 cases r with
 | cons r1 r2 =>
  cases r2 with
  | cons r3 r4 => cases r4; exact ⟨_, _, rfl, r1, r3⟩
theorem zZ3 : zj0 X (.type "int") (fun xs H Q => (∃ i, xs = [.int i] /\ Q (.int i) H) \/ ∃ k, xs = [.bl k] /\ Q (.int (if k then 1 else 0)) H) := by
 intro pins s σ H xs us Q I r h;rcases h with ⟨i, rfl, q⟩ | ⟨k, rfl, q⟩
 ·obtain ⟨u, rfl, t, rfl⟩ := vals1 r;exact call_int_int ⟨.int i, H, I, ⟨_, rfl⟩, q⟩
 ·obtain ⟨u, rfl, r1⟩ := vals1 r;cases r1;exact call_int_bool ⟨.int (if k then 1 else 0), H, I.tok _, ⟨_, rfl⟩, q⟩
theorem zJ5 : zj0 X (.builtin "divmod") (fun xs H Q => ∃ i j, xs = [.int i, .int j] /\ CDiv i j /\ ∀ p, H p = none -> Q (.ref p) (upd H p (.tup [.int (i / j), .int (i % j)]))) := by
 intro pins s σ H xs us Q I r h;obtain ⟨i, j, rfl, ⟨h1, h2⟩, q⟩ := h;obtain ⟨u, w', rfl, ⟨t, rfl⟩, ⟨t', rfl⟩⟩ := vals2 r;refine divmod_int (by omega) ?_ (.inl (PyProof.noPylong_small (by omega)));rw [Int.fdiv_eq_ediv_of_nonneg i (by omega), Int.fmod_eq_emod_of_nonneg i (by omega)];have hn : H s.heap.objs.size = none := I.hok.fresh (ay6 _);refine ⟨.ref s.heap.objs.size, _, ?_, rfl, q _ hn⟩;refine I.laid (fun b o e => ay1 _ e) (ay6 _) ⟨by simp only [oy4, List.length_nil]; rw [my8]; decide, [.int (i / j) s.toks, .int (i % j) (s.toks + 1)], .cons ⟨_, rfl⟩ (.cons ⟨_, rfl⟩ .nil), ?_⟩;exact ⟨_, ay7 s.heap rfl, rfl, 0, rfl⟩
end
structure ObjM (h : Heap) (x dx C : Addr) (mA : Str -> Option Value) : Prop where
 obj : h.get? x = some (PySem.W.instObj C dx)
 ns : h.Ns1 dx mA
 ne : dx ≠ x
theorem zZ4 {h : Heap} {dx : Addr} {mA : Str -> Option Value} (n : h.Ns1 dx mA) : ∃ od, h.get? dx = some od /\ ∀ name, PySem.W.lookIn name od = some (mA name) := by
 obtain ⟨o, es, ep, ho, hd, hk, _, hm⟩ := n;refine ⟨o, ho, fun name => ?_⟩;have e := hm name;unfold nsFind findBy at e;rw [<- Array.find?_toList] at e;unfold PySem.W.lookIn;rw [hd];dsimp only
 split
 ·rename_i y q
  rw [q] at e;exact congrArg some e
 ·rename_i q
  rw [q] at e
  have a : es.toList.any (·.refKey) = false := by
   rw [List.any_eq_false];intro y hy;obtain ⟨z, t, hkey⟩ := hk y (Array.mem_toList_iff.mp hy);simp [DictEntry.refKey, hkey]
  have a' : ¬ es.toList.any (·.refKey) = true := by rw [a]; exact by9
  rw [if_neg a'];exact congrArg some e
theorem ObjM.look {h : Heap} {x dx C : Addr} {mA : Str -> Option Value} (I : ObjM h x dx C mA) : ∃ od, PySem.W.InstAt h x (PySem.W.instObj C dx) C (some od) /\ ∀ name, PySem.W.lookIn name od = some (mA name) :=
 let ⟨od, ho, hl⟩ := zZ4 I.ns
 ⟨od, ⟨I.obj, rfl, rfl, ho⟩, hl⟩
section
variable {prog : cy8} {w : World} {A : Around} {E : Value -> Shared -> Prop} {s : Shared} {K : ay5} {x dx C f : Addr} {mA : Str -> Option Value} {name : Str} {v : Value}
end
theorem zz0.some_of {v : V} {o : Option Value} (r : zz0 (some v) o) : ∃ u, o = some u /\ RelV v u := by
 cases o with
 | none => exact (show False from r).elim
 | some u => exact ⟨u, rfl, r⟩
theorem zz0.none_of {o : Option Value} (r : zz0 none o) : o = none := by
 cases o with
 | none => rfl
 | some u => exact (show False from r).elim
section
variable {P : cy8} {w : World} {H H' : Hp} {h h' : Heap} {a C dx : Addr} {fs fs' : List (Str × V)}
theorem zc37 (hok : HOk P w H h) (e : H a = some (.ins C dx fs)) : ∃ mA, ObjM h a dx C mA /\ (∀ f, zz0 (fs.lookup f) (mA f)) /\ PySem.Within mA (fs.map (·.1)) /\ fs.length <= 1000 /\ H dx = some (.own a) := by
 obtain ⟨d, z, ne, ob, mA, n, r, q⟩ := (show zb6 P w H h a (.ins C dx fs) from hok a _ e)
 exact ⟨mA, ⟨ob, n, ne⟩, r, q, z, d⟩
end
structure Cls (K : ay5) (C : Addr) : Prop where
 pg : PySem.W.plainGet K C Str.empty = true
 hd : PySem.W.hasDictIn K C = true
 po : PySem.W.plainOver K C = true
 sa : PySem.W.findIn K (.ref C) "__setattr__" = some (some (.builtin "object.__setattr__"))
theorem Cls.get {K : ay5} {C : Addr} (c : Cls K C) (f : Str) : PySem.W.plainGet K C f = true := c.pg
section
variable {X : Cx} {pins : List (Addr × Obj)} {σ : St} {H : Hp} {s : Shared} {a C dx : Addr} {fs : List (Str × V)} {f : Str} {v : V} {A : Around} {E : Value -> Shared -> Prop}
end
section
variable {X : Cx} {o e value : Expr} {f : Str} {pos pos' tpos : Pos} {ta tv : TE}
end
section
variable {X : Cx} {pins : List (Addr × Obj)} {σ : St} {H : Hp} {s : Shared} {A : Around} {E : Value -> Shared -> Prop} {Q : Value -> Shared -> Prop} {c : Value} {b : Bool}
inductive zX3 (K : ay5) (H : Hp) : V -> Value -> Prop where
 | non : zX3 K H .non (.type "NoneType")
 | bl (x : Bool) : zX3 K H (.bl x) (.type "bool")
 | int (i : Int) : zX3 K H (.int i) (.type "int")
 | str (x : Str) : zX3 K H (.str x) (.type "str")
 | flt (x : UInt64) : zX3 K H (.flt x) (.type "float")
 | lst {a : Addr} {xs : List V} (e : H a = some (.lst xs)) : zX3 K H (.ref a) (.type "list")
 | frz {a : Addr} {o : Obj} {xs : List V} (e : H a = some (.frz o (.lst xs))) : zX3 K H (.ref a) (.type "list")
 | tup {a : Addr} {xs : List V} (e : H a = some (.tup xs)) : zX3 K H (.ref a) (.type "tuple")
 | dK {a : Addr} {kvs : List (Key × V)} (e : H a = some (.dK kvs)) : zX3 K H (.ref a) (.type "dict")
 | dT {a : Addr} {kvs : List (List Key × V)} (e : H a = some (.dT kvs)) : zX3 K H (.ref a) (.type "dict")
 | ins {a C dx : Addr} {fs : List (Str × V)} (e : H a = some (.ins C dx fs)) (cl : Cls K C) (ha : PySem.W.findIn K (.ref C) "__class__" = some (some (.builtin "object.__class__")))
   (hn : PySem.W.specialIn K (.builtin "object.__class__") "__get__" = some (some (.builtin "getset_descriptor.__get__"))) (htk : PySem.W.takesIn K (.builtin "object.__class__") = some true)
   (hm : PySem.W.mroIn K C (.type "object") = some true) : zX3 K H (.ref a) (.ref C)
theorem zh7 {x : V} {u t : Value} (I : Inv X pins σ H s) (rx : RelV x u) (ty : zX3 X.K H x t) (e : PySem.W.kitOne X.K t c = some b) (h : ∀ tk, Q (.bool b) { s with toks := tk }) :
  wpAny (model X.prog X.w) A (call (.builtin "isinstance") [u, c]) Q E s := by
 cases ty with
 | non => cases (show u = dy4 from rx); exact jy3 PySem.W.kitx_none I.kIn vy6 e (fun z => nomatch z) h
 | bl y => cases (show u = Value.bool y from rx); exact jy3 PySem.W.kitx_bool I.kIn vy6 e (fun z => nomatch z) h
 | int i => obtain ⟨t, q⟩ := (show ∃ t, u = Value.int i t from rx); cases q; exact jy3 PySem.W.kitx_int I.kIn vy6 e (fun z => nomatch z) h
 | str y => obtain ⟨t, q⟩ := (show ∃ t, u = Value.str y t from rx); cases q; exact jy3 PySem.W.kitx_str I.kIn vy6 e (fun z => nomatch z) h
 | flt y => obtain ⟨t, q⟩ := (show ∃ t, u = Value.float y t from rx); cases q; exact jy3 PySem.W.kitx_float I.kIn vy6 e (fun z => nomatch z) h
 | @lst a xs ea =>
  cases (show u = cy7 a from rx);obtain ⟨_, _, n, _, h1⟩ := (show zb6 X.prog X.w H s.heap a (.lst xs) from I.hok a _ ea)
  exact jy3 PySem.W.kitx_list I.kIn ⟨_, h1, rfl⟩ e (fun z => nomatch z) h
 | @frz a ob xs ea =>
  cases (show u = cy7 a from rx);obtain ⟨_, _, _, n, _, h1⟩ := (show zb6 X.prog X.w H s.heap a (.frz ob (.lst xs)) from I.hok a _ ea)
  exact jy3 PySem.W.kitx_list I.kIn ⟨_, h1, rfl⟩ e (fun z => nomatch z) h
 | @tup a xs ea =>
  cases (show u = cy7 a from rx);obtain ⟨_, _, _, p⟩ := (show zb6 X.prog X.w H s.heap a (.tup xs) from I.hok a _ ea)
  obtain ⟨o, h1, h2, _⟩ := p;exact jy3 PySem.W.kitx_tuple I.kIn ⟨o, h1, h2⟩ e (fun z => nomatch z) h
 | @dK a kvs ea =>
  cases (show u = cy7 a from rx);obtain ⟨_, _, vs, _, p⟩ := (show zb6 X.prog X.w H s.heap a (.dK kvs) from I.hok a _ ea)
  obtain ⟨o, es, ep, h1, h2, _⟩ := p;exact jy3 PySem.W.kitx_dict I.kIn ⟨o, h1, h2.1⟩ e (fun z => nomatch z) h
 | @dT a kvs ea =>
  cases (show u = cy7 a from rx);obtain ⟨_, _, xs, _, o, es, ep, h1, h2, _⟩ := (show zb6 X.prog X.w H s.heap a (.dT kvs) from I.hok a _ ea)
  exact jy3 PySem.W.kitx_dict I.kIn ⟨o, h1, h2.1⟩ e (fun z => nomatch z) h
 | @ins a C dx fs ea cl ha hn htk hm =>
  cases (show u = cy7 a from rx);obtain ⟨mA, O, _⟩ := zc37 I.hok ea;obtain ⟨od, J, _⟩ := O.look;exact jy3 (PySem.W.kitx_own (cl.get _) cl.hd ha hn htk hm) I.kIn J e (fun z => nomatch z) h
end
structure zz2 (k : Nat) (A : Around) : Prop where
 hd : A.handled = none
 dp : A.depth + 3 * k + 5 < recursionLimit
 un : A.units + 16 * k + 200 < cLine
theorem zz2.mono {j k : Nat} {A : Around} (r : zz2 k A) (h : j <= k) : zz2 j A := ⟨r.hd, by have := r.dp; omega, by have := r.un; omega⟩
theorem zz2.deeper {k : Nat} {A : Around} (r : zz2 (k + 1) A) (env : Env) : zz2 k (A.deeper env) :=
 ⟨r.hd, by have := r.dp; show A.depth + 1 + 3 * k + 5 < _; omega, by have := r.un; show A.units + 3 + 16 * k + 200 < _; omega⟩
theorem zz2.depth {k : Nat} {A : Around} (r : zz2 k A) : A.depth < recursionLimit := by have := r.dp; omega
theorem zz2.units {k : Nat} {A : Around} (r : zz2 k A) : A.units + 64 < cLine := by have := r.un; omega
def tNil : TA := fun _ H Q => Q [] H
def ze47 (ta : TE) (tr : TA) : TA := fun σ H Q => ta σ H fun x H1 => tr σ H1 fun xs H2 => Q (x :: xs) H2
section
variable {X : Cx} {e : Expr} {es : List Expr} {te : TE} {t : TA} {pos : Pos}
theorem zu1 : PA X [] tNil := fun _ _ _ _ H Q I h => Calls.spliced_nil ⟨[], H, I, .nil, h⟩
theorem zl0 (ha : PE X e te) (hr : PA X es t) (hs : fy6 (e :: es) X.env = (false, eval e X.env) :: fy6 es X.env := by rfl) : PA X (e :: es) (ze47 te t) := by
 intro pos pins s σ H Q I h;rw [hs];show wpAny _ _ (spliced ((false, eval e X.env) :: backTo pos (fy6 es X.env))) _ _ s;refine Calls.spliced_cons (thn (ha pins s σ H _ I h) fun u s1 ⟨x, H1, I1, r1, q1⟩ => ?_);exact thn (hr pos pins s1 σ H1 _ I1 q1) fun us s2 ⟨xs, H2, I2, r2, q2⟩ => ⟨x :: xs, H2, I2, .cons r1 r2, q2⟩
def tTup (t : TA) : TE := fun σ H Q => t σ H fun xs H1 => xs.length <= by2 /\ ∀ p, H1 p = none -> Q (.ref p) (upd H1 p (.tup xs))
def tLst (t : TA) : TE := fun σ H Q => t σ H fun xs H1 => xs.length <= by2 /\ ∀ p, H1 p = none -> Q (.ref p) (upd H1 p (.lst xs))
theorem zZ5 {x1} (h : PA X es t) : PE X (.Tuple es x1 pos) (tTup t) := by
 intro pins s σ H Q I hq;refine wpAny_Tuple_spliced (thn (h pos pins s σ H _ I hq) fun us s1 ⟨xs, H1, I1, r, z, q⟩ => ⟨by rw [<- r.length]; exact z, ?_⟩);have hf : H1 s1.heap.objs.size = none := I1.hok.fresh (ay6 _);refine ⟨.ref s1.heap.objs.size, upd H1 s1.heap.objs.size (.tup xs), I1.laid (t' := s1.toks) (fun b u e => ay1 _ e) (ay6 _) ?_, rfl, q _ hf⟩;exact ⟨z, us, r, ⟨_, ay7 _ rfl, rfl, _, rfl⟩⟩
theorem zb98 (h : PA X es t) : PE X (.List es pos) (tLst t) := by
 intro pins s σ H Q I hq;refine wpAny_List_spliced (thn (h pos pins s σ H _ I hq) fun us s1 ⟨xs, H1, I1, r, z, q⟩ => ⟨by rw [<- r.length]; exact z, ?_⟩);have hf : H1 s1.heap.objs.size = none := I1.hok.fresh (ay6 _);refine ⟨.ref s1.heap.objs.size, upd H1 s1.heap.objs.size (.lst xs), I1.laid (t' := s1.toks) (fun b u e => ay1 _ e) (ay6 _) ?_, rfl, q _ hf⟩;exact ⟨z, us, 0, r, ay7 _ rfl⟩
end
abbrev Sp := List V -> Hp -> VK -> XK -> Prop
abbrev CXT := List Env -> Hp -> Shared -> XK -> Value -> Shared -> Prop
structure Env0 (P : cy8) (w : World) (K : ay5) (mg : Str -> Option Value) (base : Heap) (A : Around) (outer : List Env) (s : Shared) (H : Hp) : Prop where
 frames : A.frames = some outer
 mod : Mod K mg base
 bs : ∀ b o, base.get? b = some o -> s.heap.get? b = some o /\ H b = none
 bsz : base.objs.size <= s.heap.objs.size
 zX8 : s.heap.FunFrames base outer
 frf : ∀ b ∈ frs outer, H b = none
 hok : HOk P w H s.heap
 bare : AllBare s.gens
def CE (outer : List Env) (P : cy8) (w : World) (H : Hp) (s : Shared) (Q : VK) (u : Value) (s' : Shared) : Prop :=
 ∃ v H', s'.os = s.os /\ AllBare s'.gens /\ Un (frs outer) [] H H' s.heap s'.heap /\ HOk P w H' s'.heap /\ RelV v u /\ Q v H'
def CR (CX : CXT) (outer : List Env) (P : cy8) (w : World) (H : Hp) (s : Shared) (Q : VK) (E : XK) (r : Result) (s' : Shared) : Prop :=
 match r with
 | .ok (.ret u) => CE outer P w H s Q u s'
 | .ok _ => False
 | .error e => CX outer H s E e s'
structure zj9 (P : cy8) (w : World) (K : ay5) (mg : Str -> Option Value) (base : Heap) (CX : CXT) (k : Nat) (f : Addr) (fd : fy7) (ps : List Str) (sp : Sp) : Prop where
 len : ∀ vs H Q E, sp vs H Q E -> vs.length = ps.length
 run : ∀ (A : Around) (outer : List Env) (s : Shared) (H : Hp) (args : Args) (us : List Value) (vs : List V) (Q : VK) (E : XK), zz2 k A -> Env0 P w K mg base A outer s H -> BindsTo s fd args (ps.zip us) -> Vals vs us -> sp vs H Q E ->
  ly4 (model P w) A (.call (.ref f) args) (CR CX outer P w H s Q E) s
theorem zj9.imp {P : cy8} {w : World} {K : ay5} {mg : Str -> Option Value} {base : Heap} {CX : CXT} {k : Nat} {f : Addr} {fd : fy7} {ps : List Str} {sp sp' : Sp} (F : zj9 P w K mg base CX k f fd ps sp)
  (h : ∀ vs H Q E, sp' vs H Q E -> sp vs H Q E) : zj9 P w K mg base CX k f fd ps sp' :=
 ⟨fun vs H Q E q => F.len vs H Q E (h _ _ _ _ q), fun A outer s H args us vs Q E hr he hb hv hs => F.run A outer s H args us vs Q E hr he hb hv (h _ _ _ _ hs)⟩
section
variable {X : Cx} {pins : List (Addr × Obj)} {σ : St} {H : Hp} {s s' : Shared}
theorem Inv.env0 (I : Inv X pins σ H s) : Env0 X.prog X.w X.K X.mg X.base X.A X.stack s H :=
 ⟨I.ok.frames, I.ok.mod, I.bs, dy9 I.ok.bsz I.sz, I.stack, I.zY0, I.hok, I.bare⟩
theorem Inv.after {Q : VK} {u : Value} (I : Inv X pins σ H s) (h : CE X.stack X.prog X.w H s Q u s') : EP X pins σ Q u s' := by
 obtain ⟨v, H', os, bare, un, hok, r, q⟩ := h;obtain ⟨hh, g, d, t, os'⟩ := s';obtain rfl : os' = s.os := os;exact ⟨v, H', I.call (h' := hh) (g' := g) (d' := d) (t' := t) (ch := []) un hok bare (fun b z => absurd z (by simp)), r, q⟩
end
def ze48 (sp : Sp) (dvs : List V) (E : XK) (t : TA) : TE := fun σ H Q => t σ H fun vs H1 => sp (vs ++ dvs) H1 Q E
def Binds (K : ay5) (fd : fy7) (ps : List Str) (ds : List Value) : Prop :=
 ∀ (s : Shared) (us : List Value), K.In s.heap -> (us ++ ds).length = ps.length -> BindsTo s fd ⟨us, []⟩ (ps.zip (us ++ ds))
theorem Binds.all {K : ay5} {fd : fy7} {ps : List Str} (h : ∀ us : List Value, us.length = ps.length -> bindArgs fd ⟨us, []⟩ = pure (ps.zip us)) : Binds K fd ps [] := fun s us _ hl => by
 rw [ny5] at hl ⊢;exact .of_eq (h us hl)
def Passes (CX : CXT) (X : Cx) (E : XK) : Prop := ∀ (pins : List (Addr × Obj)) (σ : St) (H : Hp) (s : Shared) (e : Value) (s' : Shared), Inv X pins σ H s -> CX X.stack H s E e s' -> X.xe e s'
section
variable {X : Cx} {CX : CXT} {k : Nat} {f C : Addr} {fd : fy7} {ps : List Str} {sp : Sp} {dvs : List V} {ds : List Value} {E : XK} {x m : Str} {p pos apos : Pos} {e o : Expr} {es : List Expr} {ta : TE} {t : TA}
theorem zd42 {pins : List (Addr × Obj)} {σ : St} {H : Hp} {s : Shared} {Q : VK} {us : List Value} {vs : List V} (F : zj9 X.prog X.w X.K X.mg X.base CX k f fd ps sp) (hr : zz2 k X.A) (hb : Binds X.K fd ps ds) (hd : Vals dvs ds) (hx : Passes CX X E)
  (I : Inv X pins σ H s) (r : Vals vs us) (h : sp (vs ++ dvs) H Q E) : wpAny (model X.prog X.w) X.A (call (.ref f) us) (EP X pins σ Q) X.xe s := by
 have r2 : Vals (vs ++ dvs) (us ++ ds) := r.append hd;have hl : (us ++ ds).length = ps.length := by rw [<- r2.length]; exact F.len _ _ _ _ h
 refine wpAny_call (uy6 (F.run X.A X.stack s H ⟨us, []⟩ (us ++ ds) (vs ++ dvs) Q E hr I.env0 (hb s us I.kIn hl) r2 h) fun r s' hq => ?_);cases r with
 | error e => exact hx pins σ H s e s' I hq
 | ok fl =>
  cases fl with
  | ret u => exact I.after hq
  | next => exact vy4 hq
  | brk => exact vy4 hq
  | cont => exact vy4 hq
theorem zc38 (F : zj9 X.prog X.w X.K X.mg X.base CX k f fd ps sp) (hr : zz2 k X.A) (hg : Gl X x) (hm : X.mg x = some (.ref f)) (hk : dy6 X.K (.ref f) = true) (hb : Binds X.K fd ps ds) (hd : Vals dvs ds) (hx : Passes CX X E)
  (ha : PA X (e :: es) t) (hdb : (x == ("__debug__" : Str)) = false := by decide) (he : fy6 (e :: es) X.env = (false, eval e X.env) :: fy6 es X.env := by rfl) (hpl : (backTo pos (fy6 es X.env)).any (·.1) = false := by rfl) :
  PE X (.Call (.Name x p) (e :: es) [] pos) (ze48 sp dvs E t) := by
 intro pins s σ H Q I h;refine wpAny_Call_Name_kw (zY1 I hg hm ?_ hdb);refine PySem.W.callWith_K (h₀ := X.base) I.ok.mod.kin hk (thn (ha pos pins s σ H _ I h) fun us s1 ⟨vs, H1, I1, r, q⟩ => ⟨I1.kIn, ?_⟩) he hpl;exact zd42 F hr hb hd hx I1 r q
end
section
variable {X : Cx} {CX : CXT} {k : Nat} {f C : Addr} {fd : fy7} {ps ks : List Str} {sp : Sp} {E : XK} {x m : Str} {p pos apos kpos : Pos} {e o : Expr} {es : List Expr} {kws : List Keyword} {te ta : TE} {t tk : TA} {nm : Option Str}
variable {g : List Value -> List Value -> List Value} {gV : List V -> List V -> List V}
end
structure zc1 (N P : List Str) (sc : Scope) : Prop where
 kind : sc.kind = .function
 co : sc.isCoroutine = false
 gen : sc.isGenerator = false
 nd : N.Nodup
 pre : N.take P.length = P
 par : ∀ x ∈ P, sc.names.lookup x = some .local \/ sc.names.lookup x = some .cell
 nofree : ∀ y ∈ sc.names, y.2 ≠ .free
theorem zE2 {kindOf : Str -> Option xy2} {x : Str} : ∀ {binds : List (Str × Value)} {m : Str -> Option Value}, (∀ v, (x, v) ∉ binds) -> bindL kindOf binds m x = m x
 | [], _, _ => rfl
 | (n, v) :: r, m, h => by
  unfold bindL;rw [zE2 fun w hw => h w (by0 _ hw)]
  split
  ·have : x ≠ n := by rintro rfl; exact h v ay9
   simp [this]
  ·rfl
theorem zE3 {kindOf : Str -> Option xy2} {x : Str} : ∀ {binds : List (Str × Value)} {m : Str -> Option Value}, (∀ v, (x, v) ∉ binds) -> bindC kindOf binds m x = m x
 | [], _, _ => rfl
 | (n, v) :: r, m, h => by
  unfold bindC;rw [zE3 fun w hw => h w (by0 _ hw)]
  split
  ·rfl
  ·have : x ≠ n := by rintro rfl; exact h v ay9
   simp [this]
theorem zE4 {kindOf : Str -> Option xy2} {x : Str} {v : Value} : ∀ {P : List Str} {vs : List Value} {i : Nat} {m : Str -> Option Value}, P.Nodup -> P[i]? = some x -> vs[i]? = some v -> kindOf x = some .local ->
  bindL kindOf (P.zip vs) m x = some v
 | [], _, _, _, _, h, _, _ => by simp at h
 | _ :: _, [], _, _, _, _, h, _ => by simp at h
 | p :: P, w :: vs, 0, m, nd, h1, h2, hk => by
  simp at h1 h2; subst h1; subst h2;show bindL kindOf ((p, w) :: P.zip vs) m p = _;unfold bindL;rw [zE2 fun v hv => (ly6.mp nd).1 (List.of_mem_zip hv).1, if_pos hk];simp
 | p :: P, w :: vs, i + 1, m, nd, h1, h2, hk => by
  show bindL kindOf ((p, w) :: P.zip vs) m x = _;unfold bindL;exact zE4 (i := i) (ly6.mp nd).2 (by simpa using h1) (by simpa using h2) hk
theorem zE5 {kindOf : Str -> Option xy2} {x : Str} {v : Value} : ∀ {P : List Str} {vs : List Value} {i : Nat} {m : Str -> Option Value}, P.Nodup -> P[i]? = some x -> vs[i]? = some v -> kindOf x ≠ some .local ->
  bindC kindOf (P.zip vs) m x = some v
 | [], _, _, _, _, h, _, _ => by simp at h
 | _ :: _, [], _, _, _, _, h, _ => by simp at h
 | p :: P, w :: vs, 0, m, nd, h1, h2, hk => by
  simp at h1 h2; subst h1; subst h2;show bindC kindOf ((p, w) :: P.zip vs) m p = _;unfold bindC;rw [zE3 fun v hv => (ly6.mp nd).1 (List.of_mem_zip hv).1, if_neg hk];simp
 | p :: P, w :: vs, i + 1, m, nd, h1, h2, hk => by
  show bindC kindOf ((p, w) :: P.zip vs) m x = _;unfold bindC;exact zE5 (i := i) (ly6.mp nd).2 (by simpa using h1) (by simpa using h2) hk
def start (N : List Str) (vs : List V) : St := vs.map some ++ List.replicate (N.length - vs.length) none
def cxOf (CX : CXT) (P : cy8) (w : World) (K : ay5) (mg : Str -> Option Value) (base : Heap) (N : List Str) (qual : Str) (scope : Scope) (f : Addr) (cd : Value) (A : Around) (outer : List Env) (s : Shared) (H : Hp) (E : XK) : Cx where
 prog := P
 w := w
 K := K
 mg := mg
 base := base
 A := A.deeper (envOfC qual scope s.heap.objs.size f cd)
 N := N
 s₀ := s
 H₀ := H
 env := envOfC qual scope s.heap.objs.size f cd
 outer := outer
 stack := envOfC qual scope s.heap.objs.size f cd :: outer
 ex := []
 calm := true
 fn := fun _ => true
 pn := []
 xe := fun e s' => wpAny (model P w) (A.deeper (envOfC qual scope s.heap.objs.size f cd)) (leaving (envOfC qual scope s.heap.objs.size f cd) e) (fun _ s'' => CX outer H s E e s'') (fun e' s'' => CX outer H s E e' s'') s'
theorem zN8 {sc : Scope} {n : Nat} {x : Str} (h : sc.names.lookup x = some .cell) : ∃ c, (cellsFrom n sc.names []).lookup x = some c := by
 have q := PySem.W.cellsFrom_some sc.names n [] (.inl h);exact Option.isSome_iff_exists.mp q
theorem zZ6 {CX : CXT} {P : cy8} {w : World} {K : ay5} {mg : Str -> Option Value} {base : Heap} {N ps : List Str} {qual : Str} {scope : Scope} {f : Addr} {cd : Value} {A : Around} {outer : List Env} {s s1 : Shared} {H : Hp} {E : XK} {us : List Value} {vs : List V}
  (S : zc1 N ps scope) (hd : A.handled = none) (e0 : Env0 P w K mg base A outer s H) (hl : vs.length = ps.length) (r : Vals vs us)
  (x : InCallC s s.heap.objs.size (bindL (envOfC qual scope s.heap.objs.size f cd).kindOf (ps.zip us) fun _ => none) (cellsFrom (s.heap.objs.size + 1) scope.names []) (bindC (envOfC qual scope s.heap.objs.size f cd).kindOf (ps.zip us) fun _ => none) s1) :
  Inv (cxOf CX P w K mg base N qual scope f cd A outer s H E) [] (start N vs) H s1 := by
 have hpl : ps.length <= N.length := by have := congrArg xy6 S.pre; rw [dy2] at this; omega
 obtain ⟨h1, tk, rfl, hk⟩ := x.done;have noA : ∀ b : Addr, b ∉ (cxOf CX P w K mg base N qual scope f cd A outer s H E).ex := fun b z => absurd (show b ∈ ([] : List Addr) from z) (by simp)
 refine ⟨⟨e0.mod, S.kind, rfl, rfl, ay6 _, fun y z c h1 h2 => ?_, fun y hy => ?_, fun y c _ h => ?_, fun _ => hd, Around.frames_deeper e0.frames, .inr ⟨rfl, rfl⟩, fun b z => absurd z (noA b), e0.bs, e0.bsz, fun b _ _ => noA b, fun b z => absurd z (noA b), e0.zX8, e0.frf⟩,
  rfl, e0.bare, Un.kept hk, ⟨_, x.toInCall.ns, fun i y v h1 h2 h3 => ?_⟩, fun y c h => ⟨_, x.cell y c h⟩, e0.hok.fresh (ay6 _), fun y c h => ?_, fun p hp => absurd (show p ∈ ([] : List (Addr × Obj)) from hp) (by simp), e0.hok.kept hk, ?_⟩
 ·exact name_of_addr x.apart (jy4 h1) (jy4 h2)
 ·have hy : scope.names.lookup y = some .cell \/ scope.names.lookup y = some .free := hy;rcases hy with hy | hy
  ·exact zN8 hy
  ·exact absurd rfl (S.nofree _ (jy4 hy))
 ·exact ky9 (x.above y c (jy4 h))
 ·have hi : i < vs.length := by
   unfold start at h2
   by_cases hi : i < vs.length
   ·exact hi
   ·rw [cy9 (by simpa using hi)] at h2;rw [List.getElem?_replicate] at h2
    split at h2 <;> cases h2
  have ha : vs[i]? = some v := by
   unfold start at h2;rw [ay8 (by simpa using hi), by3] at h2;cases e : vs[i]? with
   | none => rw [e] at h2; cases h2
   | some a => rw [e] at h2; cases h2; rfl
  obtain ⟨u, hu, rv⟩ := r.get ha
  have hp : ps[i]? = some y := by
   rw [<- S.pre, gy2 (by omega)]; exact h1
  have ndP : ps.Nodup := by rw [<- S.pre]; exact S.nd.sublist (ry9 _ _)
  refine ⟨u, rv, ?_⟩;rcases S.par y (cy5 hp) with k | k
  ·exact .inl ⟨k, zE4 ndP hp hu k⟩
  ·obtain ⟨c, e⟩ := zN8 (n := s.heap.objs.size + 1) k;refine .inr ⟨.inl k, c, e, ?_⟩;have q := x.cell y c e;rw [zE5 ndP hp hu (by show scope.names.lookup y ≠ _; rw [k]; decide)] at q;exact q
 ·exact e0.hok.fresh (ky9 (x.above y c (jy4 h)))
 ·unfold start;show _ = N.length;rw [cy1, ay4, List.length_replicate];omega
theorem ze49 {CX : CXT} {P : cy8} {w : World} {K : ay5} {mg : Str -> Option Value} {base : Heap} {k : Nat} {f : Addr} {name qual : Str} {params : Arguments} {body : List Stmt} {scope : Scope} {dV kV doc pm cdv ct oc : Value} {an od : Option Addr}
  {osl : Array (Option Value)} {N ps : List Str} {sp : Sp} (lk : K.lookup f = some ⟨oc, od, .func (ey2 name qual params body scope dV kV doc pm an cdv ct), osl⟩) (hcd : dy7 K cdv qual = true) (S : zc1 N ps scope)
  (len : ∀ vs H Q E, sp vs H Q E -> vs.length = ps.length)
  (hbody : ∀ (A : Around) (outer : List Env) (s : Shared) (H : Hp) (vs : List V) (Q : VK) (E : XK), zz2 k (A.deeper (envOfC qual scope s.heap.objs.size f cdv)) -> sp vs H Q E ->
   ∃ t, PSs (cxOf CX P w K mg base N qual scope f cdv A outer s H E) body t /\ t { nx := fun _ H' => Q .non H', rt := Q } (start N vs) H) :
  zj9 P w K mg base CX (k + 1) f (ey2 name qual params body scope dV kV doc pm an cdv ct) ps sp := by
 refine ⟨len, fun A outer s H args us vs Q E hr e0 hb r hsp => ?_⟩;have hl := len _ _ _ _ hsp;have KX : K.In s.heap := e0.mod.kin.keeps fun b o e => (e0.bs b o e).1;have lim : s.heap.NoLimit := e0.mod.nolimit.keeps fun b o e => (e0.bs b o e).1
 have hkind : ∀ y ∈ ps.zip us, scope.names.lookup y.1 = some .local \/ (scope.names.lookup y.1 = some .cell /\ ((cellsFrom (s.heap.objs.size + 1) scope.names []).lookup y.1).isSome = true) := fun ⟨n, v⟩ hy => by
  rcases S.par n (List.of_mem_zip hy).1 with q | q
  ·exact .inl q
  ·exact .inr ⟨q, PySem.W.cellsFrom_some _ _ _ (.inl q)⟩
 refine codeAny_call_function hr.depth (KX _ _ lk) rfl S.co S.gen rfl (PySem.W.codeRec_of KX hcd) (hb _ _ _ _ ?_);refine wpAny_newFunctionEnv_cells S.kind hkind fun env he s1 x => ?_;subst he;refine ⟨lim.keeps x.toInCall.keep, codeAny_func ?_⟩;obtain ⟨t, ht, hq⟩ := hbody A outer s H vs Q E (hr.deeper _) hsp;have I : Inv (cxOf CX P w K mg base N qual scope f cdv A outer s H E) [] (start N vs) H s1 := zZ6 S hr.hd e0 hl r x;refine fy9 (ht [] s1 (start N vs) H _ I hq) (fun fl s' hs => ?_) fun e s' hs => hs
 have fin : ∀ {σ' : St} {H' : Hp} {v : V} {u : Value}, Inv (cxOf CX P w K mg base N qual scope f cdv A outer s H E) [] σ' H' s' -> RelV v u -> Q v H' -> CE outer P w H s Q u s' :=
  fun {σ' H' v u} J rv q => ⟨v, H', J.os, J.bare, J.base, J.hok, rv, q⟩
 cases fl with
 | ret u =>
  obtain ⟨v, σ', H', J, rv, q⟩ := hs;exact fin J rv q
 | next =>
  obtain ⟨σ', H', J, q⟩ := hs;exact fin (v := V.non) (u := dy4) J rfl q
 | brk =>
  obtain ⟨_, _, _, q⟩ := hs;exact vy4 q
 | cont =>
  obtain ⟨_, _, _, q⟩ := hs;exact vy4 q
section
variable {X : Cx} {x : Str} {p pos : Pos} {e : Expr} {es : List Expr} {t : TA} {id T : String} {r : List V -> Hp -> VK -> Prop}
def tCB (r : List V -> Hp -> VK -> Prop) (t : TA) : TE := fun σ H Q => t σ H fun vs H1 => r vs H1 Q
theorem zo3 (hc : zj0 X (.builtin id) r) (hg : Gl X x) (hm : X.mg x = none) (hv : fy2 x = some (.builtin id)) (ha : PA X (e :: es) t) (hn : x ≠ "__name__" := by decide) (hdb : (x == ("__debug__" : Str)) = false := by decide)
  (he : fy6 (e :: es) X.env = (false, eval e X.env) :: fy6 es X.env := by rfl) (hpl : (backTo pos (fy6 es X.env)).any (·.1) = false := by rfl) : PE X (.Call (.Name x p) (e :: es) [] pos) (tCB r t) := by
 intro pins s σ H Q I h;refine wpAny_Call_Name_kw (zE0 I hg hm hv ?_ hn hdb);exact PyProof.Rows.callWith_builtin1 (thn (ha pos pins s σ H _ I h) fun us s1 ⟨vs, H1, I1, r1, q1⟩ => hc pins s1 σ H1 vs us Q I1 r1 q1) he hpl
theorem zE6 (hc : zj0 X (.type T) r) (hg : Gl X x) (hm : X.mg x = none) (hv : fy2 x = some (.type T)) (ha : PA X (e :: es) t) (hn : x ≠ "__name__" := by decide) (hdb : (x == ("__debug__" : Str)) = false := by decide)
  (he : fy6 (e :: es) X.env = (false, eval e X.env) :: fy6 es X.env := by rfl) (hpl : (backTo pos (fy6 es X.env)).any (·.1) = false := by rfl) : PE X (.Call (.Name x p) (e :: es) [] pos) (tCB r t) := by
 intro pins s σ H Q I h;refine wpAny_Call_Name_kw (zE0 I hg hm hv ?_ hn hdb);exact uy5 (thn (ha pos pins s σ H _ I h) fun us s1 ⟨vs, H1, I1, r1, q1⟩ => hc pins s1 σ H1 vs us Q I1 r1 q1) he hpl
end
end L2
namespace HT
open PySem PyProof.Rows
section
open PySem.SeqAt
open PySem.AutoSeq1 (wpAny_loadPart')
open PySem.MeetsSeq PySem.MeetsSeq2 PySem.MeetsSeq3
end
section
variable {prog : cy8} {w : World} {A : Around} {E : Value -> Shared -> Prop} {s : Shared}
theorem zc39 {t b : Addr} {vs ws : List Value} {Q : Value -> Shared -> Prop} (ht : IsTup s.heap t vs.toArray) (hb : IsTup s.heap b ws.toArray) (hv : vs ≠ [])
  (h1 : ws = [] -> Q (.ref t) s) (h2 : ws ≠ [] -> Q (.ref s.heap.objs.size) { s with heap := s.heap.push { cls := .type "tuple", data := .seq (vs ++ ws).toArray } })
  (hsz : vs.length + ws.length <= by2) : wpAny (model prog w) A (oy3 .Add (.ref t) (.ref b)) Q E s := by
 obtain ⟨⟨cls, dd, data, sl⟩, ho, hc, n, hd⟩ := id ht;obtain ⟨⟨cls2, dd2, data2, sl2⟩, ho2, hc2, n2, hd2⟩ := id hb;simp only at hc hd hc2 hd2;subst hc hd hc2 hd2;have e : vs.toArray ++ ws.toArray = (vs ++ ws).toArray := by simp
 by_cases hw : ws = []
 ·exact concat_meets ⟨_, ho, rfl⟩ ⟨_, ho2, rfl⟩ noFill_tuple_add seq_tuple_add PySem.F.slot_tuple_add PySem.F.entry_tuple_add (PySem.F.args_tuple_add_2 _ _)
   (tuple_addW1 t b vs.toArray ws.toArray n n2 dd dd2 sl sl2 (by simpa using hv) (by simp [hw])) ⟨ho, ho2, h1 hw⟩
 ·refine concat_meets ⟨_, ho, rfl⟩ ⟨_, ho2, rfl⟩ noFill_tuple_add seq_tuple_add PySem.F.slot_tuple_add PySem.F.entry_tuple_add (PySem.F.args_tuple_add_2 _ _)
   (tuple_addW2 t b vs.toArray ws.toArray n n2 dd dd2 sl sl2 (by simpa using hv) (by simpa using hw) (by rw [cy0, cy0]; exact hsz)) ⟨ho, ho2, ?_⟩
  rw [e];exact h2 hw
def sIx (n d : Nat) : Option Int -> Nat
 | none => d
 | some v => if v < 0 then (v + (n : Int)).toNat else min v.toNat n
theorem zZ7 (n d k : Nat) : sIx n d (some (k : Int)) = min k n := by
 show (if (k : Int) < 0 then ((k : Int) + (n : Int)).toNat else min (k : Int).toNat n) = min k n;rw [if_neg (by omega), ky3]
theorem zd43 (n d : Nat) (hd : d <= n) (o : Option Int) : sIx n d o <= n := by
 cases o with
 | none => exact hd
 | some v =>
  show (if v < 0 then (v + (n : Int)).toNat else min v.toNat n) <= n
  by_cases hv : v < 0
  ·rw [if_pos hv]; omega
  ·rw [if_neg hv]; exact Nat.min_le_right _ _
theorem zZ8 (v : Int) (n d : Nat) : (if v < 0 then max (v + (n : Int)) 0 else min v (n : Int)) = ((sIx n d (some v) : Nat) : Int) := by
 show (if v < 0 then max (v + (n : Int)) 0 else min v (n : Int)) = (((if v < 0 then (v + (n : Int)).toNat else min v.toNat n) : Nat) : Int)
 by_cases hv : v < 0
 ·simp only [if_pos hv]; omega
 ·simp only [if_neg hv]; omega
theorem zS1 (lo hi : Option Int) (n : Nat) : wy2 lo hi 1 (n : Int) = (((sIx n 0 lo : Nat) : Int), ((sIx n n hi : Nat) : Int)) := by
 have h1 : ¬ ((1 : Int) < 0) := by omega
 unfold Builtin.Slice.sliceAdjust;simp only [h1, if_false];refine Prod.ext ?_ ?_
 ·cases lo with
  | none => rfl
  | some v => exact zZ8 v n 0
 ·cases hi with
  | none => rfl
  | some v => exact zZ8 v n n
theorem zS2 (i j : Nat) : ry0 (i : Int) (j : Int) 1 = j - i := by
 unfold Builtin.Slice.slicePlaces;have h1 : (1 : Int) > 0 := by omega
 simp only [h1, if_true, Int.ediv_one]
 split <;> omega
theorem zx9 {v : Value} {o : Option Int} {Q : Option Int -> Shared -> Prop} (p : IsPart v o) (h : Q o s) : wpAny (model prog w) A (Builtin.Slice.slicePartIndex v) Q E s := by
 cases p with
 | none => exact slicePart_none h
 | int i t => exact slicePart_int h
theorem zk7 {sl : Addr} {vl vu : Value} {lo hi : Option Int} {n : Nat} {Q : Int × Int × Nat -> Shared -> Prop} (hs : s.heap.IsSliceOf sl vl vu .none) (pl : IsPart vl lo) (pu : IsPart vu hi)
  (h : Q (((sIx n 0 lo : Nat) : Int), 1, sIx n n hi - sIx n 0 lo) s) : wpAny (model prog w) A (Builtin.Slice.sliceApplied (.ref sl) (pure (n : Int))) Q E s := by
 obtain ⟨os, hos, hcs, hds⟩ := id hs;unfold Builtin.Slice.sliceApplied Builtin.Slice.sliceFields;refine ay0 (ay0 (jy5 hos hds (x := vl) rfl (ay0 (jy5 hos hds (x := vu) rfl (ay0 (jy5 hos hds (x := .none) rfl (ay2 ?_)))))));refine ay0 (slicePart_none ?_);show wpAny _ _ (if ((1 : Int) == 0) = true then _ else _) _ _ s;rw [if_neg (by decide)];refine ay0 (zx9 pl (ay0 (zx9 pu (ay0 (ay2 ?_)))));show wpAny _ _ (match wy2 lo hi 1 (n : Int) with | (lo, hi) => pure (lo, (1 : Int), ry0 lo hi 1)) _ _ s;rw [zS1 lo hi n];show wpAny _ _ (pure (((sIx n 0 lo : Nat) : Int), (1 : Int), ry0 ((sIx n 0 lo : Nat) : Int) ((sIx n n hi : Nat) : Int) 1)) _ _ s;rw [zS2];exact ay2 h
theorem zb23 (xs : Array Value) (i k : Nat) : ((ky2 k).filterMap fun (m : Nat) => xs[((i : Int) + (m : Int) * 1).toNat]?).toArray = ((xs.toList.drop i).take k).toArray := by
 have e : (fun (m : Nat) => xs[((i : Int) + (m : Int) * 1).toNat]?) = fun m => xs[i + m]? := by
  funext m
  have : ((i : Int) + (m : Int) * 1).toNat = i + m := by omega
  rw [this]
 rw [e];have := pick_run xs i k;rw [List.filterMap_map] at this;have e2 : ((fun x => xs[x]?) ∘ fun x => i + x) = fun m => xs[i + m]? := rfl;rw [e2] at this;rw [this]
theorem zq1 {t sl : Addr} {items : Array Value} {vl vu : Value} {lo hi : Option Int} {Q : Value -> Shared -> Prop} (ht : IsTup s.heap t items) (hs : s.heap.IsSliceOf sl vl vu .none) (pl : IsPart vl lo) (pu : IsPart vu hi)
  (hw : ¬ (sIx items.size 0 lo = 0 /\ sIx items.size items.size hi = items.size))
  (h : Q (.ref s.heap.objs.size) { s with heap := s.heap.push { cls := .type "tuple", data := .seq ((items.toList.drop (sIx items.size 0 lo)).take (sIx items.size items.size hi - sIx items.size 0 lo)).toArray } })
  (hsz : items.size <= by2) : wpAny (model prog w) A (getItem (.ref t) (.ref sl)) Q E s := by
 have htake : sizeOk (.seq ((items.toList.drop (sIx items.size 0 lo)).take (sIx items.size items.size hi - sIx items.size 0 lo)).toArray) := by
  show ((items.toList.drop (sIx items.size 0 lo)).take (sIx items.size items.size hi - sIx items.size 0 lo)).toArray.size <= by2;rw [cy0, dy2, List.length_drop, iy4];omega
 have hj : sIx items.size items.size hi <= items.size := zd43 _ _ (ay6 _) hi;obtain ⟨os, hos, hcs, hds⟩ := id hs;have hTs : s.TypeIs (.ref sl) "slice" := ⟨os, hos, hcs⟩
 unfold getItem
 try with_reducible refine ey5 ?_
 first | refine ay0 (ay2 ?_) | skip
 refine ay0 (wpAny_sequenceKey ht.typeIs (by decide) ?_)
 refine ay0 (fy0 (name := ly1 "__getitem__") ht.typeIs hy8
  (dy3 hy8 ht.typeIs entry_tuple_getitem ?_ (args_tuple_getitem _ _)))
 show wpAny _ _ (Builtin.Tuple.tupleItemsOf (.ref t) >>= _) _ _ s;refine ay0 (tupleItemsOf_ ht ?_);refine ay0 (py2 hTs ?_);rw [if_pos (by decide)];refine ay0 (zk7 hs pl pu ?_)
 have hno : ¬ ((((sIx items.size 0 lo : Nat) : Int) == 0 && (1 : Int) == 1 && (sIx items.size items.size hi - sIx items.size 0 lo) == items.size) = true) := by
  intro q;rw [ty6, ty6] at q;have q1 : ((sIx items.size 0 lo : Nat) : Int) = 0 := eq_of_beq q.1.1;have q2 : sIx items.size items.size hi - sIx items.size 0 lo = items.size := eq_of_beq q.2;exact hw ⟨by omega, by omega⟩
 show wpAny _ _ (if (((sIx items.size 0 lo : Nat) : Int) == 0 && (1 : Int) == 1 && (sIx items.size items.size hi - sIx items.size 0 lo) == items.size) = true then _ else _) _ _ s;rw [if_neg hno, zb23]
 first
  | exact ay0 (m := sy0 _) (dy8 (ay2 ⟨_, rfl, ay2 h⟩) htake)
  | exact ay0 (m := sy0 _) (dy8 (ay0 (ay2 (ay2 ⟨_, rfl, ay2 h⟩))) htake)
  | exact ay0 (ay0 (m := sy0 _) (dy8 (ay2 (ay2 ⟨_, rfl, ay2 h⟩)) htake))
  | exact ay0 (ay0 (m := sy0 _) (dy8 (ay2 ⟨_, rfl, ay2 h⟩) htake))
end
end HT
namespace L2
open PySem PySem.Spec PyProof.Rows
abbrev TO := St -> Hp -> (Option Int -> Hp -> Prop) -> Prop
def PO (X : Cx) (e : Option Expr) (t : TO) : Prop :=
 ∀ (pins : List (Addr × Obj)) (s : Shared) (σ : St) (H : Hp) (Q : Option Int -> Hp -> Prop), Inv X pins σ H s -> t σ H Q ->
  wpAny (model X.prog X.w) X.A (evalPart e X.env) (fun u s' => ∃ o H', Inv X pins σ H' s' /\ IsPart u o /\ Q o H') X.xe s
def zc40 : TO := fun _ H Q => Q none H
def ze50 (t : TE) : TO := fun σ H Q => t σ H fun x H1 => ∃ i, x = .int i /\ Q (some i) H1
section
variable {X : Cx} {e : Expr} {te : TE} {lo hi : Option Expr} {tl th : TO} {pos p2 : Pos}
theorem zc41 : PO X none zc40 := by
 intro pins s σ H Q I h;rw [evalPart_none];exact ay2 ⟨none, H, I, .none, h⟩
theorem zc42 (h : PE X e te) : PO X (some e) (ze50 te) := by
 intro pins s σ H Q I hw;rw [evalPart_some];refine thn (h pins s σ H _ I hw) fun u s1 zR => ?_;obtain ⟨x, H1, I1, r1, q1⟩ := zR;obtain ⟨i, rfl, q⟩ := q1;obtain ⟨t, rfl⟩ := r1;exact ⟨some i, H1, I1, .int i t, q⟩
def SlR (X : Cx) (r : V -> Option Int -> Option Int -> Hp -> VK -> Prop) : Prop :=
 ∀ (pins : List (Addr × Obj)) (s : Shared) (σ : St) (H : Hp) (x : V) (v vl vu : Value) (lo hi : Option Int) (sl : Addr) (Q : VK), Inv X pins σ H s -> RelV x v -> s.heap.IsSliceOf sl vl vu .none -> IsPart vl lo -> IsPart vu hi -> r x lo hi H Q ->
  ∃ T id, typeLookup (.type T) "__getitem__" = pure (some (.builtin id)) /\ s.TypeIs v T /\ wpAny (model X.prog X.w) X.A (getItem v (.ref sl)) (EP X pins σ Q) X.xe s
def tSl (r : V -> Option Int -> Option Int -> Hp -> VK -> Prop) (te : TE) (tl th : TO) : TE := fun σ H Q => te σ H fun x H1 => tl σ H1 fun l H2 => th σ H2 fun u H3 => r x l u H3 Q
theorem zb24 {r : V -> Option Int -> Option Int -> Hp -> VK -> Prop} (hr : SlR X r) (he : PE X e te) (hl : PO X lo tl) (hu : PO X hi th) : PE X (.Subscript e (.Slice lo hi none p2) pos) (tSl r te tl th) := by
 intro pins s σ H Q I h;refine Subscript_ (thn (he pins s σ H _ I h) fun v s1 ⟨x, H1, I1, r1, q1⟩ => ?_);refine wpAny_Slice (thn (hl pins s1 σ H1 _ I1 q1) fun vl s2 ⟨l, H2, I2, pl, q2⟩ => thn (hu pins s2 σ H2 _ I2 q2) fun vu s3 ⟨u, H3, I3, pu, q3⟩ => ?_);rw [evalPart_none];refine ay2 ?_;have I4 : Inv X pins σ H3 { s3 with heap := s3.heap.push { cls := .type "slice", data := .fields #[vl, vu, .none] } } := I3.kept (t' := s3.toks) fun b ob q => ay1 _ q;obtain ⟨T, id, hT, ht, hg⟩ := hr pins { s3 with heap := s3.heap.push { cls := .type "slice", data := .fields #[vl, vu, .none] } } σ H3 x v vl vu l u s3.heap.objs.size Q I4 r1 (Heap.IsSliceOf.new ..) pl pu q3;show wpAny (model X.prog X.w) X.A (subscriptTail e (.Slice lo hi none p2) v (.ref s3.heap.objs.size)) (EP X pins σ Q) X.xe { s3 with heap := s3.heap.push { cls := .type "slice", data := .fields #[vl, vu, .none] } };exact tail_any (ops := [.ref s3.heap.objs.size, v]) ht hT hg (by with_unfolding_all rfl)
def zJ6 (xs : List V) (lo hi : Option Int) : List V := (xs.drop (HT.sIx xs.length 0 lo)).take (HT.sIx xs.length xs.length hi - HT.sIx xs.length 0 lo)
theorem zu2 (xs : List V) (lo hi : Option Int) : (zJ6 xs lo hi).length <= xs.length := by
 unfold zJ6;rw [dy2, List.length_drop];omega
def rSlT (K : ay5) : V -> Option Int -> Option Int -> Hp -> VK -> Prop := fun x lo hi H Q => ∃ a xs, x = .ref a /\ SqT K H a xs /\
 ¬ (HT.sIx xs.length 0 lo = 0 /\ HT.sIx xs.length xs.length hi = xs.length) /\ ∀ p, H p = none -> Q (.ref p) (upd H p (.tup (zJ6 xs lo hi)))
theorem zb99 : SlR X (rSlT X.K) := by
 intro pins s σ H x v vl vu lo hi sl Q I rx hs pl pu h;obtain ⟨a, xs, rfl, hx, hw, q⟩ := h;cases rx;obtain ⟨its, r, ht, hz⟩ := I.tuple hx;have hlen : its.toArray.size = xs.length := by rw [cy0]; exact r.length.symm
 refine ⟨"tuple", _, hy8.lookup, ht.typeIs, ?_⟩;refine HT.zq1 ht hs pl pu (by rw [hlen]; exact hw) ?_ (by rw [hlen]; exact hz);rw [hlen];refine ⟨.ref s.heap.objs.size, _, I.laid (t' := s.toks) (o := .tup (zJ6 xs lo hi)) (fun b ob q => ay1 _ q) (ay6 _) ?_, rfl, q _ (I.hok.fresh (ay6 _))⟩;exact ⟨dy9 (zu2 xs lo hi) hz, _, (r.drop (HT.sIx xs.length 0 lo)).take (HT.sIx xs.length xs.length hi - HT.sIx xs.length 0 lo), IsTup.new _ _⟩
def ze51 (K : ay5) : R2 := fun x y H Q => ∃ a b xs ys, x = .ref a /\ y = .ref b /\ SqT K H a xs /\ SqT K H b ys /\ xs ≠ [] /\ xs.length + ys.length <= by2 /\
 (ys = [] -> Q (.ref a) H) /\ (ys ≠ [] -> ∀ p, H p = none -> Q (.ref p) (upd H p (.tup (xs ++ ys))))
theorem Vals.zz3 {xs : List V} {us : List Value} (r : Vals xs us) : us = [] ↔ xs = [] := by
 cases r with
 | nil => simp
 | cons _ _ => simp
theorem zc43 : OpR X (oy3 .Add) (ze51 X.K) := by
 intro pins s σ H x y v u Q I rx ry h;obtain ⟨a, b, xs, ys, rfl, rfl, ha, hb, hx, hz, q1, q2⟩ := h;cases rx;cases ry;obtain ⟨its, r1, p1, _⟩ := I.tuple ha;obtain ⟨its2, r2, p2, _⟩ := I.tuple hb;refine HT.zc39 p1 p2 (fun z => hx (r1.zz3.mp z)) (fun z => ⟨.ref a, H, I, rfl, q1 (r2.zz3.mp z)⟩) (fun z => ?_) (by rw [<- r1.length, <- r2.length]; exact hz);refine ⟨.ref s.heap.objs.size, _, I.laid (t' := s.toks) (o := .tup (xs ++ ys)) (fun b ob q => ay1 _ q) (ay6 _) ?_, rfl, q2 (fun w => z (r2.zz3.mpr w)) _ (I.hok.fresh (ay6 _))⟩;exact ⟨by rw [cy1]; exact hz, _, r1.append r2, IsTup.new _ _⟩
end
def ixN (n : Nat) (i : Int) : Option Nat := if 0 <= i then (if i < n then some i.toNat else none) else if -(n : Int) <= i then some (i + n).toNat else none
def atI {α : Type} (xs : List α) (i : Int) : Option α := (ixN xs.length i).bind fun j => xs[j]?
theorem zZ9 {n : Nat} {i : Int} {j : Nat} (h : ixN n i = some j) : seqIndex? i n = some j /\ j < n /\ -(n : Int) <= i /\ i < n := by
 unfold ixN at h
 by_cases h0 : 0 <= i
 ·rw [if_pos h0] at h
  by_cases h1 : i < n
  ·rw [if_pos h1] at h;have e : i.toNat = j := jy2 h;exact ⟨by rw [seqIndex_of h0 h1, e], by omega, by omega, h1⟩
  ·rw [if_neg h1] at h; cases h
 ·rw [if_neg h0] at h
  by_cases h1 : -(n : Int) <= i
  ·rw [if_pos h1] at h;have e : (i + n).toNat = j := jy2 h;exact ⟨by rw [seqIndex_neg (by omega) h1, e], by omega, h1, by omega⟩
  ·rw [if_neg h1] at h; cases h
theorem za00 {α : Type} {xs : List α} {i : Int} {v : α} (h : atI xs i = some v) : ∃ j, seqIndex? i xs.length = some j /\ xs[j]? = some v /\ j < xs.length /\ -(xs.length : Int) <= i /\ i < xs.length := by
 unfold atI at h;cases e : ixN xs.length i with
 | none => rw [e] at h; cases h
 | some j =>
  rw [e] at h;obtain ⟨h1, h2, h3, h4⟩ := zZ9 e;exact ⟨j, h1, h, h2, h3, h4⟩
def za01 (b : Expr) : Prop := ∀ o i, subscripted b false o i = operate [o, i] (getItem o i)
def IxR (X : Cx) (r : R2) : Prop :=
 ∀ (value slice : Expr) (pins : List (Addr × Obj)) (s : Shared) (σ : St) (H : Hp) (x y : V) (v u : Value) (Q : VK), Inv X pins σ H s -> RelV x v -> RelV y u -> r x y H Q ->
  subscripted slice false v u = operate [v, u] (getItem v u) -> wpAny (model X.prog X.w) X.A (subscriptTail value slice v u) (EP X pins σ Q) X.xe s
def MtR (X : Cx) (id : String) (r : V -> List V -> Hp -> VK -> Prop) : Prop :=
 ∀ (pins : List (Addr × Obj)) (s : Shared) (σ : St) (H : Hp) (x : V) (xs : List V) (v : Value) (us : List Value) (Q : VK), Inv X pins σ H s -> RelV x v -> Vals xs us -> r x xs H Q ->
  wpAny (model X.prog X.w) X.A (call (.builtin id) (v :: us)) (EP X pins σ Q) X.xe s
section
variable {X : Cx} {a b : Expr} {ta tb : TE} {pos : Pos}
theorem ze52 {r : R2} (hr : IxR X r) (ha : PE X a ta) (hb : PE X b tb) (hs : za01 b) : PE X (.Subscript a b pos) (tOp r ta tb) := by
 intro pins s σ H Q I h;exact Subscript_ (binT ha hb I h fun v u s2 x y H2 I2 rx ry q => hr a b pins s2 σ H2 x y v u Q I2 rx ry q (hs _ _))
def rIxL (K : ay5) : R2 := fun x y H Q => ∃ p xs i v, x = .ref p /\ y = .int i /\ SqL K H p xs /\ atI xs i = some v /\ Q v H
def rIxT (K : ay5) : R2 := fun x y H Q => ∃ p xs i v, x = .ref p /\ y = .int i /\ SqT K H p xs /\ atI xs i = some v /\ Q v H
theorem za02 : IxR X (rIxL X.K) := by
 intro value slice pins s σ H x y v u Q I rx ry h hs;obtain ⟨p, xs, i, z, rfl, rfl, hq, he, q⟩ := h;cases rx;obtain ⟨t, rfl⟩ := ry;obtain ⟨its, r, pl, hz⟩ := I.list hq;obtain ⟨j, h1, h2, h3, h4, h5⟩ := za00 he;obtain ⟨w, ew, rw'⟩ := r.get h2;have hl := r.length;have hn := zu0;have fin : EP X pins σ Q w s := ⟨z, H, I, rw', q⟩
 by_cases h0 : 0 <= i
 ·have hj : i.toNat = j := by
   rw [seqIndex_of h0 h5] at h1;exact jy2 h1
  exact item_listR pl.isList h0 (by omega) (by rw [hj]; simpa using ew) fin hs
 ·have hj : (i + (its.toArray.size : Int)).toNat = j := by
   rw [seqIndex_neg (by omega) h4] at h1;rw [cy0, <- hl];exact jy2 h1
  exact qy1 (x := w) pl.isList.typeIs slot_list_getitem.lookup
   (wpAny_getItem_list_neg (Q := fun r s' => r = w /\ EP X pins σ Q r s') pl.isList (by omega) (by rw [cy0] <;> omega) (by omega) (by rw [hj]; simpa using ew) ⟨rfl, fin⟩) hs
theorem zd44 : IxR X (rIxT X.K) := by
 intro value slice pins s σ H x y v u Q I rx ry h hs;obtain ⟨p, xs, i, z, rfl, rfl, hq, he, q⟩ := h;cases rx;obtain ⟨t, rfl⟩ := ry;obtain ⟨its, r, pl, hz⟩ := I.tuple hq;obtain ⟨j, h1, h2, h3, h4, h5⟩ := za00 he;obtain ⟨w, ew, rw'⟩ := r.get h2;have hl := r.length;have hn := zu0;have fin : EP X pins σ Q w s := ⟨z, H, I, rw', q⟩
 exact qy1 (x := w) pl.typeIs slot_tuple_getitem.lookup
  (getItem_tuple (j := j) (Q := fun r s' => r = w /\ EP X pins σ Q r s') pl (by omega) (by omega) (by rw [cy0, <- hl]; exact h1) (by simpa using ew) ⟨rfl, fin⟩) hs
theorem zS3 (its : List Value) (n j : Nat) (u : Value) : hy9 (·.setIfInBounds j u) { cls := .type "list", data := .seq its.toArray n } = { cls := .type "list", data := .seq (its.set j u).toArray n } := by
 simp [hy9]
theorem Inv.lst {pins : List (Addr × Obj)} {σ : St} {H : Hp} {s : Shared} {p : Addr} {xs : List V} (I : Inv X pins σ H s) (h : H p = some (.lst xs)) :
  ∃ (its : List Value) (n : Nat), Vals xs its /\ s.heap.get? p = some { cls := .type "list", data := .seq its.toArray n } /\ xs.length <= by2 := by
 obtain ⟨z, its, n, r, e⟩ := I.hok p _ h;exact ⟨its, n, r, e, z⟩
theorem Inv.zd45 {pins : List (Addr × Obj)} {σ : St} {H : Hp} {s : Shared} {p : Addr} {xs ys : List V} {its its' : List Value} {n n' : Nat} {f : Obj -> Obj} (I : Inv X pins σ H s) (h : H p = some (.lst xs))
  (ho : s.heap.get? p = some { cls := .type "list", data := .seq its.toArray n }) (hf : f { cls := .type "list", data := .seq its.toArray n } = { cls := .type "list", data := .seq its'.toArray n' }) (r : Vals ys its') (hz : ys.length <= by2) (t : Nat) :
  Inv X pins σ (upd H p (.lst ys)) { s with heap := s.heap.update p f, toks := t } := by
 have e : (s.heap.update p f).get? p = some { cls := .type "list", data := .seq its'.toArray n' } := by
  rw [fy8 f ho (by rw [hf] <;> rfl), hf]
 refine I.write (x := p) (e := p) (by rw [h]; trivial) (.inl rfl) (fun b u hb q => (dy0 _ _ (fy4 hb)).trans q) ⟨_, e⟩ ?_;exact ⟨hz, its', n', r, e⟩
def ze53 : V -> V -> V -> Hp -> (Hp -> Prop) -> Prop := fun o i v H Q => ∃ p xs k j, o = .ref p /\ i = .int k /\ H p = some (.lst xs) /\ ixN xs.length k = some j /\ Q (upd H p (.lst (xs.set j v)))
theorem set_list : PSet X ze53 := by
 intro pins s σ H o i v ov iv u Q I ro ri rv h;obtain ⟨p, xs, k, j, rfl, rfl, hp, hj, q⟩ := h;cases ro;obtain ⟨t, rfl⟩ := ri;obtain ⟨its, n, r, ho, hz⟩ := I.lst hp;obtain ⟨h1, h2, h3, h4⟩ := zZ9 hj;have hl := r.length;have hn := zu0
 have I' : Inv X pins σ (upd H p (.lst (xs.set j v))) { s with heap := s.heap.update p (hy9 (·.setIfInBounds j u)) } :=
  I.zd45 hp ho (zS3 its n j u) (r.set rv j) (by rw [gy9]; exact hz) s.toks
 by_cases h0 : 0 <= k
 ·have hk : k.toNat = j := by
   rw [seqIndex_of h0 h4] at h1;exact jy2 h1
  exact PySem.W.ki_setAt ho h0 (by omega) (by rw [cy0, <- hl]; exact h4) (by rw [hk]; exact ⟨_, I', q⟩)
 ·have hk : (k + (its.toArray.size : Int)).toNat = j := by
   rw [seqIndex_neg (by omega) h3] at h1;rw [cy0, <- hl];exact jy2 h1
  exact PySem.W.ki_setBack ho (by omega) (by rw [cy0, <- hl]; exact h3) (by omega) (by rw [hk]; exact ⟨_, I', q⟩)
theorem zE7 (lo hi : Option Int) (n : Nat) : (sliceBounds lo hi none n).1 = ((HT.sIx n 0 lo : Nat) : Int) /\ (sliceBounds lo hi none n).2.1 = ((HT.sIx n n hi : Nat) : Int) /\ (sliceBounds lo hi none n).2.2 = 1 := by
 refine ⟨?_, ?_, rfl⟩
 ·cases lo with
  | none => simp [sliceBounds, HT.sIx]
  | some i =>
   simp only [sliceBounds, HT.sIx, Option.getD_none, show (1 : Int) > 0 by decide, if_true]
   by_cases h : i < 0
   ·simp only [h, if_true] <;> omega
   ·simp only [h, if_false] <;> omega
 ·cases hi with
  | none => simp [sliceBounds, HT.sIx]
  | some i =>
   simp only [sliceBounds, HT.sIx, Option.getD_none, show (1 : Int) > 0 by decide, if_true]
   by_cases h : i < 0
   ·simp only [h, if_true] <;> omega
   ·simp only [h, if_false] <;> omega
theorem zz4 (its : List Value) (lo hi : Option Int) : slicePick its.toArray lo hi none = ((its.drop (HT.sIx its.length 0 lo)).take (HT.sIx its.length its.length hi - HT.sIx its.length 0 lo)).toArray := by
 obtain ⟨h1, h2, h3⟩ := zE7 lo hi its.toArray.size;unfold slicePick;rw [h1, h2, h3];simp only [sliceRange_one, pick_run, cy0] <;> rfl
def rSlL (K : ay5) : V -> Option Int -> Option Int -> Hp -> VK -> Prop := fun x lo hi H Q => ∃ a xs, x = .ref a /\ SqL K H a xs /\ ∀ p, H p = none -> Q (.ref p) (upd H p (.lst (zJ6 xs lo hi)))
theorem zJ7 : SlR X (rSlL X.K) := by
 intro pins s σ H x v vl vu lo hi sl Q I rx hs pl pu h;obtain ⟨a, xs, rfl, hx, q⟩ := h;cases rx;obtain ⟨its, r, ht, hz⟩ := I.list hx;have hlen := r.length;refine ⟨"list", _, slot_list_getitem.lookup, ht.isList.typeIs, ?_⟩;refine wpAny_getItem_list_slice ht.isList hs pl pu .none (by simp) ?_ (by rw [cy0] <;> omega);rw [zz4, <- hlen];refine ⟨.ref s.heap.objs.size, _, I.laid (t' := s.toks) (o := .lst (zJ6 xs lo hi)) (fun b ob q => ay1 _ q) (ay6 _) ?_, rfl, q _ (I.hok.fresh (ay6 _))⟩;exact ⟨dy9 (zu2 xs lo hi) hz, _, 0, (r.drop (HT.sIx xs.length 0 lo)).take (HT.sIx xs.length xs.length hi - HT.sIx xs.length 0 lo), ay7 _ rfl⟩
def zz5 : V -> Bool
 | .non => true
 | .bl _ => true
 | .int _ => true
 | .str _ => true
 | _ => false
def eqV : V -> V -> Bool
 | .non, .non => true
 | .bl a, .bl b => a == b
 | .bl a, .int b => (if a then 1 else 0) == b
 | .int a, .bl b => a == (if b then 1 else 0)
 | .int a, .int b => a == b
 | .str a, .str b => a == b
 | _, _ => false
theorem zd46 {A : Around} {s : Shared} {y x : V} {u v : Value} (ry : RelV y u) (rx : RelV x v) (fy : zz5 y = true) (fx : zz5 x = true) : SeqAt.EqAt A s u v (eqV y x) := by
 cases y with
 | non =>
  cases ry;cases x with
  | non => cases rx; exact SeqAt.EqAt.same _
  | bl b => cases rx; exact SeqAt.EqAt.none_bool b
  | int b => obtain ⟨t, rfl⟩ := rx; exact SeqAt.EqAt.none_int b t
  | str b => obtain ⟨t, rfl⟩ := rx; exact SeqAt.EqAt.none_str b t
  | _ => exact absurd (show false = true from fx) by9
 | bl a =>
  cases ry;cases x with
  | non => cases rx; exact SeqAt.EqAt.bool_none a
  | bl b => cases rx; exact SeqAt.EqAt.bool_bool a b
  | int b => obtain ⟨t, rfl⟩ := rx; exact SeqAt.EqAt.bool_int a b t
  | str b => obtain ⟨t, rfl⟩ := rx; exact SeqAt.EqAt.bool_str a b t
  | _ => exact absurd (show false = true from fx) by9
 | int a =>
  obtain ⟨t', rfl⟩ := ry;cases x with
  | non => cases rx; exact SeqAt.EqAt.int_none a t'
  | bl b => cases rx; exact SeqAt.EqAt.int_bool a t' b
  | int b => obtain ⟨t, rfl⟩ := rx; exact SeqAt.EqAt.int_int a t' b t
  | str b => obtain ⟨t, rfl⟩ := rx; exact SeqAt.EqAt.int_str a t' b t
  | _ => exact absurd (show false = true from fx) by9
 | str a =>
  obtain ⟨t', rfl⟩ := ry;cases x with
  | non => cases rx; exact SeqAt.EqAt.str_none a t'
  | bl b => cases rx; exact SeqAt.EqAt.str_bool a t' b
  | int b => obtain ⟨t, rfl⟩ := rx; exact SeqAt.EqAt.str_int a t' b t
  | str b => obtain ⟨t, rfl⟩ := rx; exact SeqAt.EqAt.str_str a t' b t
  | _ => exact absurd (show false = true from fx) by9
 | _ => exact absurd (show false = true from fy) by9
def eqU (x : V) (u : Value) : Bool := match u with
 | .none => eqV .non x
 | .bool b => eqV (.bl b) x
 | .int i _ => eqV (.int i) x
 | .str z _ => eqV (.str z) x
 | _ => false
theorem zc00 {x y : V} {u : Value} (r : RelV y u) (f : zz5 y = true) : eqU x u = eqV y x := by
 cases y with
 | non => cases r; rfl
 | bl b => cases r; rfl
 | int i => obtain ⟨t, rfl⟩ := r; rfl
 | str z => obtain ⟨t, rfl⟩ := r; rfl
 | _ => exact absurd (show false = true from f) by9
theorem zJ8 {x : V} : ∀ {xs : List V} {us : List Value}, Vals xs us -> xs.all zz5 = true -> us.any (eqU x) = xs.any fun y => eqV y x
 | _, _, .nil, _ => rfl
 | y :: xs, u :: us, .cons r t, f => by
  rw [List.all_cons, ty6] at f;rw [ty0, ty0, zc00 r f.1, zJ8 t f.2]
theorem zz6 {A : Around} {s : Shared} {x : V} {v : Value} (rx : RelV x v) (fx : zz5 x = true) : ∀ {xs : List V} {us : List Value}, Vals xs us -> xs.all zz5 = true -> ∀ u ∈ us, SeqAt.EqAt A s u v (eqU x u)
 | _, _, .nil, _ => fun u hu => by cases hu
 | y :: xs, u :: us, .cons r t, f => fun u' hu => by
  rw [List.all_cons, ty6] at f;rcases by7.mp hu with rfl | hu
  ·rw [zc00 r f.1]; exact zd46 r rx f.1 fx
  ·exact zz6 rx fx t f.2 u' hu
def inV (x : V) (xs : List V) : Bool := xs.any fun y => eqV y x
def rIn (K : ay5) (neg : Bool) : R2 := fun x y H Q => ∃ p xs, y = .ref p /\ (SqL K H p xs \/ SqT K H p xs) /\ zz5 x = true /\ xs.all zz5 = true /\ Q (.bl (if neg then !inV x xs else inV x xs)) H
theorem zE8 : OpR X (hy5 .NotIn) (rIn X.K true) := by
 intro pins s σ H x y v u Q I rx ry h;obtain ⟨p, xs, rfl, hq, fx, fs, q⟩ := h;cases ry;rcases hq with hq | hq
 ·obtain ⟨its, r, pl, hz⟩ := I.list hq;refine SeqAt.notIn_listAt (eqU x) pl.isList (fun w hw => zz6 rx fx r fs w (by simpa using hw)) ⟨.bl _, H, I, rfl, ?_⟩;rw [show its.toArray.any (eqU x) = its.any (eqU x) by simp, zJ8 r fs];exact q
 ·obtain ⟨its, r, pl, hz⟩ := I.tuple hq;refine SeqAt.notIn_tupleAt (eqU x) pl (fun w hw => zz6 rx fx r fs w (by simpa using hw)) ⟨.bl _, H, I, rfl, ?_⟩;rw [show its.toArray.any (eqU x) = its.any (eqU x) by simp, zJ8 r fs];exact q
theorem zr4 : zj0 X (.builtin "len") (fun xs H Q => ∃ p ys, xs = [.ref p] /\ (SqL X.K H p ys \/ SqT X.K H p ys) /\ Q (.int ys.length) H) := by
 intro pins s σ H xs us Q I r h;obtain ⟨p, ys, rfl, hq, q⟩ := h;obtain ⟨u, rfl, rx⟩ := vals1 r;cases rx;have hn := zu0;rcases hq with hq | hq
 ·obtain ⟨its, r', pl, hz⟩ := I.list hq;have hlen := r'.length;exact Calls.call_len_list pl.isList (by simp only [cy0] <;> omega) ⟨.int ys.length, H, I.tok _, ⟨s.toks + 1, by rw [cy0, hlen]⟩, q⟩
 ·obtain ⟨its, r', pl, hz⟩ := I.tuple hq;have hlen := r'.length;exact len_tuple pl (by simp only [cy0] <;> omega) ⟨.int ys.length, H, I.tok _, ⟨s.toks + 1, by rw [cy0, hlen]⟩, q⟩
theorem zE9 : zj0 X (.builtin "len") (fun xs H Q => ∃ z, xs = [.str z] /\ z.length <= by2 /\ Q (.int z.length) H) := by
 intro pins s σ H xs us Q I r h;obtain ⟨z, rfl, hz, q⟩ := h;obtain ⟨u, rfl, t, rfl⟩ := vals1 r;have hn := zu0;exact len_str (by omega) ⟨.int z.length, H, I.tok _, ⟨_, rfl⟩, q⟩
theorem zr5 : zj0 X (.type "list") (fun xs H Q => ∃ p ys, xs = [.ref p] /\ (SqL X.K H p ys \/ SqT X.K H p ys) /\ ∀ l, H l = none -> Q (.ref l) (upd H l (.lst ys))) := by
 intro pins s σ H xs us Q I r h;obtain ⟨p, ys, rfl, hq, q⟩ := h;obtain ⟨u, rfl, rx⟩ := vals1 r;cases rx
 have fin : ∀ (its : List Value), Vals ys its -> ys.length <= by2 -> ∀ (h' : Heap) (c' : Nat), (∀ b o', s.heap.get? b = some o' -> h'.get? b = some o') ->
   h'.get? s.heap.objs.size = some { cls := .type "list", dict := none, data := .seq its.toArray c', slots := #[] } -> EP X pins σ Q (.ref s.heap.objs.size) { s with heap := h' } := fun its r' hz h' c' kp e =>
  ⟨.ref s.heap.objs.size, _, I.laid (t' := s.toks) kp (ay6 _) (show zb6 X.prog X.w _ h' _ (.lst ys) from ⟨hz, its, c', r', e⟩), rfl, q _ (I.hok.fresh (ay6 _))⟩
 rcases hq with hq | hq
 ·obtain ⟨its, r', pl, hz⟩ := I.list hq;have hlen := r'.length;obtain ⟨o, ho, hc, n, hd⟩ := pl.isList;exact call_list_seq p (.inl rfl) ho hc hd (fun h' c' kp e => fin its r' hz h' c' kp e) (by simp only [cy0] <;> omega)
 ·obtain ⟨its, r', pl, hz⟩ := I.tuple hq;have hlen := r'.length;obtain ⟨o, ho, hc, n, hd⟩ := pl;exact call_list_seq p (.inr rfl) ho hc hd (fun h' c' kp e => fin its r' hz h' c' kp e) (by simp only [cy0] <;> omega)
theorem zz7 : zj0 X (.type "tuple") (fun xs H Q => ∃ p ys, xs = [.ref p] /\ ((SqL X.K H p ys /\ ∀ l, H l = none -> Q (.ref l) (upd H l (.tup ys))) \/ (SqT X.K H p ys /\ Q (.ref p) H))) := by
 intro pins s σ H xs us Q I r h;obtain ⟨p, ys, rfl, h⟩ := h;obtain ⟨u, rfl, rx⟩ := vals1 r;cases rx;rcases h with ⟨hq, q⟩ | ⟨hq, q⟩
 ·obtain ⟨its, r', pl, hz⟩ := I.list hq;have hlen := r'.length;refine call_tuple_list pl.isList (fun h' kp => ?_) (by simp only [cy0] <;> omega);have I1 : Inv X pins σ H { s with heap := h' } := I.kept (t' := s.toks) kp
  have I2 : Inv X pins σ (upd H h'.objs.size (.tup ys)) { s with heap := h'.push { cls := .type "tuple", data := .seq its.toArray } } :=
   I1.laid (t' := s.toks) (fun b o e => ay1 _ e) (ay6 _) (show zb6 X.prog X.w _ _ _ (.tup ys) from ⟨hz, its, r', IsTup.new _ _⟩)
  exact ⟨.ref h'.objs.size, _, I2, rfl, q _ (I1.hok.fresh (ay6 _))⟩
 ·obtain ⟨its, r', pl, hz⟩ := I.tuple hq;exact call_tuple_same pl ⟨.ref p, H, I, rfl, q⟩
def tyV (K : ay5) (T : String) (x : V) (H : Hp) : Prop := match x with
 | .str _ => T = "str"
 | .int _ => T = "int"
 | .ref p => (T = "list" /\ ∃ xs, SqL K H p xs) \/ (T = "tuple" /\ ∃ o, K.lookup p = some o /\ o.cls = .type "tuple" /\ o.dict = none) \/
   (T = "dict" /\ ((∃ kvs, H p = some (.dK kvs)) \/ ∃ kvs, H p = some (.dT kvs))) \/ (T = "set" /\ ∃ S n, H p = some (.set S n))
 | _ => False
theorem zd47 {pins : List (Addr × Obj)} {σ : St} {H : Hp} {s : Shared} {T : String} {x : V} {v : Value} (I : Inv X pins σ H s) (r : RelV x v) (ty : tyV X.K T x H) :
  s.TypeIs v T /\ ∀ a, v = .ref a -> ∃ ob, s.heap.get? a = some ob /\ ob.dict = none := by
 cases x with
 | str z =>
  obtain ⟨t, rfl⟩ := r;cases (show T = "str" from ty);exact ⟨typeIs_str s z t, fun _ e => nomatch e⟩
 | int i =>
  obtain ⟨t, rfl⟩ := r;cases (show T = "int" from ty);exact ⟨typeIs_int s i t, fun _ e => nomatch e⟩
 | ref p =>
  cases r;rcases ty with ⟨rfl, xs, hq⟩ | ⟨rfl, o, hk, hc, hd⟩ | ⟨rfl, hk⟩ | ⟨rfl, S, n, hk⟩
  ·obtain ⟨its, _, pl, _⟩ := I.list hq;refine ⟨pl.isList.typeIs, fun a e => ?_⟩;cases e;obtain ⟨o, n, e, c, hd, _⟩ := pl;exact ⟨o, e, hd⟩
  ·refine ⟨⟨o, I.kIn p o hk, hc⟩, fun a e => ?_⟩;cases e;exact ⟨o, I.kIn _ o hk, hd⟩
  ·have z : ∃ o, s.heap.get? p = some o /\ o.ExactDict := by
    rcases hk with ⟨kvs, hk⟩ | ⟨kvs, hk⟩
    ·obtain ⟨_, _, _, _, o, _, _, e, ex, _⟩ := I.hok p _ hk;exact ⟨o, e, ex⟩
    ·obtain ⟨_, _, _, _, o, _, _, e, ex, _⟩ := I.hok p _ hk;exact ⟨o, e, ex⟩
   obtain ⟨o, e, ex⟩ := z;refine ⟨⟨o, e, ex.1⟩, fun a e2 => ?_⟩;cases e2;exact ⟨o, e, ex.2.1⟩
  ·obtain ⟨o, _, _, _, e, ex, _⟩ := I.hok p _ hk;refine ⟨⟨o, e, ex.1⟩, fun a e2 => ?_⟩;cases e2;exact ⟨o, e, ex.2.1⟩
 | _ => exact vy4 ty
def tBM (K : ay5) (T : String) (r : V -> List V -> Hp -> VK -> Prop) (to : TE) (t : TA) : TE := fun σ H Q => to σ H fun x H1 => tyV K T x H1 /\ t σ H1 fun xs H2 => r x xs H2 Q
variable {o e : Expr} {es : List Expr} {to : TE} {t : TA} {name : Str} {apos cpos : Pos} {T id : String} {r : V -> List V -> Hp -> VK -> Prop}
theorem ze54 (pa : PlainAttrs T) (slot : Slot T name id) (hty : typeOf (.builtin id) = pure (.type "method_descriptor")) (hm : MtR X id r) (ho : PE X o to) (ha : PA X (e :: es) t)
  (hbase : oy9 o name X.env (eval o X.env) = eval o X.env := by rfl)
  (hfew : ((backTo cpos (fy6 (e :: es) X.env)).all (fun x => !x.1) && (backToKw cpos (keywordEach [] X.env)).all (fun x => x.1.isSome)
   && decide ((e :: es).length + ([] : List Keyword).length + (if ([] : List Keyword).isEmpty then 0 else 1) < 30)) = true := by rfl)
  (hline : (apos.endLine == cpos.line) = true := by rfl) (hs : fy6 (e :: es) X.env = (false, eval e X.env) :: fy6 es X.env := by rfl) (hplain : (backTo cpos (fy6 es X.env)).any (·.1) = false := by rfl) :
  PE X (.Call (.Attribute o name apos) (e :: es) [] cpos) (tBM X.K T r to t) := by
 intro pins s σ H Q I h;refine wpAny_Call_method_late hbase hfew hline rfl (thn (ho pins s σ H _ I h) fun v s1 ⟨x, H1, I1, r1, ty, q1⟩ => ?_);obtain ⟨h1, h2⟩ := zd47 I1 r1 ty;refine ⟨T, id, pa, slot, hty, h1, h2, ?_⟩;have hA := ha cpos pins s1 σ H1 _ I1 q1;rw [hs] at hA ⊢;refine uy1 (by show (false || (backTo cpos (fy6 es X.env)).any (·.1)) = false; rw [hplain] <;> rfl) (Calls.evalArgs_plain ?_);exact thn hA fun us s2 ⟨vs, H2, I2, r2, q2⟩ => hm pins s2 σ H2 x vs v us Q I2 r1 r2 q2
end
def MtM (X : Cx) (id : String) (r : V -> List V -> Hp -> VK -> Prop) : Prop :=
 ∀ (pins : List (Addr × Obj)) (s : Shared) (σ : St) (H : Hp) (x : V) (xs : List V) (v : Value) (us : List Value) (Q : VK), Inv X pins σ H s -> RelV x v -> Vals xs us -> r x xs H Q ->
  wpAny (model X.prog X.w) X.A (call (.builtin id) (v :: us)) (EP X pins σ Q) X.xe s
theorem Vals.one {x : V} {us : List Value} (h : Vals [x] us) : ∃ u, us = [u] /\ RelV x u := by
 cases h with
 | cons r t => cases t; exact ⟨_, rfl, r⟩
theorem Vals.two {x y : V} {us : List Value} (h : Vals [x, y] us) : ∃ u v, us = [u, v] /\ RelV x u /\ RelV y v := by
 cases h with
 | cons r t => cases t with
  | cons q t => cases t; exact ⟨_, _, rfl, r, q⟩
theorem Vals.eraseIdx : ∀ {xs : List V} {us : List Value} (i : Nat), Vals xs us -> Vals (xs.eraseIdx i) (us.eraseIdx i)
 | _, _, _, .nil => .nil
 | _, _, 0, .cons _ t => t
 | _, _, i + 1, .cons r t => .cons r (Vals.eraseIdx i t)
theorem zF0 {α : Type} : ∀ (l : List α) (i : Nat), (l.eraseIdx i).length <= l.length
 | [], _ => ay6 _
 | _ :: _, 0 => ry1 _
 | _ :: r, i + 1 => Nat.succ_le_succ (zF0 r i)
section
variable {X : Cx} {pins : List (Addr × Obj)} {σ : St} {H : Hp} {s : Shared} {l b : Addr} {xs ys zs : List V}
theorem Inv.lset {its its' : List Value} {n : Nat} {f : Array Value -> Array Value} {t' : Nat} (I : Inv X pins σ H s) (hH : H l = some (.lst xs))
  (e : s.heap.get? l = some { cls := .type "list", data := .seq its.toArray n }) (hf : f its.toArray = its'.toArray) (hv : Vals ys its') (hz : ys.length <= by2) :
  Inv X pins σ (upd H l (.lst ys)) { s with heap := s.heap.update l (hy9 f), toks := t' } := by
 have q := PySem.IsL.update e f;rw [hf] at q;refine I.write (x := l) (e := l) (by rw [hH]; exact trivial) (.inl rfl) (fun b' u hb hu => (dy0 s.heap (hy9 f) (fy4 hb)).trans hu) ⟨_, q⟩ ?_;exact ⟨hz, its', _, hv, q⟩
theorem Inv.lnew {its : List Value} {t' : Nat} (I : Inv X pins σ H s) (hv : Vals ys its) (hz : ys.length <= by2) :
  Inv X pins σ (upd H s.heap.objs.size (.lst ys)) { s with heap := s.heap.push { cls := .type "list", data := .seq its.toArray }, toks := t' } :=
 I.laid (fun _ _ q => ay1 _ q) (ay6 _) ⟨hz, its, 0, hv, ay7 _ rfl⟩
theorem Inv.fresh (I : Inv X pins σ H s) : H s.heap.objs.size = none := I.hok.fresh (ay6 _)
theorem Inv.lstM (I : Inv X pins σ H s) (hH : H l = some (.lst xs)) : xs.length <= by2 /\ ∃ (its : List Value) (n : Nat), Vals xs its /\ xs.length = its.length /\ s.heap.get? l = some { cls := .type "list", data := .seq its.toArray n } := by
 obtain ⟨z, its, n, r, e⟩ := I.hok l _ hH;exact ⟨z, its, n, r, r.length, e⟩
end
section
variable {X : Cx}
def zc44 : V -> List V -> Hp -> VK -> Prop := fun x vs H Q => ∃ l xs y, x = .ref l /\ vs = [y] /\ H l = some (.lst xs) /\ xs.length < by2 /\ Q .non (upd H l (.lst (xs ++ [y])))
theorem za03 : MtM X "list.append" zc44 := by
 intro pins s σ H x vs v us Q I rx rv h;obtain ⟨l, xs, y, rfl, rfl, hH, hz, q⟩ := h;cases rx;obtain ⟨u, rfl, ru⟩ := rv.one;obtain ⟨z, its, n, r, hl, e⟩ := I.lstM hH;refine call_meets F.slot_list_append ⟨_, e, rfl⟩ F.entry_list_append (F.args_list_append_2 _ _) (PySem.list_append l its.toArray n u (by rw [cy0]; omega)) ⟨e, ?_⟩;refine ⟨.non, _, I.lset (its' := its ++ [u]) hH e (by simp) (r.append (.cons ru .nil)) ?_, rfl, q⟩;rw [cy1, qy5];omega
def zd48 : V -> List V -> Hp -> VK -> Prop := fun x vs H Q => ∃ l xs i k y, x = .ref l /\ vs = [.int i] /\ H l = some (.lst xs) /\ -(2 ^ 63) <= i /\ i < 2 ^ 63 /\ seqIndex? i xs.length = some k /\ xs[k]? = some y /\ Q y (upd H l (.lst (xs.eraseIdx k)))
theorem zb25 : MtM X "list.pop" zd48 := by
 intro pins s σ H x vs v us Q I rx rv h;obtain ⟨l, xs, i, k, y, rfl, rfl, hH, h1, h2, hk, hy, q⟩ := h;cases rx;obtain ⟨u, rfl, ru⟩ := rv.one;obtain ⟨t, rfl⟩ := ru;obtain ⟨z, its, n, r, hl, e⟩ := I.lstM hH;obtain ⟨w, hw, rw'⟩ := r.get hy
 refine call_meets F.slot_list_pop ⟨_, e, rfl⟩ F.entry_list_pop (F.args_list_pop_2 _ _)
  (MeetsSeq.list_pop_at l its.toArray n i t k w (fitsIndex_both h1 h2) (by rw [cy0, <- hl]; exact hk) (by rw [<- jy6]; exact hw) (by rw [cy0]; omega)) ⟨e, ?_⟩
 refine ⟨y, _, I.lset (its' := its.eraseIdx k) hH e ?_ (r.eraseIdx k) ?_, rw', q⟩
 ·show its.toArray.eraseIdxIfInBounds k = (its.eraseIdx k).toArray;rw [List.eraseIdxIfInBounds_toArray]
 ·have := zF0 xs k;omega
end
section
variable {prog : cy8} {w : World} {A : Around} {E : Value -> Shared -> Prop} {s : Shared}
end
section
variable {X : Cx}
end
end L2
namespace Att
open PySem PySem.W PySem.Calls PyProof.Rows
theorem zu3 {P : Params} {h : Heap} : ∀ (ns : List Int) (vs : List Value), WellAll P h vs (ns.map WData.int) -> IntsAre vs ns := by
 intro ns
 induction ns with
 | nil =>
  intro vs w;rw [List.map_nil] at w;cases w;exact .nil
 | cons n ns ih =>
  intro vs w;rw [ey6] at w;cases w with
  | cons a b =>
   cases a;exact .cons _ _ (ih _ b)
theorem za04 {l : OpenLaw} {n : Nat} (hn : l.most = some n) {P : Params} {h : Heap} {args : List WData} {vals : List Value}
  (hpre : l.row.toRowW.claim.pre args = true) (hwl : WellAll P h vals args) :
  ∃ a vs ns, vals = [cy7 a] /\ args = [WData.list (ns.map WData.int)] /\ h.get? a = some { cls := .type "list", data := .seq vs.toArray } /\ IntsAre vs ns /\ ns.length <= n := by
 have hsh : WShape.hasAll [] args [.list .int] = true := (pre_splitW hpre).1;have hc : l.pre.holds [] { args := args } = true := (pre_splitW hpre).2;obtain ⟨d, r, rfl, h1, h2⟩ := hasAllW_cons hsh;obtain rfl := hasAllW_nil h2;obtain ⟨xs, rfl, h3⟩ := hasW_list h1;obtain ⟨ns, rfl⟩ := items_int h3
 have hlen : ns.length <= n := by
  unfold OpenLaw.pre at hc
  have h4 : (WTm.not (.lt (.lit (.int (n : Int))) (.len (.arg 0)))).holds [] { args := [.list (ns.map .int)] } = true := by
   have h4 := (holds_andW hc).1;rw [hn] at h4;exact h4
  have h5 := condW_of h4 (w_not (w_lt w_lit (w_len_list (w_arg rfl))));rw [ay4] at h5;refine Nat.le_of_not_lt fun q => ?_;have q' : (n : Int) < ((ns.length : Nat) : Int) := by omega
  first
   | (rw [decide_eq_true q'] at h5; exact absurd h5 (by decide))
   | (simp at h5; omega)
 cases hwl with
 | cons w1 w2 =>
  cases w2;cases w1 with
  | list ho hall => exact ⟨_, _, ns, rfl, rfl, ho, zu3 ns _ hall, hlen⟩
theorem za05 (l : OpenLaw) (args : List WData) : l.row.toRowW.claim.post args (.bool true) args = true :=
 postW_of (r := l.row.toRowW) (X := (true == true))
  (show WShape.has [] (.bool true) .bool = true by first | rfl | decide | simp [WShape.has, WShape.arms, WShape.armsAll])
  (show (WTm.eq .res (.lit (.bool true))).value [] { args := args, res := some (.bool true), after := args } = some (.bool (true == true)) from w_eq_bool (w_res rfl) w_lit) rfl
section
variable {prog : cy8} {w : World} {A : Around} {E : Value -> Shared -> Prop} {s : Shared} {K : Frag}
end
end Att
namespace L2
open PySem PySem.Spec PyProof.Rows
theorem zF1 : ∀ {vs : List Value} {ns : List Int}, IntsAre vs ns -> Vals (ns.map V.int) vs
 | _, _, .nil => .nil
 | _, _, .cons n t h => .cons ⟨t, rfl⟩ (zF1 h)
def Only (H : Hp) : Prop := ∀ b, H b = none \/ ∃ o xs, H b = some (.frz o (.lst xs))
theorem zb26 {P : cy8} {w : World} {K : ay5} {mg mb : Str -> Option Value} {CX : CXT} {k : Nat} {fa a : Addr} {fd : fy7} {x : Str} {sp : Sp} {s₁ : Shared} {vs : List Value} {ns : List Int}
  (KX : K.In s₁.heap) (hns : s₁.heap.Ns cy2 mg) (hb : s₁.heap.Ns builtinsNs mb) (hbb : ∀ x : Str, x ≠ "__name__" -> mb x = fy2 x) (hlim : s₁.heap.NoLimit) (hg : s₁.gens = #[])
  (ha : s₁.heap.get? a = some { cls := .type "list", data := .seq vs.toArray }) (hi : IntsAre vs ns) (hl : ns.length <= by2) (hr : zz2 k callerA)
  (F : ∀ base : Heap, K.In base -> base.Ns cy2 mg -> zj9 P w K mg base CX k fa fd [x] sp) (hbind : ∀ (s : Shared) (u : Value), BindsTo s fd ⟨[u], []⟩ [(x, u)])
  (hsp : ∀ H : Hp, Only H -> SqL K H a (ns.map V.int) -> sp [.ref a] H (fun v _ => v = .bl true) fun _ _ _ => False)
  (hCX : ∀ H e s', CX [] H s₁ (fun _ _ _ => False) e s' -> False) :
  ly4 (model P w) callerA (.call (.ref fa) ⟨[.ref a], []⟩) (fun r s' => r = .ok (.ret (.bool true)) /\ OldK s₁.heap s'.heap /\ s'.os = s₁.os /\ AllBare s'.gens) s₁ := by
 have rv := zF1 hi;have lenV := hi.length
 have core : ∀ H : Hp, Only H -> SqL K H a (ns.map V.int) -> HOk P w H s₁.heap -> (∀ b, H b ≠ none -> b = a) -> (H a ≠ none -> K.lookup a = none) ->
   ly4 (model P w) callerA (.call (.ref fa) ⟨[.ref a], []⟩) (fun r s' => r = .ok (.ret (.bool true)) /\ OldK s₁.heap s'.heap /\ s'.os = s₁.os /\ AllBare s'.gens) s₁ := by
  intro H hO hS hok hA hK;have base_of : ∀ {b : Addr} {o : Obj}, s₁.heap.get? b = some o -> H b = none -> (hidT s₁.heap H).get? b = some o := fun e n => zb13 e n
  have noA : ∀ {b : Addr} {o : Obj} {es : Array my5} {ep : Nat}, s₁.heap.get? b = some o -> o.data = .dict es ep -> H b = none := fun {b o es ep} e d => by
   cases q : H b with
   | none => rfl
   | some u =>
    have e' : b = a := hA b (by rw [q]; simp);subst e';rw [ha] at e; cases e;have d' : Data.seq vs.toArray _ = Data.dict es ep := d;cases d'
  have nsK : ∀ {b : Addr} {m : Str -> Option Value}, s₁.heap.Ns b m -> (hidT s₁.heap H).Ns b m := fun {b m} ⟨o, es, ep, e, d, r⟩ => ⟨o, es, ep, base_of e (noA e d), d, r⟩
  have hKb : K.In (hidT s₁.heap H) := fun b o e => base_of (KX b o e) (by
   cases q : H b with
   | none => rfl
   | some u =>
    have e' : b = a := hA b (by rw [q]; simp);subst e'
    rw [hK (by rw [q]; simp)] at e; cases e)
  have hM : Mod K mg (hidT s₁.heap H) := ⟨hKb, nsK hns, ⟨mb, nsK hb, hbb⟩, let ⟨mc, h1, h2⟩ := hlim; ⟨mc, nsK h1, h2⟩⟩
  have e0 : Env0 P w K mg (hidT s₁.heap H) callerA [] s₁ H := ⟨rfl, hM, fun b o e => zc28 e, Nat.le_of_eq (zX7 _ _), trivial, fun b hb => absurd (show b ∈ ([] : List Addr) from hb) (by simp), hok, .of_eq hg⟩
  refine uy6 ((F _ hKb (nsK hns)).run callerA [] s₁ H ⟨[.ref a], []⟩ [.ref a] [.ref a] _ _ hr e0 (hbind s₁ (.ref a)) (.cons rfl .nil) (hsp H hO hS)) fun r s' h => ?_;cases r with
  | error e => exact (hCX H e s' h).elim
  | ok fl =>
   cases fl with
   | next => exact vy4 h
   | brk => exact vy4 h
   | cont => exact vy4 h
   | ret u =>
    obtain ⟨v, H', os, bare, un, hok', r', q⟩ := h;have q' : v = .bl true := q;subst q';obtain rfl : u = Value.bool true := r';refine ⟨rfl, OldK.of_keep fun b o e => ?_, os, bare⟩;cases q : H b with
    | none => exact un.keep b o e q (by intro z; exact absurd (show b ∈ ([] : List Addr) from z) (by simp)) (by simp)
    | some u =>
     rcases hO b with z | ⟨ob, xs, z⟩
     ·rw [q] at z; cases z
     ·have z2 := un.frzs b ob _ z;obtain ⟨e1, _⟩ := hok b _ z;obtain ⟨e2, _⟩ := hok' b _ z2;rw [e] at e1; cases e1;exact e2
 cases hk : K.lookup a with
 | some o =>
  have e := KX a o hk;rw [ha] at e;cases e;refine core (fun _ => none) (fun _ => .inl rfl) (.inr ⟨_, vs.toArray, _, hk, rfl, rfl, rfl, by rw [cy0, lenV]; exact hl, by simpa using rv⟩) (fun b u z => by have z' : (none : Option HO) = some u := z; cases z') (fun b z => absurd rfl z) fun z => absurd rfl z
 | none =>
  refine core (fun b => if b = a then some (.frz { cls := .type "list", data := .seq vs.toArray } (.lst (ns.map V.int))) else none) (fun b => ?_) (.inl (.inr ⟨{ cls := .type "list", data := .seq vs.toArray }, if_pos rfl⟩)) (fun b u z => ?_) (fun b z => ?_) fun _ => hk
  ·by_cases hb : b = a
   ·exact .inr ⟨_, _, if_pos hb⟩
   ·exact .inl (if_neg hb)
  ·by_cases hb : b = a
   ·have z' := (if_pos hb).symm.trans z;cases z';subst hb;exact ⟨ha, by rw [ay4]; exact hl, vs, _, rv, ha⟩
   ·have z' := (if_neg hb).symm.trans z;cases z'
  ·by_cases hb : b = a
   ·exact hb
   ·exact absurd (if_neg hb) z
def zb9 (s : Stmt) : Arguments := match s with
 | .FunctionDef _ a _ _ _ _ _ _ _ _ => a
 | _ => { posonlyargs := [], args := [], vararg := none, kwonlyargs := [], kw_defaults := [], kwarg := none, defaults := [] }
def za8 (s : Stmt) : List Stmt := match s with
 | .FunctionDef _ _ b _ _ _ _ _ _ _ => b
 | _ => []
def za0 (s : Stmt) : Scope := match s with
 | .FunctionDef _ _ _ _ _ _ sc _ _ _ => sc
 | _ => { kind := .function, names := [], isGenerator := false, isCoroutine := false }
abbrev CX0 : CXT := fun _ _ _ _ _ _ => False
abbrev E0 : XK := fun _ _ _ => False
theorem ze56 {X : Cx} : Passes CX0 X E0 := fun _ _ _ _ _ _ _ h => h.elim
structure Fun (K : ay5) (x qual : Str) (st : Stmt) (f : Addr) (fd : fy7) : Prop where
 ex : ∃ (oc : Value) (od : Option Addr) (kV doc pm : Value) (an : Option Addr) (cdv ct : Value) (osl : Array (Option Value)),
  fd = ey2 x qual (zb9 st) (za8 st) (za0 st) .none kV doc pm an cdv ct /\ K.lookup f = some ⟨oc, od, .func fd, osl⟩ /\ dy7 K cdv qual = true
 kp : dy6 K (.ref f) = true
section
variable {P : cy8} {w : World} {K : ay5} {mg : Str -> Option Value} {base : Heap}
theorem Fun.ok {x qual : Str} {st : Stmt} {f : Addr} {fd : fy7} {N ps : List Str} {k : Nat} {sp : Sp} (F : Fun K x qual st f fd) (S : zc1 N ps (za0 st)) (len : ∀ vs H Q E, sp vs H Q E -> vs.length = ps.length)
  (hbody : ∀ (cdv : Value) (A : Around) (outer : List Env) (s : Shared) (H : Hp) (vs : List V) (Q : VK) (E : XK), zz2 k (A.deeper (envOfC qual (za0 st) s.heap.objs.size f cdv)) -> sp vs H Q E ->
   ∃ t, PSs (cxOf CX0 P w K mg base N qual (za0 st) f cdv A outer s H E).nox (za8 st) t /\ t { nx := fun _ H' => Q .non H', rt := Q } (start N vs) H) : zj9 P w K mg base CX0 (k + 1) f fd ps sp := by
 obtain ⟨oc, od, kV, doc, pm, an, cdv, ct, osl, rfl, lk, hcd⟩ := F.ex;refine ze49 lk hcd S len fun A outer s H vs Q E hr hsp => ?_;obtain ⟨t, h, q⟩ := hbody cdv A outer s H vs Q E hr hsp;exact ⟨t, h.nox, q⟩
theorem Fun.binds {x qual : Str} {st : Stmt} {f : Addr} {fd : fy7} {ps : List Str} (F : Fun K x qual st f fd)
  (h : ∀ (kV doc pm : Value) (an : Option Addr) (cdv ct : Value) (us : List Value), us.length = ps.length -> bindArgs (ey2 x qual (zb9 st) (za8 st) (za0 st) .none kV doc pm an cdv ct) ⟨us, []⟩ = pure (ps.zip us)) : Binds K fd ps [] := by
 obtain ⟨oc, od, kV, doc, pm, an, cdv, ct, osl, rfl, lk, hcd⟩ := F.ex;exact .all (h kV doc pm an cdv ct)
theorem zd3 {x qual : Str} {st : Stmt} {f : Addr} {oc : Value} {od an : Option Addr} {osl : Array (Option Value)} {kV doc pm cdv ct : Value} (l : K.lookup f = some ⟨oc, od, .func (ey2 x qual (zb9 st) (za8 st) (za0 st) .none kV doc pm an cdv ct), osl⟩)
  (c : dy7 K cdv qual = true) (k : dy6 K (.ref f) = true) : Fun K x qual st f (ey2 x qual (zb9 st) (za8 st) (za0 st) .none kV doc pm an cdv ct) := ⟨⟨oc, od, kV, doc, pm, an, cdv, ct, osl, rfl, l, c⟩, k⟩
end
section
variable {X : Cx}
end
theorem zm5 {A B : Prop} (h : B) : if false = true then A else B := by
 rw [if_neg by9];exact h
theorem zo4 {A B : Prop} (h : A) : if true = true then A else B := by
 rw [if_pos rfl];exact h
def zm6 (H H' : Hp) : Prop := ∀ b o, H b = some o -> H' b = some o
theorem zm6.refl (H : Hp) : zm6 H H := fun _ _ h => h
theorem zm6.trans {H H1 H2 : Hp} (a : zm6 H H1) (b : zm6 H1 H2) : zm6 H H2 := fun c o h => b c o (a c o h)
theorem zm6.free {H H' : Hp} (e : zm6 H H') {l : Addr} (h : H' l = Option.none) : H l = Option.none := by
 cases q : H l with
 | none => rfl
 | some o =>
  rw [e l o q] at h;cases h
theorem zm6.seq {K : ay5} {H H' : Hp} {a : Addr} {xs : List V} (e : zm6 H H') (h : SqL K H a xs) : SqL K H' a xs := by
 rcases h with (h | ⟨o, h⟩) | h
 ·exact .inl (.inl (e _ _ h))
 ·exact .inl (.inr ⟨o, e _ _ h⟩)
 ·exact .inr h
section
variable {prog : cy8} {w : World} {A : Around} {R : Result -> Shared -> Prop} {s : Shared}
theorem zF2 {elt target iter : Expr} {ifs : List Expr} {scope : Scope} {pos : Pos} {it acc : Value} {env : Env} (J : Nat -> Shared -> Prop)
  (turn : ∀ n s, J n s -> wpAny (model prog w) A (pyNext it) (fun r s1 => match r with
   | none => R (.ok .next) s1
   | some v => wpAny (model prog w) A (py6 target it v) (fun _ s1' => wpAny (model prog w) A (assign target env v) (fun _ s2 =>
     wpAny (model prog w) A (forIn ifs true fun c r => if r = true then do let ok <- isTrue c env (eval c env); pure (uy8 ok) else pure (uy8 r)) (fun ok s3 =>
      if ok = true then wpAny (model prog w) A (eval elt env) (fun x s4 =>
       wpAny (model prog w) A (call (.builtin "list.append") [acc, x]) (fun _ s5 => ∃ m, m < n /\ J m s5) (fun _ _ => False) s4) (fun _ _ => False) s3
      else ∃ m, m < n /\ J m s3) (fun _ _ => False) s2) (fun _ _ => False) s1') (fun _ _ => False) s1) (fun _ _ => False) s)
  (n : Nat) (h : J n s) : ly4 (model prog w) A (.compLoop (.ListComp elt [⟨target, iter, ifs, 0⟩] scope pos) 0 it acc env) R s := by
 refine codeAny_loop rfl J (fun n s hI => ?_) n h;show wpAny _ A ((compTurn (.ListComp elt [⟨target, iter, ifs, 0⟩] scope pos) 0 it acc env).onRaise (fun x => do noteFrame x env; theTreesLotGoes x)) _ _ s;refine wpAny_noted ?_;rw [compTurn_list];refine ay0 (ly5 (ay0 (fy9 (turn n s hI) (fun r s1 h1 => ?_) fun _ _ h' => h'.elim)));cases r with
 | none => exact ay2 h1
 | some v =>
  refine ay0 (fy9 h1 (fun _ s1' h1' => ?_) fun _ _ h' => h'.elim);refine ay0 (fy9 h1' (fun _ s2 h2 => ay0 (fy9 h2 (fun ok s3 h3 => ?_) fun _ _ h' => h'.elim)) fun _ _ h' => h'.elim);cases ok with
  | false => exact ay2 ⟨rfl, h3⟩
  | true =>
   exact ay0 (ay0 (fy9 h3 (fun x s4 h4 => ay0 (fy9 h4 (fun _ s5 h5 => ay2 (ay2 ⟨rfl, h5⟩)) fun _ _ h' => h'.elim)) fun _ _ h' => h'.elim))
end
def zs8 (cells : List (Str × Addr)) : List (Str × xy2) -> List (Str × Addr) -> List (Str × Addr)
 | [], acc => acc
 | (n, k) :: r, acc => if k == .free then zs8 cells r ((n, (cells.lookup n).getD 0) :: acc) else zs8 cells r acc
theorem zq2 {scope : Scope} {env : Env} (h : ∀ y ∈ scope.names, y.2 = .free -> ∃ c, env.cells.lookup y.1 = some c) : closureFor scope env = pure (zs8 env.cells scope.names []) := by
 have all : ∀ (l : List (Str × xy2)) (acc : List (Str × Addr)), (∀ y ∈ l, y.2 = .free -> ∃ c, env.cells.lookup y.1 = some c) ->
   (forIn l acc (fun (x : Str × xy2) (r : List (Str × Addr)) => match x with | (name, kind) => (if (kind == .free) = true then (do let c <- cellOf env name; pure (uy8 ((name, c) :: r))) else pure (uy8 r) : Sem _))) = (pure (zs8 env.cells l acc) : Sem _) := by
  intro l
  induction l with
  | nil => intro acc _; rfl
  | cons y l ih =>
   intro acc hl;obtain ⟨n, k⟩ := y;rw [List.forIn_cons];unfold zs8
   by_cases hk : (k == py0) = true
   ·obtain ⟨c, hc⟩ := hl (n, k) ay9 (by simpa using hk);have hc' : cellOf env n = pure c := by unfold cellOf; rw [show env.cells.lookup n = some c from hc]
    have hc2 : env.cells.lookup n = some c := hc;simp only [hk, if_true, hc', hc2, pure_bind, Option.getD_some];exact ih _ fun y hy => hl y (by0 _ hy)
   ·simp only [hk, if_false, pure_bind];exact ih _ fun y hy => hl y (by0 _ hy)
 unfold closureFor;have := all scope.names [] h
 first
  | (rw [this]; rfl)
  | (simp only [bind_pure]; exact this)
theorem zz8 {cells : List (Str × Addr)} : ∀ {l : List (Str × xy2)} {acc : List (Str × Addr)}, (∀ y ∈ l, y.2 = .free -> ∃ c, cells.lookup y.1 = some c) -> (∀ x c, acc.lookup x = some c -> cells.lookup x = some c) -> ∀ x c, (zs8 cells l acc).lookup x = some c -> cells.lookup x = some c
 | [], _, _, ha, x, c, e => ha x c e
 | (n, k) :: r, acc, hl, ha, x, c, e => by
  unfold zs8 at e
  split at e
  ·refine zz8 (fun y hy => hl y (by0 _ hy)) (fun z d q => ?_) x c e;rw [oy5] at q
   split at q
   ·rename_i hk _ hz
    obtain ⟨d', hd⟩ := hl (n, k) ay9 (by simpa using hk);have hd : cells.lookup n = some d' := hd;rw [hd] at q;have hz' : z = n := by simpa using hz
    rw [hz', hd];exact q
   ·exact ha z d q
  ·exact zz8 (fun y hy => hl y (by0 _ hy)) ha x c e
theorem zs9 {cells : List (Str × Addr)} : ∀ {l : List (Str × xy2)} {acc : List (Str × Addr)} {x : Str}, ((∃ c, acc.lookup x = some c) \/ (x, py0) ∈ l) -> ∃ c, (zs8 cells l acc).lookup x = some c
 | [], _, _, h => by
  rcases h with h | h
  ·exact h
  ·simp at h
 | (n, k) :: r, acc, x, h => by
  unfold zs8
  split
  ·rename_i hk
   refine zs9 ?_;rcases h with ⟨c, h⟩ | h
   ·refine .inl ?_;rw [oy5]
    split
    ·exact ⟨_, rfl⟩
    ·exact ⟨c, h⟩
   ·rcases by7.mp h with e | h
    ·refine .inl ?_;cases e;rw [oy5];simp
    ·exact .inr h
  ·rename_i hk
   refine zs9 ?_;rcases h with h | h
   ·exact .inl h
   ·rcases by7.mp h with e | h
    ·cases e;exact absurd (by rfl) hk
    ·exact .inr h
theorem zm0 {scope : Scope} {env : Env} {x : Str} : ∀ {l : List (Str × xy2)} {k : xy2}, (l.map fun (n, k) => if (k == py0 && env.scope.kind == .function && env.kindOf n == some .cell) then (n, NameKind.cell) else (n, k)).lookup x = some k ->
  l.lookup x = some k \/ (k = .cell /\ l.lookup x = some .free)
 | [], _, h => by simp at h
 | (n, j) :: r, k, h => by
  simp only [ey6] at h
  by_cases hx : x = n
  ·subst hx
   by_cases hc : (j == py0 && env.scope.kind == .function && env.kindOf x == some .cell) = true
   ·rw [if_pos hc] at h;simp at h
    have hj : j = .free := by
     simp only [ty6] at hc;simpa using hc.1.1
    exact .inr ⟨h.symm, by simp [hj]⟩
   ·rw [if_neg hc] at h;simp at h;exact .inl (by simp [h])
  ·have hb : (x == n) = false := by simpa using hx
   by_cases hc : (j == py0 && env.scope.kind == .function && env.kindOf n == some .cell) = true
   ·rw [if_pos hc] at h;simp only [oy5, hb] at h ⊢;exact zm0 (scope := scope) h
   ·rw [if_neg hc] at h;simp only [oy5, hb] at h ⊢;exact zm0 (scope := scope) h
theorem zr6 {env : Env} {x : Str} : ∀ {l : List (Str × xy2)}, l.lookup x = some .free ->
  (l.map fun (n, k) => if (k == py0 && env.scope.kind == .function && env.kindOf n == some .cell) then (n, NameKind.cell) else (n, k)).lookup x = some .cell \/
  (l.map fun (n, k) => if (k == py0 && env.scope.kind == .function && env.kindOf n == some .cell) then (n, NameKind.cell) else (n, k)).lookup x = some .free
 | [], h => by simp at h
 | (n, j) :: r, h => by
  simp only [ey6]
  by_cases hx : x = n
  ·subst hx;simp at h;subst h
   by_cases hc : (py0 == py0 && env.scope.kind == .function && env.kindOf x == some .cell) = true
   ·rw [if_pos hc]; simp
   ·rw [if_neg hc]; simp
  ·have hb : (x == n) = false := by simpa using hx
   simp only [oy5, hb] at h;have ih := zr6 (env := env) h
   by_cases hc : (j == py0 && env.scope.kind == .function && env.kindOf n == some .cell) = true
   ·rw [if_pos hc]; simp only [oy5, hb]; exact ih
   ·rw [if_neg hc]; simp only [oy5, hb]; exact ih
structure zb4 (N : List Str) (sc : Scope) (O F : List Str) (cap : List Nat) (scope : Scope) : Prop where
 kind : scope.kind = .function
 nocell : ∀ y ∈ scope.names, y.2 ≠ .cell
 names : ∀ y ∈ scope.names, y.2 = .local -> scope.names.lookup y.1 = some .local
 frees : ∀ y ∈ scope.names, y.2 = .free -> sc.names.lookup y.1 = some .cell \/ sc.names.lookup y.1 = some .free
 caps : F.map some = cap.map (fun j => N[j]?)
 capf : ∀ x ∈ F, scope.names.lookup x = some .free
def zb8 (X : Cx) (N : List Str) (scope : Scope) (cl : List (Str × Addr)) (C : Addr) (ex : List Addr) (s : Shared) (H : Hp) : Cx :=
 { X with N := N, s₀ := s, H₀ := H, env := compEnvC scope cl C X.env, outer := X.stack, ex := ex, fn := fun _ => false, pn := [], xe := fun _ _ => False }
def zc0 (O : List Str) (cap : List Nat) (σ : St) : St := O.map (fun _ => none) ++ cap.map (fun j => (σ[j]?).getD none)
def PTs (X : Cx) (ifs : List Expr) (t : TT) : Prop :=
 ∀ (pins : List (Addr × Obj)) (s : Shared) (σ : St) (H : Hp) (Q : Bool -> Hp -> Prop), Inv X pins σ H s -> t σ H Q ->
  wpAny (model X.prog X.w) X.A (forIn ifs true fun c r => if r = true then do let ok <- isTrue c X.env (eval c X.env); pure (uy8 ok) else pure (uy8 r)) (TP X pins σ Q) X.xe s
def ze57 : TT := fun _ H Q => Q true H
theorem zc45 {X : Cx} : PTs X [] ze57 := fun _ _ _ H _ I h => wpAny_tests_nil ⟨H, I, h⟩
theorem zc46 {X : Cx} {c : Expr} {t : TT} (h : PT X c t) : PTs X [c] t := fun pins s σ H Q I q => wpAny_tests_one (h pins s σ H Q I q)
def zS4 (wi : TI) (O : List Str) (cap : List Nat) (g : TG) (tt : TT) (te : TE) : TE := fun σ H Q => wi σ H fun J H1 => ∃ W : Nat -> Nat -> List V -> Hp -> Prop, (∃ m, W 0 m [] H1) /\ ∀ i m ys H, W i m ys H -> ys.length <= by2 /\
  ((J.stop i H /\ ∀ l, H l = none -> Q (.ref l) (upd H l (.lst ys))) \/
   (J.go i H /\ ∃ N : List V -> Hp -> Prop, (∀ ys' H', N ys' H' -> ∃ m', m' < m /\ W (i + 1) m' ys' H') /\ ∀ x H', J.yld i H x H' -> g x (zc0 O cap σ) H' fun σ2 H2 => tt σ2 H2 fun b H3 => if b = true then te σ2 H3 fun y H4 => N (ys ++ [y]) H4 else N ys H3))
section
variable {X : Cx} {tg iter elt : Expr} {ifs : List Expr} {scope : Scope} {pos : Pos} {wi : TI} {g : TG} {tt : TT} {te : TE} {O F : List Str} {cap : List Nat}
theorem Inv.comp {pins : List (Addr × Obj)} {σ : St} {H : Hp} {s : Shared} {fp : List Addr} {h1 : Heap} {tk : Nat} (S : zb4 X.N X.env.scope O F cap scope) (I : Inv X pins σ H s)
  (hf : ∀ b ∈ fp, zs4 X pins H b) (ho : ∀ b ∈ fp, ∃ o, s.heap.get? b = some o /\ ∀ v, o.data ≠ .cell v) (hs : s.heap.objs.size <= C) (D : Addr) (hD : s.heap.objs.size <= D) (hDC : D < C) {h0 : Heap} (h0s : h0.objs.size = C)
  (k0 : ∀ b o, s.heap.get? b = some o -> h0.get? b = some o) (k1 : ∀ b o, h0.get? b = some o -> h1.get? b = some o) (hn : h1.Ns C fun _ => none) :
  Inv (zb8 X (O ++ F) scope (zs8 X.env.cells scope.names []) C (D :: fp) { s with heap := h0 } H) [] (zc0 O cap σ) H { s with heap := h1, toks := tk } := by
 have hfr : ∀ y ∈ scope.names, y.2 = .free -> ∃ c, X.env.cells.lookup y.1 = some c := fun y hy e => I.ok.has y.1 (S.frees y hy e);have sub : ∀ x c, (zs8 X.env.cells scope.names []).lookup x = some c -> X.env.cells.lookup x = some c := zz8 hfr (fun x c e => by simp at e)
 have clt : ∀ x c, X.env.cells.lookup x = some c -> c < s.heap.objs.size := fun x c e => by
  obtain ⟨v, q⟩ := I.cell x c e;exact q.lt
 have flt : ∀ b ∈ fp, b < s.heap.objs.size := fun b hb => by
  obtain ⟨o, e, _⟩ := ho b hb;exact by1 e
 have bsz : X.base.objs.size <= s.heap.objs.size := dy9 I.ok.bsz I.sz;have blt : ∀ b o, X.base.get? b = some o -> b < X.s₀.heap.objs.size := fun b o e => by1 (I.ok.bs b o e).1;have k : ∀ b o, s.heap.get? b = some o -> h1.get? b = some o := fun b o e => k1 b o (k0 b o e)
 refine ⟨⟨I.ok.mod, S.kind, I.ok.glob, I.ok.blt, ?_, fun x y c e1 e2 => I.ok.inj x y c (sub x c e1) (sub y c e2), fun x hx => ?_, fun x c e _ => ?_, I.ok.hd, I.ok.frames, .inl rfl, fun b hb => ?_, fun b o e => ?_, ?_, fun b o e hb => ?_, fun b hb => ?_, ?_, I.zY0⟩,
  rfl, I.bare, Un.kept k1, ⟨_, hn, fun i x v e1 e2 e3 => ?_⟩, fun x c e => ?_, I.hok.fresh hs, fun x c e => I.freeC x c (sub x c e), fun p hp => ?_, I.hok.kept k, ?_⟩
 ·show h0.objs.size <= C;exact Nat.le_of_eq h0s
 ·have hx : (relabel scope X.env).names.lookup x = some .cell \/ (relabel scope X.env).names.lookup x = some .free := hx
  have hx' : scope.names.lookup x = some .free := by
   rcases hx with hx | hx
   ·rcases zm0 (scope := scope) hx with e | ⟨_, e⟩
    ·exact absurd rfl (S.nocell _ (jy4 e))
    ·exact e
   ·rcases zm0 (scope := scope) hx with e | ⟨e, _⟩
    ·exact e
    ·cases e
  exact zs9 (.inr (jy4 hx'))
 ·exact absurd (show false = true from e) by9
 ·rcases by7.mp hb with e | hb
  ·subst e;exact ⟨by6 hDC, fun x c e => by6 (by8 (clt x c (sub x c e)) hD)⟩
  ·exact ⟨by6 (by8 (flt b hb) hs), fun x c e => (hf b hb).2.2.2.2.1 x c (sub x c e)⟩
 ·exact ⟨k0 b o (I.bs b o e).1, (I.bs b o e).2⟩
 ·show X.base.objs.size <= h0.objs.size;rw [h0s];exact dy9 bsz hs
 ·rcases by7.mp hb with q | hb
  ·subst q;exact absurd (by8 (by1 (I.bk b o e)) hD) (ny2 _)
  ·rcases (hf b hb).2.2.2.1 with q | q
   ·exact I.ok.noex b o e q
   ·exact absurd (by8 (blt b o e) q) (ny2 _)
 ·intro hb2;have hb3 : b ∈ X.env.locals :: X.fs := I.zX9 b hb2;rcases by7.mp hb with q | hb
  ·subst q;rcases by7.mp hb3 with q | q
   ·exact absurd I.lt (by rw [<- q]; exact Nat.not_lt.mpr hD)
   ·exact I.nofs hD q
  ·rcases by7.mp hb3 with q | q
   ·exact (hf b hb).2.1 q
   ·exact (hf b hb).2.2.1 q
 ·exact I.stack.of_keeps fun b o e _ => ⟨o, k0 b o e, rfl⟩
 ·-- the captured names
  have e1 : (O ++ F)[i]? = some x := e1;have e2 : (zc0 O cap σ)[i]? = some (some v) := e2;unfold zc0 at e2
  have hi : ¬ i < O.length := fun hi => by
   rw [ay8 (by simpa using hi)] at e2;rw [by3] at e2;cases q : O[i]? with
   | none => rw [q] at e2; cases e2
   | some z => rw [q] at e2; cases e2
  have hi' : O.length <= i := Nat.not_lt.mp hi;rw [cy9 hi'] at e1;rw [cy9 (by simpa using hi'), ay4, by3] at e2;have hc := congrArg (fun l => l[i - O.length]?) S.caps;simp only [by3, e1, xy3] at hc;cases q : cap[i - O.length]? with
  | none => rw [q] at e2; cases e2
  | some j =>
   rw [q] at e2 hc;simp only [xy3, Option.some.injEq] at e2 hc;have hj : X.N[j]? = some x := hc.symm
   have hv : σ[j]? = some (some v) := by
    cases z : σ[j]? with
    | none => rw [z] at e2; cases e2
    | some y => rw [z] at e2; simp at e2; rw [e2]
   have hxf : scope.names.lookup x = some .free := S.capf x (cy5 e1);have hxs := S.frees _ (jy4 hxf) rfl;obtain ⟨m, hm, hl⟩ := I.loc;obtain ⟨u, ru, l⟩ := hl j x v hj hv (hxs.elim (fun z => .inr (.inl z)) fun z => .inr (.inr z));refine ⟨u, ru, .inr ⟨zr6 hxf, ?_⟩⟩;rcases l with ⟨l, _⟩ | ⟨_, c, ec, z⟩
   ·have l : X.env.scope.names.lookup x = some .local := l;rcases hxs with q | q
    ·rw [q] at l; cases l
    ·rw [q] at l; cases l
   ·obtain ⟨c', hc'⟩ := zs9 (cells := X.env.cells) (l := scope.names) (acc := []) (.inr (jy4 hxf));have e' := sub x c' hc';rw [ec] at e';cases e';obtain ⟨o, ho, hd⟩ := z;exact ⟨c, hc', o, k c o ho, hd⟩
 ·obtain ⟨v, o, ho, hd⟩ := I.cell x c (sub x c e);exact ⟨v, o, k c o ho, hd⟩
 ·exact absurd (show p ∈ ([] : List (Addr × Obj)) from hp) (by simp)
 ·show (zc0 O cap σ).length = (O ++ F).length;have := congrArg xy6 S.caps;simp only [ay4] at this;unfold zc0;simp [this]
theorem Inv.zd49 {pins : List (Addr × Obj)} {σ σ' : St} {H H' : Hp} {s s4 : Shared} {N : List Str} {cl : List (Str × Addr)} {fp : List Addr} {C D : Addr} {h0 h' : Heap} {ys : List V} {us : List Value} {n : Nat} (I : Inv X pins σ H s)
  (hf : ∀ b ∈ fp, zs4 X pins H b) (hs : s.heap.objs.size <= C) (hD : s.heap.objs.size <= D) (hDC : D < C)
  (k0 : ∀ b o, s.heap.get? b = some o -> h0.get? b = some o)
  (I4 : Inv (zb8 X N scope cl C (D :: fp) { s with heap := h0 } H) [] σ' H' s4) (fD : H' D = none) (oD : s4.heap.get? D = some { cls := .type "list", data := .seq us.toArray n }) (rv : Vals ys us) (hz : ys.length <= by2)
  (sb : fy5 C s4.heap h') : Inv X pins σ (upd H' D (.lst ys)) { s4 with heap := h' } := by
 have kC : ∀ b o, b ≠ C -> s4.heap.get? b = some o -> h'.get? b = some o := fun b o hb e => (sb.2 b hb).trans e;have lt : ∀ b o, s.heap.get? b = some o -> b < s.heap.objs.size := fun b o e => by1 e;have neD : ∀ b o, s.heap.get? b = some o -> b ≠ D := fun b o e => by6 (by8 (lt b o e) hD);have neC : ∀ b o, s.heap.get? b = some o -> b ≠ C := fun b o e => by6 (by8 (lt b o e) hs);have nin : ∀ b o, s.heap.get? b = some o -> b ∉ fp -> b ∉ D :: fp := fun b o e h hb => (by7.mp hb).elim (neD b o e) h;have HD : H D = none := I.hok.fresh hD;have neDH : ∀ b u, H b = some u -> b ≠ D := fun b u e => za3 e HD;have fC : H' C = none := I4.free;have un : Un (frs X.stack) (D :: fp) H H' h0 s4.heap := I4.base;refine I.zb14 (ch := fp) (s' := { s4 with heap := h' }) (H' := upd H' D (.lst ys)) I4.os ⟨fun b o e n hb hx => ?_, fun b o e n hb hx => ?_, fun b o e n hx => ?_, fun b o e hx => ?_, fun b xs e => ?_, fun b o u e => ?_, fun b ps e => ?_⟩ (fun b u e => ?_) I4.bare (fun b hb => ?_)
 ·exact kC b o (neC b o e) (un.keep b o (k0 b o e) n hb (nin b o e hx))
 ·obtain ⟨sl, q⟩ := un.slot b o (k0 b o e) n hb (nin b o e hx);exact ⟨sl, kC b _ (neC b o e) q⟩
 ·rw [za5 (neD b o e)];exact un.free b o (k0 b o e) n (nin b o e hx)
 ·obtain ⟨o', q⟩ := un.there b o (k0 b o e) (nin b o e hx);exact ⟨o', kC b _ (neC b o e) q⟩
 ·rw [za5 (neDH b _ e)];exact un.tups b xs e
 ·rw [za5 (neDH b _ e)];exact un.frzs b o u e
 ·rw [za5 (neDH b _ e)];exact un.tbls b ps e
 ·by_cases hb : b = D
  ·subst hb;rw [zb3] at e;cases e;exact ⟨hz, us, n, rv, kC b _ (by6 hDC) oD⟩
  ·rw [za5 hb] at e;refine (I4.hok b u e).zR6 (fun c v hc q => kC c v ?_ q) (fun c q => by rw [za5 (za3 q fD)]; exact q) fun c xs q => by rw [za5 (za3 q fD)]; exact q
   rcases hc with q | q
   ·rw [q]; exact za3 e fC
   ·exact za3 q fC
 ·obtain ⟨_, h1, _, h2, h3, h4⟩ := hf b hb;exact ⟨h2, h1, h3, h4⟩
def Own (n : Nat) (g : TG) : Prop := ∀ x σ H Q, g x σ H Q -> g x σ H fun σ2 H2 => (σ2.length = σ.length /\ ∀ j, n <= j -> σ2[j]? = σ[j]?) /\ Q σ2 H2
def OwnS (n : Nat) (g : TGs) : Prop := ∀ x σ H Q, g x σ H Q -> g x σ H fun σ2 H2 => (σ2.length = σ.length /\ ∀ j, n <= j -> σ2[j]? = σ[j]?) /\ Q σ2 H2
theorem zb27 {n i : Nat} (h : i < n) : Own n (zn2 i) := fun x σ H Q q => ⟨⟨by simp, fun j hj => by rw [cy3 (by omega)]⟩, q⟩
theorem zc47 {n : Nat} : OwnS n gNil := fun x σ H Q ⟨e, q⟩ => ⟨e, ⟨rfl, fun _ _ => rfl⟩, q⟩
theorem zb28 {n i : Nat} {u : TGs} (h : i < n) (hu : OwnS n u) (mu : ∀ x σ H (Q Q' : St -> Hp -> Prop), (∀ σ H, Q σ H -> Q' σ H) -> u x σ H Q -> u x σ H Q') : OwnS n (zR7 (zn2 i) u) := fun x σ H Q ⟨v, r, e, q⟩ => ⟨v, r, e, by
 have q : u r (σ.set i (some v)) H Q := q;show u r (σ.set i (some v)) H _;refine mu _ _ _ _ _ (fun σ2 H2 z => ?_) (hu _ _ _ _ q);obtain ⟨⟨h1, h2⟩, h3⟩ := z
 exact ⟨⟨by rw [h1]; simp, fun j hj => by rw [h2 j hj, cy3 (by omega)]⟩, h3⟩⟩
theorem zb29 : ∀ x σ H (Q Q' : St -> Hp -> Prop), (∀ σ H, Q σ H -> Q' σ H) -> gNil x σ H Q -> gNil x σ H Q' := fun x σ H Q Q' h ⟨e, q⟩ => ⟨e, h _ _ q⟩
theorem za06 {i : Nat} {u : TGs} (mu : ∀ x σ H (Q Q' : St -> Hp -> Prop), (∀ σ H, Q σ H -> Q' σ H) -> u x σ H Q -> u x σ H Q') : ∀ x σ H (Q Q' : St -> Hp -> Prop), (∀ σ H, Q σ H -> Q' σ H) -> zR7 (zn2 i) u x σ H Q -> zR7 (zn2 i) u x σ H Q' :=
 fun x σ H Q Q' h ⟨v, r, e, q⟩ => ⟨v, r, e, mu _ _ _ _ _ h q⟩
theorem zc48 {n k : Nat} {K : ay5} {u : TGs} (hu : OwnS n u) : Own n (gTup K k u) := fun x σ H Q ⟨a, xs, e, h1, h2, q⟩ => ⟨a, xs, e, h1, h2, hu _ _ _ _ q⟩
end
def Its (x : Str) : It := ⟨fun i _ => i < x.cps.size, fun i H v H' => H' = H /\ ∃ c, x.cps[i]? = some c /\ v = .str ⟨#[c]⟩, fun i _ => x.cps.size <= i⟩
theorem zb30 {P : cy8} {w : World} {K : ay5} {tg : Expr} (it : Addr) (x : Str) (t : Tok) (cl : String) (hc : cl = "str_ascii_iterator" \/ cl = "str_iterator") : Turn P w K tg (Its x) [it] it (fun i h => h.IsStrIter it cl x t i) where
 mem := by simp
 obj := fun i h st b hb => by
  have e : b = it := by simpa using hb
  subst e;obtain ⟨o, e, c, d⟩ := st;exact ⟨o, e, fun v z => by rw [d] at z; cases z⟩
 keep := fun i h h' st k => by
  obtain ⟨o, e, r⟩ := st;exact ⟨o, k it (by simp) o e, r⟩
 item := by
  intro X hP hw hK hcm i pins s σ H E I hf st hg;subst hP hw hK;obtain ⟨f0, f1, f2, f3, f4, f5⟩ := hf it (by simp);have hi : i < x.cps.size := hg
  have nm : ["enumerate", "zip", "dict_itemiterator", "dict_reverseitemiterator", "odict_iterator", "itertools.zip_longest", "itertools.pairwise"].contains cl = false := by
   rcases hc with rfl | rfl <;> decide
  have go : ∀ (h' : Heap) (st' : h'.IsStrIter it cl x t (i + 1)) (sb : ∀ b o, b ≠ it -> s.heap.get? b = some o -> h'.get? b = some o) (tk : Nat) (u : Tok), ∃ v, some (Value.str ⟨#[x.cps[i]]⟩ u) = some v /\
    wpAny (model X.prog X.w) X.A (py6 tg (.ref it) v) (fun _ s2 => ∃ y H', Inv X pins σ H' s2 /\ RelV y v /\ (Its x).yld i H y H' /\ s2.heap.IsStrIter it cl x t (i + 1) /\ ∀ b ∈ [it], H' b = none) E { s with heap := h', toks := tk } := fun h' st' sb tk u => by
   have I1 : Inv X pins σ H { s with heap := h', toks := tk } := I.turned (fun b o hb e => sb b o hb e) f0 f1 f3 f4 f5;obtain ⟨o, e, c, d⟩ := id st';exact ⟨_, rfl, zJ4 (s := { s with heap := h', toks := tk }) e c d nm ⟨.str ⟨#[x.cps[i]]⟩, H, I1, ⟨_, rfl⟩, ⟨rfl, x.cps[i], by simp [hi], rfl⟩, st', fun b hb => (hf b hb).1⟩⟩
  rcases hc with rfl | rfl
  ·exact wpAny_pyNext_ascii_item st (c := x.cps[i]) (by simp [hi]) fun h' st' sb => go h' st' (fun b o hb e => sb.extBut b o hb e) _ _
  ·exact wpAny_pyNext_wide_item st (c := x.cps[i]) (by simp [hi]) fun h' st' sb => go h' st' (fun b o hb e => sb.extBut b o hb e) _ _
 done := by
  intro X hP hw hK hcm i pins s σ H E I hf st hg;subst hP hw hK;obtain ⟨f0, f1, f2, f3, f4, f5⟩ := hf it (by simp);have hi : x.cps.size <= i := hg;rcases hc with rfl | rfl
  ·exact wpAny_pyNext_ascii_end (I.ok.hd hcm) st (by simp [hi]) fun h' eb => ⟨rfl, I.turned (t' := s.toks) (fun b o hb e => eb b o hb e) f0 f1 f3 f4 f5⟩
  ·exact wpAny_pyNext_wide_end (I.ok.hd hcm) st (by simp [hi]) fun h' eb => ⟨rfl, I.turned (t' := s.toks) (fun b o hb e => eb b o hb e) f0 f1 f3 f4 f5⟩
 self := fun _ _ _ _ _ st h => by
  rcases hc with rfl | rfl
  ·exact wpAny_pyIter_striter_ascii st h
  ·exact wpAny_pyIter_striter_wide st h
section
variable {X : Cx} {tg : Expr}
def iStr (tl : TE) : TI := fun σ H R => tl σ H fun v H1 => ∃ x, v = .str x /\ R (Its x) H1
theorem zd51 {l : Expr} {tl : TE} (hl : PE X l tl) : PI X tg l (iStr tl) := by
 intro pins s σ H R I h;refine thn (hl pins s σ H _ I h) fun v s1 zR => ?_;obtain ⟨y, H1, I1, r1, q1⟩ := zR;obtain ⟨x, e, q⟩ := q1;subst e;obtain ⟨t, rfl⟩ := r1
 have fin : ∀ (o : Obj) (cl : String), (cl = "str_ascii_iterator" \/ cl = "str_iterator") -> (s1.heap.push o).IsStrIter s1.heap.objs.size cl x t 0 -> PIE X pins σ tg R (.ref s1.heap.objs.size) { s1 with heap := s1.heap.push o } := fun o cl hc st => by
  refine ⟨s1.heap.objs.size, [s1.heap.objs.size], _, _, H1, rfl, I1.kept (t' := s1.toks) fun b o e => ay1 _ e, zb30 _ x t cl hc, st, fun b hb => ?_, q⟩;have e : b = s1.heap.objs.size := by simpa using hb
  subst e;exact I1.zY5 (ay6 _) (I1.hok.fresh (ay6 _))
 cases ha : x.cps.all (· < 128)
 ·exact wpAny_pyIter_wide ha (fin _ _ (.inr rfl) ⟨_, ay7 _ rfl, rfl, rfl⟩)
 ·exact wpAny_pyIter_ascii ha (fin _ _ (.inl rfl) ⟨_, ay7 _ rfl, rfl, rfl⟩)
end
theorem zJ9 : ∀ {bs : List Bool} {us : List Value}, Vals (bs.map V.bl) us -> LSm.BoolsAre us bs := by
 intro bs
 induction bs with
 | nil => intro us r; rw [List.map_nil] at r; cases r; exact .nil
 | cons b bs ih =>
  intro us r;rw [ey6] at r;cases r with
  | cons r1 r2 =>
   cases r1;exact .cons b (ih r2)
section
variable {X : Cx}
theorem zb31 (hc : X.calm = true) : zj0 X (.builtin "all") (fun xs H Q => ∃ (p : Addr) (bs : List Bool), xs = [.ref p] /\ SqL X.K H p (bs.map V.bl) /\ Q (.bl (bs.all id)) H) := by
 intro pins s σ H xs us Q I r h;obtain ⟨p, bs, rfl, hq, q⟩ := h;cases r with
 | cons r rr =>
  cases rr;cases r;obtain ⟨its, rv, pl, hz⟩ := I.list hq;obtain ⟨m, F⟩ := I.fr;have hb := zJ9 rv;have hlt : p < s.heap.objs.size := by obtain ⟨_, e, _⟩ := pl.isList; exact by1 e
  refine call_all_walk (vy5 pl.isList ?_)
  refine ⟨s.heap.objs.size, [s.heap.objs.size, p], [s.heap.objs.size], its.toArray.size, _, _, fun i => (bs[i]?).getD true, rfl, Walks.list (A := X.A.in1) (I.ok.hd hc) _ p (by6 hlt) its.toArray,
   ⟨⟨_, ay7 _ rfl, rfl, rfl⟩, pl.isList.push _⟩, fun i v s' Q' E' hP hQ => ?_, fun h' tk hk => ?_⟩
  ·obtain ⟨b, e, rfl⟩ := hb.get i v (by simpa using hP);simp only [e, Option.getD_some] at hQ;exact ly0 hQ
  ·have e : ((ky2 its.toArray.size).all fun i => (bs[i]?).getD true) = bs.all id := by
    rw [cy0, hb.length]; exact LSm.range_all bs
   rw [e];exact ⟨.bl (bs.all id), H, I.kept (LSm.kept_iter hk), rfl, q⟩
theorem zS5 {ys : List Str} : ∀ {us : List Value}, Vals (ys.map V.str) us -> StrsAre us ys := by
 induction ys with
 | nil => intro us r; rw [List.map_nil] at r; cases r; exact .nil
 | cons n ns ih =>
  intro us r;rw [ey6] at r;cases r with
  | cons r1 r2 =>
   obtain ⟨t, e⟩ := r1;subst e;exact .cons n t (ih r2)
theorem Inv.big {pins : List (Addr × Obj)} {σ : St} {H : Hp} {s : Shared} (I : Inv X pins σ H s) : ly9 < s.heap.objs.size := by
 have h : cy2 < s.heap.objs.size := (I.mod.glob.keeps I.bk).lt;exact Nat.lt_trans (by decide) h
end
section
variable {X : Cx}
end
end L2
namespace HT
open PySem PySem.Spec PyProof.Rows
section
variable {prog : cy8} {w : World} {A : Around} {E : Value -> Shared -> Prop} {s : Shared}
theorem zq3 {t sl : Addr} {items : Array Value} {vl vu : Value} {lo hi : Option Int} {Q : Value -> Shared -> Prop} (ht : IsTup s.heap t items) (hs : s.heap.IsSliceOf sl vl vu .none) (pl : IsPart vl lo) (pu : IsPart vu hi)
  (hw : sIx items.size 0 lo = 0 /\ sIx items.size items.size hi = items.size)
  (h : Q (.ref t) s) : wpAny (model prog w) A (getItem (.ref t) (.ref sl)) Q E s := by
 obtain ⟨os, hos, hcs, hds⟩ := id hs;have hTs : s.TypeIs (.ref sl) "slice" := ⟨os, hos, hcs⟩
 unfold getItem
 try with_reducible refine ey5 ?_
 first | refine ay0 (ay2 ?_) | skip
 refine ay0 (wpAny_sequenceKey ht.typeIs (by decide) ?_)
 refine ay0 (fy0 (name := ly1 "__getitem__") ht.typeIs hy8
  (dy3 hy8 ht.typeIs entry_tuple_getitem ?_ (args_tuple_getitem _ _)))
 show wpAny _ _ (Builtin.Tuple.tupleItemsOf (.ref t) >>= _) _ _ s;refine ay0 (tupleItemsOf_ ht ?_);refine ay0 (py2 hTs ?_);rw [if_pos (by decide)];refine ay0 (zk7 hs pl pu ?_)
 have hno : ((((sIx items.size 0 lo : Nat) : Int) == 0 && (1 : Int) == 1 && (sIx items.size items.size hi - sIx items.size 0 lo) == items.size) = true) := by
  rw [hw.1, hw.2];simp
 show wpAny _ _ (if (((sIx items.size 0 lo : Nat) : Int) == 0 && (1 : Int) == 1 && (sIx items.size items.size hi - sIx items.size 0 lo) == items.size) = true then _ else _) _ _ s;rw [if_pos hno];refine ay0 ?_;unfold Builtin.Tuple.tupleIsExact;refine ay0 (py2 ht.typeIs (ay2 ?_));rw [if_pos (by decide)];refine ay0 (my9 ?_);exact ay2 ⟨_, rfl, ay2 h⟩
theorem zb32 {t b : Addr} {vs ws : List Value} {Q : Value -> Shared -> Prop} (ht : IsTup s.heap t vs.toArray) (hb : IsTup s.heap b ws.toArray) (hv : vs = [])
  (h1 : Q (.ref b) s) : wpAny (model prog w) A (oy3 .Add (.ref t) (.ref b)) Q E s := by
 obtain ⟨⟨cls, dd, data, sl⟩, ho, hc, n, hd⟩ := id ht;obtain ⟨⟨cls2, dd2, data2, sl2⟩, ho2, hc2, n2, hd2⟩ := id hb;simp only at hc hd hc2 hd2;subst hc hd hc2 hd2
 exact concat_meets ⟨_, ho, rfl⟩ ⟨_, ho2, rfl⟩ noFill_tuple_add seq_tuple_add PySem.F.slot_tuple_add PySem.F.entry_tuple_add (PySem.F.args_tuple_add_2 _ _)
   (tuple_addW0 t b vs.toArray ws.toArray n n2 dd dd2 sl sl2 (by simp [hv])) ⟨ho, ho2, h1⟩
end
end HT
namespace L2
open PySem PySem.Spec PyProof.Rows
theorem zb33 {xs : List V} {lo hi : Option Int} (h : HT.sIx xs.length 0 lo = 0 /\ HT.sIx xs.length xs.length hi = xs.length) : zJ6 xs lo hi = xs := by
 unfold zJ6;rw [h.1, h.2];simp
section
variable {X : Cx}
end
section
variable {X : Cx} {tg iter elt : Expr} {ifs : List Expr} {scope : Scope} {pos : Pos} {wi : TI} {g : TG} {tt : TT} {te : TE} {O F : List Str} {cap : List Nat}
theorem zF3 {use : Option (Value -> Sem Unit)} {R : Value -> Shared -> Prop} {pins : List (Addr × Obj)} {s : Shared} {σ : St} {H : Hp} {Q : VK} {ps0 : Pos} (hc : X.calm = true) (S : zb4 X.N X.env.scope O F cap scope) (hi : PI X tg iter wi)
  (hg : ∀ cl C ex s H, PG (zb8 X (O ++ F) scope cl C ex s H) tg g) (ht : ∀ cl C ex s H, PTs (zb8 X (O ++ F) scope cl C ex s H) ifs tt) (he : ∀ cl C ex s H, PE (zb8 X (O ++ F) scope cl C ex s H) elt te)
  (ho : Own O.length g) (hs : ∀ x, ey1 iter X.env x = pure x) (I : Inv X pins σ H s) (h : zS4 wi O cap g tt te σ H Q)
  (post : ∀ (s4 : Shared) (D C : Addr) (H4 : Hp) (ys : List V), (∃ m, s4.heap.Ns C m) -> D ≠ C -> (∀ h', fy5 C s4.heap h' -> Inv X pins σ (upd H4 D (.lst ys)) { s4 with heap := h' }) -> zs4 X pins (upd H4 D (.lst ys)) C -> Q (.ref D) (upd H4 D (.lst ys)) ->
   compPost (model X.prog X.w) X.A X.xe use R (.ref D) C (.ok .next) s4) :
  wpAny (model X.prog X.w) X.A (comprehension (.ListComp elt [⟨tg, iter, ifs, 0⟩] scope pos) scope X.env ps0 (newList []) false (eval iter X.env) use) R X.xe s := by
 have hfr : ∀ y ∈ scope.names, y.2 = .free -> ∃ c, X.env.cells.lookup y.1 = some c := fun y hy e => I.ok.has y.1 (S.frees y hy e);refine wpAny_comprehension_free (use := use) rfl hs (zq2 hfr) S.kind S.names (thn (hi pins s σ H _ I h) fun v s1 h1 => thn h1 fun itv s2 h2 => ?_);obtain ⟨it, fp, tn, J, H2, e, I2, T, st2, f2, W, ⟨m0, w0⟩, turn⟩ := h2;subst e;refine dy8 (wpAny_newFunctionEnv S.nocell (by intro y hy; simp at hy) (fun h1 hns1 hsb1 => ?_) S.kind);dsimp only at hns1 hsb1 ⊢;generalize hH0 : s2.heap.push { cls := .type "list", dict := none, data := .seq ([] : List Value).toArray } = h0 at hns1 hsb1 ⊢;have h0s : h0.objs.size = s2.heap.objs.size + 1 := by rw [<- hH0, ny3]
 have k0 : ∀ b o, s2.heap.get? b = some o -> h0.get? b = some o := fun b o e => hH0 ▸ ay1 _ e;have k1 : ∀ b o, h0.get? b = some o -> h1.get? b = some o := fun b o e => hsb1.extBut b o (by6 (by1 e)) (ay1 _ e);have oD0 : h0.get? s2.heap.objs.size = some { cls := .type "list", data := .seq ([] : List Value).toArray } := hH0 ▸ ay7 _ rfl;have hDC : s2.heap.objs.size < h0.objs.size := by rw [h0s]; exact my3 _
 have hsC : s2.heap.objs.size <= h0.objs.size := ky9 hDC
 have flt : ∀ b ∈ fp, b < s2.heap.objs.size := fun b hb => by
  obtain ⟨o, e, _⟩ := T.obj _ _ st2 b hb;exact by1 e
 have Dfp : s2.heap.objs.size ∉ fp := fun z => ny2 _ (flt _ z)
 have I3 : Inv (zb8 X (O ++ F) scope (zs8 X.env.cells scope.names []) h0.objs.size (s2.heap.objs.size :: fp) { s2 with heap := h0 } H2) [] (zc0 O cap σ) H2 { s2 with heap := h1, toks := s2.toks + ([] : List (Str × Value)).length } :=
  I2.comp S f2 (T.obj _ _ st2) hsC s2.heap.objs.size (ay6 _) hDC rfl k0 k1 hns1
 generalize hX' : zb8 X (O ++ F) scope (zs8 X.env.cells scope.names []) h0.objs.size (s2.heap.objs.size :: fp) { s2 with heap := h0 } H2 = X' at I3;have hg' : PG X' tg g := hX' ▸ hg _ _ _ _ _;have ht' : PTs X' ifs tt := hX' ▸ ht _ _ _ _ _;have he' : PE X' elt te := hX' ▸ he _ _ _ _ _
 have fpok : ∀ {H' : Hp}, (∀ b ∈ s2.heap.objs.size :: fp, H' b = none) -> ∀ b ∈ s2.heap.objs.size :: fp, zs4 X' [] H' b := fun {H'} hn b hb => by
  have hex : b ∈ X'.ex := by rw [<- hX']; exact hb
  refine ⟨hn b hb, (I3.ok.exf b hex).1, I3.ok.exfs b hex, .inl hex, (I3.ok.exf b hex).2, fun p hp => ?_⟩;rw [<- hX'] at hp;exact absurd (show p ∈ ([] : List (Addr × Obj)) from hp) (by simp)
 have eP : X'.prog = X.prog := by rw [<- hX']; rfl
 have eW : X'.w = X.w := by rw [<- hX']; rfl
 have eK : X'.K = X.K := by rw [<- hX']; rfl
 have eA : X'.A = X.A := by rw [<- hX']; rfl
 have eC : X'.calm = true := by rw [<- hX']; exact hc
 have eE : X'.env = compEnvC scope (zs8 X.env.cells scope.names []) h0.objs.size X.env := by rw [<- hX']; rfl
 have eX : X'.xe = fun _ _ => False := by rw [<- hX']; rfl
 have loop : ∀ s3 : Shared, s3 = { s2 with heap := h1, toks := s2.toks + ([] : List (Str × Value)).length } ->
   ly4 (model X.prog X.w) X.A (.compLoop (.ListComp elt [⟨tg, iter, ifs, 0⟩] scope pos) 0 (.ref it) (.ref s2.heap.objs.size) (compEnvC scope (zs8 X.env.cells scope.names []) h0.objs.size X.env))
    (compPost (model X.prog X.w) X.A X.xe use R (.ref s2.heap.objs.size) h0.objs.size) s3 := by
  rintro s3 rfl
  refine zF2 (fun n s' => ∃ i ys us k H', Inv X' [] (zc0 O cap σ) H' s' /\ tn i s'.heap /\ (∀ b ∈ s2.heap.objs.size :: fp, H' b = none) /\ s'.heap.get? s2.heap.objs.size = some { cls := .type "list", data := .seq us.toArray k } /\ Vals ys us /\ W i n ys H') ?_ m0
   ⟨0, [], [], _, H2, I3, T.keep _ _ _ st2 (fun b _ o e => k1 b o (k0 b o e)), fun b hb => ?_, k1 _ _ oD0, .nil, w0⟩
  ·rintro n s3 ⟨i, ys, us, k, H3, I3', st3, fr3, o3, rv3, w3⟩;obtain ⟨hz, step⟩ := turn i n ys H3 w3;have fpI : ∀ b ∈ fp, zs4 X' [] H3 b := fun b hb => fpok fr3 b (by0 _ hb);rcases step with ⟨stop, q⟩ | ⟨go, NN, hNN, step⟩
   ·have := T.done X' eP eW eK eC i [] s3 (zc0 O cap σ) H3 (fun _ _ => False) I3' fpI st3 stop;rw [eA] at this
    have hk : ∀ {s4 : Shared}, Inv X' [] (zc0 O cap σ) H3 s4 -> s4.heap.get? s2.heap.objs.size = some { cls := .type "list", data := .seq us.toArray k } -> compPost (model X.prog X.w) X.A X.xe use R (.ref s2.heap.objs.size) h0.objs.size (.ok .next) s4 := fun {s4} I4 o4 => by
     obtain ⟨m, hm, _⟩ := id I4.loc;rw [eE] at hm
     have fC : H3 h0.objs.size = none := by
      have := I4.free;rw [eE] at this;exact this
     have nCD : h0.objs.size ≠ s2.heap.objs.size := ky5 hDC;refine post s4 s2.heap.objs.size h0.objs.size H3 ys ⟨m, hm⟩ (fy4 nCD) (fun h' sb => ?_) (I2.zY5 hsC (by rw [za5 nCD]; exact fC)) (q _ (fr3 _ ay9));rw [<- hX'] at I4;exact I2.zd49 f2 hsC (ay6 _) hDC k0 I4 (fr3 _ ay9) o4 rv3 hz sb
    have J3 : Inv X' [(s2.heap.objs.size, { cls := .type "list", data := .seq us.toArray k })] (zc0 O cap σ) H3 s3 := I3'.zk9 fun p hp => by
     have : p = (s2.heap.objs.size, { cls := .type "list", data := .seq us.toArray k }) := by simpa using hp
     subst this;obtain ⟨f0, f1, f2', _⟩ := fpok fr3 s2.heap.objs.size ay9;exact ⟨o3, f0, f1, f2', fun v z => by cases z⟩
    have fpJ : ∀ b ∈ fp, zs4 X' [(s2.heap.objs.size, { cls := .type "list", data := .seq us.toArray k })] H3 b := fun b hb => by
     obtain ⟨f0, f1, f3, f4, f5, f6⟩ := fpI b hb;refine ⟨f0, f1, f3, f4, f5, fun p hp => ?_⟩;rcases ey0.mp hp with z | z
     ·exact f6 p (my0 _ z)
     ·have : p = (s2.heap.objs.size, { cls := .type "list", data := .seq us.toArray k }) := by simpa using z
      subst this;intro e;exact Dfp (by rw [show s2.heap.objs.size = b from e]; exact hb)
    have fin := T.done X' eP eW eK eC i _ s3 (zc0 O cap σ) H3 (fun _ _ => False) J3 fpJ st3 stop;rw [eA] at fin;refine thn fin fun r s4 zR => ?_;obtain ⟨hr, J4⟩ := zR;subst hr;exact hk (J4.zk9 fun p hp => absurd hp (by simp)) (J4.pin (s2.heap.objs.size, { cls := .type "list", data := .seq us.toArray k }) (dy1 _ (ey7.mpr rfl))).1
   ·have J3 : Inv X' (ze6 [s2.heap.objs.size] s3.heap) (zc0 O cap σ) H3 s3 := by
     have := I3'.pinned (fp := [s2.heap.objs.size]) (fun b hb => fpok fr3 b (by simp at hb; simp [hb])) (fun b hb => by
      have e : b = s2.heap.objs.size := by simpa using hb
      subst e
      exact ⟨_, o3, fun v z => by cases z⟩)
     simpa using this
    have fpJ : ∀ b ∈ fp, zs4 X' (ze6 [s2.heap.objs.size] s3.heap) H3 b := fun b hb => by
     obtain ⟨f0, f1, f3, f4, f5, f6⟩ := fpI b hb;refine ⟨f0, f1, f3, f4, f5, fun p hp => ?_⟩;rcases ey0.mp hp with z | z
     ·exact f6 p (my0 _ z)
     ·have := (zg2 z).1;have e' : p.1 = s2.heap.objs.size := by simpa using this
      intro e;exact Dfp (by rw [<- e', e]; exact hb)
    have it3 := T.item X' eP eW eK eC i _ s3 (zc0 O cap σ) H3 (fun _ _ => False) J3 fpJ st3 go;rw [eA] at it3;refine thn it3 fun r s4 zR => ?_;obtain ⟨u, hr, h4⟩ := zR;subst hr;refine thn h4 fun _ s5 zR => ?_;obtain ⟨x, H5, I5, r5, y5, st5, fr5⟩ := zR;have o5 : s5.heap.get? s2.heap.objs.size = some { cls := .type "list", data := .seq us.toArray k } := (I5.pin (_, _) (dy1 _ (ze0 (by simp) o3))).1;have d5 : H5 s2.heap.objs.size = none := (I5.pin (_, _) (dy1 _ (ze0 (by simp) o3))).2.1;have fr5' : ∀ b ∈ s2.heap.objs.size :: fp, H5 b = none := fun b hb => (by7.mp hb).elim (fun z => by rw [z]; exact d5) (fr5 b)
    have I5' : Inv X' (ze6 (s2.heap.objs.size :: fp) s5.heap) (zc0 O cap σ) H5 s5 := by
     have := (I5.zk9 (pins' := []) fun p hp => absurd hp (by simp)).pinned (fp := s2.heap.objs.size :: fp) (fpok fr5') (fun b hb => by
      rcases by7.mp hb with e | hb
      ·subst e;exact ⟨_, o5, fun v z => by cases z⟩
      ·exact T.obj _ _ st5 b hb)
     simpa using this
    have a5 := hg' _ s5 (zc0 O cap σ) H5 x u _ I5' r5 (ho _ _ _ _ (step x H5 y5));rw [eP, eW, eA, eE, eX] at a5;refine thn a5 fun _ s6 zR => ?_;obtain ⟨σ6, H6, I6, ⟨l6, w6⟩, q6⟩ := zR;have t6 := ht' _ s6 σ6 H6 _ I6 q6;rw [eP, eW, eA, eE, eX] at t6;refine thn t6 fun ok s7 zR => ?_;obtain ⟨H7, I7, q7⟩ := zR
    have back : ∀ {σ8 : St} {H8 : Hp} {s8 : Shared}, σ8.length = (zc0 O cap σ).length -> Inv X' (ze6 (s2.heap.objs.size :: fp) s5.heap) σ8 H8 s8 -> (∀ (j : Nat) v, (zc0 O cap σ)[j]? = some (some v) -> σ8[j]? = some (some v)) ->
      Inv X' [] (zc0 O cap σ) H8 s8 /\ tn (i + 1) s8.heap /\ (∀ b ∈ s2.heap.objs.size :: fp, H8 b = none) /\ s8.heap.get? s2.heap.objs.size = some { cls := .type "list", data := .seq us.toArray k } := fun {σ8 H8 s8} hl I8 hw => by
     have pin8 : ∀ b ∈ s2.heap.objs.size :: fp, ∀ o, s5.heap.get? b = some o -> s8.heap.get? b = some o /\ H8 b = none := fun b hb o e => by
      have := I8.pin (b, o) (dy1 _ (ze0 hb e));exact ⟨this.1, this.2.1⟩
     refine ⟨(I8.zk9 fun p hp => absurd hp (by simp)).weak hl.symm hw, T.keep _ _ _ st5 fun b hb o e => (pin8 b (by0 _ hb) o e).1, fun b hb => ?_, (pin8 _ ay9 _ o5).1⟩;rcases by7.mp hb with e | hb'
     ·exact (pin8 b hb _ (by rw [e]; exact o5)).2
     ·obtain ⟨o, e, _⟩ := T.obj _ _ st5 b hb';exact (pin8 b hb o e).2
    have w6' : ∀ (j : Nat) v, (zc0 O cap σ)[j]? = some (some v) -> σ6[j]? = some (some v) := fun j v e => by
     by_cases hj : O.length <= j
     ·rw [w6 j hj]; exact e
     ·exfalso;unfold zc0 at e;rw [ay8 (by simpa using Nat.not_le.mp hj), by3] at e;cases q : O[j]? with
      | none => rw [q] at e; cases e
      | some z => rw [q] at e; cases e
    cases ok with
    | false =>
     rw [if_neg by9] at q7 ⊢;obtain ⟨m', hm, w7⟩ := hNN _ _ q7;obtain ⟨b1, b2, b3, b4⟩ := back l6 I7 w6';exact ⟨m', hm, i + 1, ys, us, k, H7, b1, b2, b3, b4, rv3, w7⟩
    | true =>
     rw [if_pos rfl] at q7 ⊢;have e7 := he' _ s7 σ6 H7 _ I7 q7;rw [eP, eW, eA, eE, eX] at e7;refine thn e7 fun y s8 zR => ?_;obtain ⟨z, H8, I8, r8, q8⟩ := zR;obtain ⟨m', hm, w8⟩ := hNN _ _ q8;obtain ⟨b1, b2, b3, b4⟩ := back l6 I8 w6';have hzs : us.toArray.size <= by2 := by rw [cy0, <- rv3.length]; exact hz
     refine append_at (hsz := hzs) b4 fun h9 hs9 hD9 => ?_;obtain ⟨f0, f1, f2', f3, f4, f5⟩ := fpok b3 s2.heap.objs.size ay9;have I9 : Inv X' [] (zc0 O cap σ) H8 { s8 with heap := h9 } := b1.turned (t' := s8.toks) (fun b o hb e => (hs9.2 b hb).trans e) f0 f1 f3 f4 f5;refine ⟨m', hm, i + 1, ys ++ [z], us ++ [y], k + 1, H8, I9, T.keep _ _ _ b2 fun b hb o e => (hs9.2 b fun q => Dfp (by rw [<- q]; exact hb)).trans e, b3, ?_, rv3.snoc r8, w8⟩;rw [hD9, List.push_toArray]
  ·rcases by7.mp hb with e | hb
   ·rw [e]; exact I2.hok.fresh (ay6 _)
   ·exact (f2 b hb).1
 exact codeAny_compStart_list (loop _ rfl) (T.self _ 0 _ _ _ (T.keep _ _ _ st2 (fun b _ o e => k1 b o (k0 b o e))) (loop _ rfl))
theorem zK0 (hc : X.calm = true) (S : zb4 X.N X.env.scope O F cap scope) (hi : PI X tg iter wi)
  (hg : ∀ cl C ex s H, PG (zb8 X (O ++ F) scope cl C ex s H) tg g) (ht : ∀ cl C ex s H, PTs (zb8 X (O ++ F) scope cl C ex s H) ifs tt) (he : ∀ cl C ex s H, PE (zb8 X (O ++ F) scope cl C ex s H) elt te)
  (ho : Own O.length g) (hs : ∀ x, ey1 iter X.env x = pure x := by intro _; rfl) : PE X (.ListComp elt [⟨tg, iter, ifs, 0⟩] scope pos) (zS4 wi O cap g tt te) := by
 intro pins s σ H Q I h;rw [eval_ListComp];exact zF3 (use := none) (R := EP X pins σ Q) hc S hi hg ht he ho hs I h fun s4 D C H4 ys hm hDC hI fp q => hm.elim fun m hm => ⟨m, hm, fun h' sb => ⟨.ref D, _, hI h' sb, rfl, q⟩⟩
theorem zc49 {i : Nat} {x : Str} {pos' spos : Pos} (hN : X.N.Nodup) (hix : X.N[i]? = some x) (hx : Loc X.env.scope x) (hc : X.calm = true) (S : zb4 X.N X.env.scope O F cap scope) (hi : PI X tg iter wi)
  (hg : ∀ cl C ex s H, PG (zb8 X (O ++ F) scope cl C ex s H) tg g) (ht : ∀ cl C ex s H, PTs (zb8 X (O ++ F) scope cl C ex s H) ifs tt) (he : ∀ cl C ex s H, PE (zb8 X (O ++ F) scope cl C ex s H) elt te)
  (ho : Own O.length g) (hsw : swapsWith (.ListComp elt [⟨tg, iter, ifs, 0⟩] scope pos) (some (.Name x pos')) spos.line X.env = pure true := by rfl) (hs : ∀ x, ey1 iter X.env x = pure x := by intro _; rfl)
  (hf : X.fn x = true \/ X.env.scope.names.lookup x = some .local := by first | exact .inl rfl | exact .inr rfl | assumption) :
  PS X (.Assign [.Name x pos'] (.ListComp elt [⟨tg, iter, ifs, 0⟩] scope pos) spos) (tAsg (zS4 wi O cap g tt te) (zn2 i)) := by
 intro pins s σ H D I h;rw [exec_Assign_Name_used _ _ _ _ hsw];refine ay0 (ly5 (ay0 ?_));show wpAny _ X.A (do let _ <- comprehension (.ListComp elt [⟨tg, iter, ifs, 0⟩] scope pos) scope X.env _ (newList []) false (eval iter X.env) (some (assign (.Name x pos') X.env))) _ _ s;refine ay0 (fy9 (zF3 (R := fun _ s' => SP X pins D .next s') hc S hi hg ht he ho hs I h ?_) (fun _ s' hq => ay2 (ay2 hq)) fun _ _ e => e);intro s4 D' C H4 ys ⟨m, hm⟩ hDC hI fp q;show wpAny (model X.prog X.w) X.A (assign (.Name x pos') X.env (.ref D')) (fun _ s'' => ∃ m, s''.heap.Ns C m /\ ∀ h', fy5 C s''.heap h' -> SP X pins D .next { s'' with heap := h' }) X.xe s4;obtain ⟨f0, f1, f2, f3, f4, f5⟩ := fp;refine wpAny_assign_Name (zt8 (v := .ref D') (hI s4.heap ⟨rfl, fun _ _ => rfl⟩) hN hix hx rfl (fun s5 I5 z => ?_) hf);obtain ⟨a, sb, ha⟩ := z
 have hCa : C ≠ a := by
  rcases ha with e | e
  ·rw [e]; exact f1
  ·exact fy4 (f4 x a e)
 refine ⟨m, hm.sameBut sb hCa, fun h' sb' => ?_⟩;exact ⟨_, upd H4 D' (.lst ys), I5.turned (t' := s5.toks) (fun b o hb e => (sb'.2 b hb).trans e) f0 f1 f3 f4 f5, q⟩
end
structure Dat (d : PyData) : Prop where
 lay : d.canLay0 = true
 dep : d.depth <= 64
section
variable {X : Cx}
end
section
variable {X : Cx} {tg : Expr}
end
section
variable {X : Cx} {a b c d : Expr} {ta tb tc td : TE} {pos : Pos}
theorem zc50 : OpR X (oy3 .Mult) (rI (fun i j => hy0 i <= 2 ^ 20 /\ hy0 j <= 2 ^ 20) fun i j => .int (i * j)) := opI fun _ _ _ _ _ _ _ hc q => mul_int q (IntMulOk.of_bits hc.1 hc.2)
end
end L2
namespace L2
open PySem PySem.Spec PyProof.Rows PySem.W
theorem zu4 : ∀ {ns : List Int} {n : Int}, n ∈ ns -> hy0 n <= WData.weightAll (ns.map WData.int)
 | m :: ns, n, h => by
  simp only [ey6, WData.weightAll];rcases by7.mp h with rfl | h
  ·have : hy0 n = WData.weight (.int n) := by simp [WData.weight, hy0]
   omega
  ·have := zu4 h;omega
theorem zb34 {l : PySem.W.OpenLaw} {n k : Nat} {q : cy8} {loose : List Str} {XP : (Str -> Option Value) -> Heap -> Prop} {YP : World -> Heap -> Prop} {d : DefRec} {K : Params -> ay5} {CX : World -> CXT} {sp : World -> Sp} {x : Str}
  (hn : l.most = some n) (hn2 : n <= by2) (hdf : d.params.defaults = []) (hr : zz2 k callerA)
  (hY : ∀ (w : World) (h : Heap), YP w h -> (K w.params).In h)
  (F : ∀ (w : World) (mg : Str -> Option Value) (fa : Addr) (h : Heap), (K w.params).In h -> h.Ns cy2 mg -> mg d.name = some (.ref fa) ->
   ∃ fd : fy7, (∀ (s : Shared) (u : Value), BindsTo s fd ⟨[u], []⟩ [(x, u)]) /\
    ∀ base : Heap, (K w.params).In base -> base.Ns cy2 mg -> zj9 l.prog w (K w.params) mg base (CX w) k fa fd [x] (sp w))
  (hsp : ∀ (w : World) (H : Hp) (a : Addr) (ns : List Int), ns.length <= n -> (∀ m ∈ ns, hy0 m <= 2 ^ 20) -> Only H -> SqL (K w.params) H a (ns.map V.int) -> sp w [.ref a] H (fun v _ => v = .bl true) fun _ _ _ => False)
  (hCX : ∀ (w : World) (H : Hp) (s : Shared) (e : Value) (s' : Shared), CX w [] H s (fun _ _ _ => False) e s' -> False) :
  PySem.W.WalkO q loose XP YP l.row.toRowW d [] (fun f vs => PySem.call f vs) := by
 intro w s₀ s₁ mg mb G Y fa o pm cd doc dV kV ho hd hcd hD hmg hg args vals as hpre hlay hrd hwl hlo;obtain rfl : dV = .none := Dflts.none hD hdf;obtain rfl : kV = .none := Dflts.noKw hD;obtain ⟨a, vs, ns, rfl, rfl, hobj, hints, hlen⟩ := Att.za04 hn hpre hwl;have KX := hY w _ Y;obtain ⟨fd, hb, hF⟩ := F w mg fa _ KX G.T.g hmg
 have hbits : ∀ m ∈ ns, hy0 m <= 2 ^ 20 := fun m hm => by
  have h1 := (layableW_iff.mp (layW_cons hlay).1).2.2;have h2 := zu4 hm;have e : WData.weight (.list (ns.map WData.int)) = WData.weightAll (ns.map WData.int) := by simp [WData.weight]
  rw [e] at h1;exact dy9 h2 h1
 refine PySem.W.enter_call (uy6 (zb26 KX G.T.g G.T.b G.T.builtins G.T.nolimit hg hobj hints (dy9 hlen hn2) hr hF hb (fun H hO hS => hsp w H a ns hlen hbits hO hS) fun H e s' => hCX w H s₁ e s') fun r s' hq => ?_);obtain ⟨rfl, h2, h3, h4⟩ := hq;exact ⟨.inl ⟨.bool true, .bool true, [], rfl, fun _ => rfl, .bool true, Att.za05 l _, fun _ => ⟨List.Pairwise.nil, fun _ hm => (nomatch hm)⟩⟩, h2, h3, h4⟩
end L2
namespace L2
open PySem PySem.Spec PyProof.Rows
section
variable {α β : Type} {F G : α -> β -> Prop}
theorem zd6 (h : ∀ a b, F a b -> G a b) : ∀ {l : List α} {m : List β}, Paired F l m -> Paired G l m
 | _, _, .nil => .nil
 | _, _, .cons a t => .cons (h _ _ a) (zd6 h t)
theorem zh3 : ∀ {l : List α} {m : List β} {i : Nat} {a : α}, Paired F l m -> l[i]? = some a -> ∃ b, m[i]? = some b /\ F a b
 | _, _, _, _, .nil, e => by simp at e
 | _, _, 0, _, .cons h _, e => by simp at e; subst e; exact ⟨_, rfl, h⟩
 | _, _, i + 1, a, .cons _ t, e => by
  obtain ⟨b, h1, h2⟩ := zh3 (i := i) (a := a) t (by simpa using e);exact ⟨b, by simpa using h1, h2⟩
theorem ze2 : ∀ {l : List α} {m : List β} {i : Nat} {b : β}, Paired F l m -> m[i]? = some b -> ∃ a, l[i]? = some a /\ F a b
 | _, _, _, _, .nil, e => by simp at e
 | _, _, 0, _, .cons h _, e => by simp at e; subst e; exact ⟨_, rfl, h⟩
 | _, _, i + 1, b, .cons _ t, e => by
  obtain ⟨a, h1, h2⟩ := ze2 (i := i) (b := b) t (by simpa using e);exact ⟨a, by simpa using h1, h2⟩
theorem zb1 : ∀ {l : List α} {m : List β}, Paired F l m -> l.length = m.length
 | _, _, .nil => rfl
 | _, _, .cons _ t => by simp [zb1 t]
theorem zo5 : ∀ {l l' : List α} {m m' : List β}, Paired F l m -> Paired F l' m' -> Paired F (l ++ l') (m ++ m')
 | _, _, _, _, .nil, s => s
 | _, _, _, _, .cons h t, s => .cons h (zo5 t s)
theorem za07 : ∀ {l : List α} {m : List β} (n : Nat), Paired F l m -> Paired F (l.take n) (m.take n)
 | _, _, 0, _ => .nil
 | _, _, _ + 1, .nil => .nil
 | _, _, n + 1, .cons r t => .cons r (za07 n t)
theorem za08 : ∀ {l : List α} {m : List β} (n : Nat), Paired F l m -> Paired F (l.drop n) (m.drop n)
 | _, _, 0, r => r
 | _, _, _ + 1, .nil => .nil
 | _, _, n + 1, .cons _ t => za08 n t
theorem zc01 {a : α} {b : β} (r : F a b) : ∀ {l : List α} {m : List β} (i : Nat), Paired F l m -> Paired F (l.set i a) (m.set i b)
 | _, _, _, .nil => .nil
 | _, _, 0, .cons _ t => .cons r t
 | _, _, i + 1, .cons q t => .cons q (zc01 r i t)
theorem za09 {γ : Type} {f : γ -> α} {l : List γ} {m : List β} (h : Paired (fun c b => F (f c) b) l m) : Paired F (l.map f) m := by
 induction h with
 | nil => exact .nil
 | cons r _ ih => exact .cons r ih
theorem zt0 {γ : Type} {f : γ -> α} : ∀ {l : List γ} {m : List β}, Paired F (l.map f) m -> Paired (fun c b => F (f c) b) l m
 | [], _, .nil => .nil
 | _ :: _, _, .cons r t => .cons r (zt0 t)
end
mutual
inductive Rq (K : ay5) (F : Hp) : V -> PyData -> Prop
 | non : Rq K F .non .none
 | bl (b : Bool) : Rq K F (.bl b) (.bool b)
 | int (i : Int) : Rq K F (.int i) (.int i)
 | str (x : Str) : Rq K F (.str x) (.str x)
 | lst {a : Addr} {vs : List V} {ds : List PyData} : Rd F a (.lst vs) -> Rqs K F vs ds -> Rq K F (.ref a) (.list ds)
 | tup {a : Addr} {vs : List V} {ds : List PyData} : SqT K F a vs -> Rqs K F vs ds -> Rq K F (.ref a) (.tuple ds)
 | dct {a : Addr} : F a = some (.dK []) -> Rq K F (.ref a) (.dict [])
inductive Rqs (K : ay5) (F : Hp) : List V -> List PyData -> Prop
 | nil : Rqs K F [] []
 | cons {v : V} {d : PyData} {vs : List V} {ds : List PyData} : Rq K F v d -> Rqs K F vs ds -> Rqs K F (v :: vs) (d :: ds)
end
theorem zm6.rd {H H' : Hp} {a : Addr} {u : HO} (e : zm6 H H') (h : Rd H a u) : Rd H' a u := by
 rcases h with h | ⟨o, h⟩
 ·exact .inl (e _ _ h)
 ·exact .inr ⟨o, e _ _ h⟩
theorem zm6.zr7 {K : ay5} {H H' : Hp} {a : Addr} {xs : List V} (e : zm6 H H') (h : SqT K H a xs) : SqT K H' a xs := by
 rcases h with (h | ⟨o, h⟩) | h
 ·exact .inl (.inl (e _ _ h))
 ·exact .inl (.inr ⟨o, e _ _ h⟩)
 ·exact .inr h
mutual
theorem Rq.same {K : ay5} {H H' : Hp} (s : zm6 H H') : ∀ (d : PyData) {v : V}, Rq K H v d -> Rq K H' v d
 | .none, _, h => by cases h; exact .non
 | .bool _, _, h => by cases h; exact .bl _
 | .int _, _, h => by cases h; exact .int _
 | .str _, _, h => by cases h; exact .str _
 | .list ds, _, h => by cases h with | lst e r => exact .lst (s.rd e) (Rqs.same s ds r)
 | .tuple ds, _, h => by cases h with | tup e r => exact .tup (s.zr7 e) (Rqs.same s ds r)
 | .dict _, _, h => by cases h with | dct e => exact .dct (s _ _ e)
theorem Rqs.same {K : ay5} {H H' : Hp} (s : zm6 H H') : ∀ (ds : List PyData) {vs : List V}, Rqs K H vs ds -> Rqs K H' vs ds
 | [], _, .nil => .nil
 | d :: ds, _, .cons r t => .cons (Rq.same s d r) (Rqs.same s ds t)
end
theorem Rqs.pd {K : ay5} {H : Hp} : ∀ {vs : List V} {ds : List PyData}, Rqs K H vs ds -> Paired (fun d v => Rq K H v d) ds vs
 | _, _, .nil => .nil
 | _, _, .cons r t => .cons r (Rqs.pd t)
theorem Rqs.of {K : ay5} {H : Hp} : ∀ {ds : List PyData} {vs : List V}, Paired (fun d v => Rq K H v d) ds vs -> Rqs K H vs ds
 | _, _, .nil => .nil
 | _, _, .cons r t => .cons r (Rqs.of t)
theorem Rq.zf2 {K : ay5} {H : Hp} {v : V} {x : Str} (r : Rq K H v (.str x)) : v = .str x := by cases r; rfl
theorem Rq.zd7 {K : ay5} {H : Hp} {v : V} {x : Int} (r : Rq K H v (.int x)) : v = .int x := by cases r; rfl
theorem Rq.zz9 {K : ay5} {H : Hp} {v : V} {x : Bool} (r : Rq K H v (.bool x)) : v = .bl x := by cases r; rfl
theorem Rq.zg3 {K : ay5} {H : Hp} {v : V} {ds : List PyData} (r : Rq K H v (.tuple ds)) : ∃ a vs, v = .ref a /\ SqT K H a vs /\ Paired (fun d v => Rq K H v d) ds vs := by
 cases r with
 | tup h t => exact ⟨_, _, rfl, h, t.pd⟩
theorem Rq.zF4 {K : ay5} {H : Hp} {v : V} {ds : List PyData} (r : Rq K H v (.list ds)) : ∃ a vs, v = .ref a /\ Rd H a (.lst vs) /\ Paired (fun d v => Rq K H v d) ds vs := by
 cases r with
 | lst h t => exact ⟨_, _, rfl, h, t.pd⟩
mutual
theorem Rq.reads {X : Cx} {pins : List (Addr × Obj)} {σ : St} {H : Hp} {s : Shared} (I : Inv X pins σ H s) : ∀ (d : PyData) {v : V} {u : Value}, d.canLay0 = true -> Rq X.K H v d -> RelV v u -> ∃ as, Reads s.heap u d as
 | .none, _, _, _, h, r => by cases h; cases r; exact ⟨_, .none⟩
 | .bool b, _, _, _, h, r => by cases h; cases r; exact ⟨_, .bool b⟩
 | .int i, _, _, _, h, r => by cases h; obtain ⟨t, rfl⟩ := r; exact ⟨_, .int i t⟩
 | .str x, _, _, _, h, r => by cases h; obtain ⟨t, rfl⟩ := r; exact ⟨_, .str x t⟩
 | .list ds, _, _, c, h, r => by
  cases h
  rename_i e q
  cases r;obtain ⟨its, rv, ⟨o, n, ho, hc, _, hd⟩, _⟩ := I.list (.inl e);obtain ⟨as, h⟩ := Rqs.reads I ds (by simpa [ry2] using c) q rv;exact ⟨_, .list ho hc hd (by simpa using h)⟩
 | .tuple ds, _, _, c, h, r => by
  cases h
  rename_i e q
  cases r;obtain ⟨its, rv, ⟨o, ho, hc, n, hd⟩, _⟩ := I.tuple e;obtain ⟨as, h⟩ := Rqs.reads I ds (by simpa [ry2] using c) q rv;exact ⟨_, .tuple ho hc hd (by simpa using h)⟩
 | .dict _, _, _, c, _, r => by simp [ry2] at c
theorem Rqs.reads {X : Cx} {pins : List (Addr × Obj)} {σ : St} {H : Hp} {s : Shared} (I : Inv X pins σ H s) : ∀ (ds : List PyData) {vs : List V} {us : List Value}, py3 ds = true -> Rqs X.K H vs ds -> Vals vs us -> ∃ as, ReadsAll s.heap us ds as
 | [], _, _, _, .nil, r => by cases r; exact ⟨_, .nil⟩
 | d :: ds, _, _, c, .cons q t, r => by
  cases r with
  | cons r1 r2 =>
   simp [py3] at c;obtain ⟨as, h⟩ := Rq.reads I d c.1 q r1;obtain ⟨bs, h'⟩ := Rqs.reads I ds c.2 t r2;exact ⟨_, .cons h h'⟩
end
inductive El where
 | d (x : PyData)
 | o (k : Nat)
 | s (ns : List Int)
 | x (C : Addr)
 | p (ks : List Key)
 | t (xs : List (Sum PyData Nat))
inductive OD where
 | lst (xs : List El)
 | dK (kvs : List (Key × El))
 | dT (kvs : List (List Key × El))
 | fT (o : Obj) (kvs : List (List Key × El))
 | fK (o : Obj) (kvs : List (Key × El))
abbrev Wl := List OD
abbrev Sl := List (Option El)
def excO (a C : Addr) : HO := .ext fun h => ∃ o, h.get? a = some o /\ o.cls = .ref C
def TiR (K : ay5) (F : Hp) (A : List Addr) : Sum PyData Nat -> V -> Prop
 | .inl d, v => Rq K F v d
 | .inr k, v => ∃ a, A[k]? = some a /\ v = .ref a
def ElR (K : ay5) (F : Hp) (A : List Addr) : El -> V -> Prop
 | .d x, v => Rq K F v x
 | .o k, v => ∃ a, A[k]? = some a /\ v = .ref a
 | .s ns, v => ∃ a, v = .ref a /\ SqL K F a (ns.map V.int)
 | .x C, v => ∃ a, v = .ref a /\ F a = some (excO a C)
 | .p ks, v => ∃ a, v = .ref a /\ F a = some (.tup (ks.map kV))
 | .t xs, v => ∃ a vs, v = .ref a /\ F a = some (.tup vs) /\ Paired (TiR K F A) xs vs
theorem ElR.dd {K : ay5} {F : Hp} {A : List Addr} {x : PyData} {v : V} (h : Rq K F v x) : ElR K F A (.d x) v := h
theorem ElR.oo {K : ay5} {F : Hp} {A : List Addr} {k : Nat} {a : Addr} (h : A[k]? = some a) : ElR K F A (.o k) (.ref a) := ⟨a, h, rfl⟩
def KeysIn (F : Hp) (o : Obj) (ks : List (List Key)) : Prop := ∃ es ep, o.ExactDict /\ o.data = .dict es ep /\ es.size = ks.length /\ ∀ (i : Nat) k, ks[i]? = some k -> ∃ en b, es[i]? = some en /\ en.key = .ref b /\ F b = some (.tup (k.map kV))
theorem KeysIn.same {F F' : Hp} {o : Obj} {ks : List (List Key)} (h : KeysIn F o ks) (s : zm6 F F') : KeysIn F' o ks := by
 obtain ⟨es, ep, h1, h2, h3, h4⟩ := h;refine ⟨es, ep, h1, h2, h3, fun i k hk => ?_⟩;obtain ⟨en, b, e1, e2, e3⟩ := h4 i k hk;exact ⟨en, b, e1, e2, s _ _ e3⟩
def OdR (K : ay5) (F : Hp) (A : List Addr) : OD -> HO -> Prop
 | .lst es, h => ∃ vs, h = .lst vs /\ Paired (ElR K F A) es vs
 | .dK kvs, h => ∃ vs, h = .dK vs /\ Paired (fun p q => p.1 = q.1 /\ ElR K F A p.2 q.2) kvs vs
 | .dT kvs, h => ∃ vs, h = .dT vs /\ Paired (fun p q => p.1 = q.1 /\ ElR K F A p.2 q.2) kvs vs
 | .fT o kvs, h => ∃ vs, (h = .frz o (.dT vs) /\ KeysIn F o (kvs.map (·.1))) /\ Paired (fun p q => p.1 = q.1 /\ ElR K F A p.2 q.2) kvs vs
 | .fK o kvs, h => ∃ vs, h = .frz o (.dK vs) /\ Paired (fun p q => p.1 = q.1 /\ ElR K F A p.2 q.2) kvs vs
structure RW (K : ay5) (F : Hp) (A : List Addr) (W : Wl) (H : Hp) : Prop where
 sub : zm6 F H
 len : A.length = W.length
 nd : A.Nodup
 out : ∀ a ∈ A, F a = none
 obj : ∀ (k : Nat) a o, A[k]? = some a -> W[k]? = some o -> ∃ h, H a = some h /\ OdR K F A o h
structure SR (K : ay5) (F : Hp) (A : List Addr) (S : Sl) (σ : St) : Prop where
 len : S.length = σ.length
 get : ∀ (i : Nat) e, S[i]? = some (some e) -> ∃ v, σ[i]? = some (some v) /\ ElR K F A e v
structure Ext (F : Hp) (A : List Addr) (F' : Hp) (A' : List Addr) : Prop where
 same : zm6 F F'
 pre : A <+: A'
section
variable {K : ay5} {F F' F1 F2 : Hp} {A A' A1 A2 : List Addr} {W W' : Wl} {H H' : Hp}
theorem Ext.refl : Ext F A F A := ⟨.refl _, ty7 _⟩
theorem Ext.trans (a : Ext F A F1 A1) (b : Ext F1 A1 F2 A2) : Ext F A F2 A2 := ⟨a.same.trans b.same, a.pre.trans b.pre⟩
theorem zu5 {A A' : List Addr} (h : A <+: A') {k : Nat} {a : Addr} (e : A[k]? = some a) : A'[k]? = some a := by
 obtain ⟨r, rfl⟩ := h;rw [ay8 (by obtain ⟨q, _⟩ := ay3.mp e; exact q)];exact e
theorem TiR.ext (x : Ext F A F' A') : ∀ {e : Sum PyData Nat} {v : V}, TiR K F A e v -> TiR K F' A' e v
 | .inl _, _, h => Rq.same x.same _ h
 | .inr _, _, ⟨a, h, r⟩ => ⟨a, zu5 x.pre h, r⟩
theorem ElR.ext (x : Ext F A F' A') : ∀ {e : El} {v : V}, ElR K F A e v -> ElR K F' A' e v
 | .d _, _, h => Rq.same x.same _ h
 | .o _, _, ⟨a, h, r⟩ => ⟨a, zu5 x.pre h, r⟩
 | .s _, _, ⟨a, h, r⟩ => ⟨a, h, x.same.seq r⟩
 | .x _, _, ⟨a, h, r⟩ => ⟨a, h, x.same _ _ r⟩
 | .p _, _, ⟨a, h, r⟩ => ⟨a, h, x.same _ _ r⟩
 | .t _, _, ⟨a, vs, h, r, p⟩ => ⟨a, vs, h, x.same _ _ r, zd6 (fun _ _ z => z.ext x) p⟩
theorem OdR.ext (x : Ext F A F' A') : ∀ {o : OD} {h : HO}, OdR K F A o h -> OdR K F' A' o h
 | .lst _, _, ⟨vs, e, p⟩ => ⟨vs, e, zd6 (fun _ _ r => r.ext x) p⟩
 | .dK _, _, ⟨vs, e, p⟩ => ⟨vs, e, zd6 (fun _ _ r => ⟨r.1, r.2.ext x⟩) p⟩
 | .dT _, _, ⟨vs, e, p⟩ => ⟨vs, e, zd6 (fun _ _ r => ⟨r.1, r.2.ext x⟩) p⟩
 | .fT _ _, _, ⟨vs, ⟨e, ki⟩, p⟩ => ⟨vs, ⟨e, ki.same x.same⟩, zd6 (fun _ _ r => ⟨r.1, r.2.ext x⟩) p⟩
 | .fK _ _, _, ⟨vs, e, p⟩ => ⟨vs, e, zd6 (fun _ _ r => ⟨r.1, r.2.ext x⟩) p⟩
theorem SR.ext {S : Sl} {σ : St} (r : SR K F A S σ) (x : Ext F A F' A') : SR K F' A' S σ := ⟨r.len, fun i e h => by
 obtain ⟨v, h1, h2⟩ := r.get i e h
 exact ⟨v, h1, h2.ext x⟩⟩
theorem SR.set {S : Sl} {σ : St} (r : SR K F A S σ) {e : El} {v : V} (h : ElR K F A e v) (i : Nat) : SR K F A (S.set i (some e)) (σ.set i (some v)) := ⟨by simp [r.len], fun j e' q => by
 by_cases hj : i = j
 ·subst hj
  have hi : i < S.length := by
   have := (ay3.mp q).1;simpa using this
  rw [gy3 hi] at q;cases q;exact ⟨v, by rw [gy3 (by rw [<- r.len]; exact hi)], h⟩
 ·rw [cy3 hj] at q;obtain ⟨v', h1, h2⟩ := r.get j e' q
  exact ⟨v', by rw [cy3 hj]; exact h1, h2⟩⟩
theorem RW.zd52 (r : RW K F A W H) {p : Addr} (h : H p = none) : p ∉ A := fun z => by
 obtain ⟨k, hk⟩ := gy1.mp z;have hl : k < W.length := by rw [<- r.len]; exact (ay3.mp hk).1
 obtain ⟨o, e, _⟩ := r.obj k p W[k] hk (by simp [hl]);rw [h] at e;cases e
theorem zj2 {F : Hp} {p : Addr} {o : HO} (h : F p = none) : zm6 F (upd F p o) := fun b o' e => by rw [za5 (za3 e h)]; exact e
theorem zb35 {F H : Hp} (s : zm6 F H) {p : Addr} {o : HO} : zm6 (upd F p o) (upd H p o) := fun b o' e => by
 by_cases hb : b = p
 ·subst hb; rw [zb3] at e ⊢; exact e
 ·rw [za5 hb] at e ⊢; exact s _ _ e
theorem RW.newF (r : RW K F A W H) {p : Addr} (h : H p = none) (o : HO) : RW K (upd F p o) A W (upd H p o) /\ Ext F A (upd F p o) A := by
 have hp := r.zd52 h;have x : Ext F A (upd F p o) A := ⟨zj2 (r.sub.free h), ty7 _⟩
 refine ⟨⟨zb35 r.sub, r.len, r.nd, fun a ha => ?_, fun k a o' hk hw => ?_⟩, x⟩
 ·rw [za5 (fun z => hp (by rw [<- z]; exact ha))];exact r.out a ha
 ·obtain ⟨u, e, q⟩ := r.obj k a o' hk hw;exact ⟨u, by rw [za5 (za3 e h)]; exact e, q.ext x⟩
theorem RW.zN9 (r : RW K F A W H) {p : Addr} (h : H p = none) {o : OD} {u : HO} (q : OdR K F A o u) : RW K F (A ++ [p]) (W ++ [o]) (upd H p u) /\ Ext F A F (A ++ [p]) := by
 have hp := r.zd52 h;have x : Ext F A F (A ++ [p]) := ⟨.refl _, List.prefix_append _ _⟩
 refine ⟨⟨fun b o' e => by rw [za5 (za3 (r.sub _ _ e) h)]; exact r.sub _ _ e, by simp [r.len], ?_, fun a ha => ?_, fun k a o' hk hw => ?_⟩, x⟩
 ·rw [List.nodup_append];exact ⟨r.nd, by simp, fun a ha b hb => by simp at hb; subst hb; exact fun z => hp (z ▸ ha)⟩
 ·rcases ey0.mp ha with ha | ha
  ·exact r.out a ha
  ·simp at ha; subst ha; exact r.sub.free h
 ·by_cases hl : k < A.length
  ·rw [ay8 hl] at hk;rw [ay8 (by rw [<- r.len]; exact hl)] at hw;obtain ⟨u', e, q'⟩ := r.obj k a o' hk hw;exact ⟨u', by rw [za5 (za3 e h)]; exact e, q'.ext x⟩
  ·have hk' : k = A.length := by
    have := (ay3.mp hk).1;simp at this;omega
   subst hk';rw [cy9 (ay6 _)] at hk;rw [cy9 (by rw [r.len]; exact ay6 _)] at hw;simp at hk;simp [r.len] at hw;subst hk hw;exact ⟨u, zb3, q.ext x⟩
theorem RW.put (r : RW K F A W H) {k : Nat} {a : Addr} (hk : A[k]? = some a) {o : OD} {u : HO} (q : OdR K F A o u) : RW K F A (W.set k o) (upd H a u) := by
 have ha : a ∈ A := cy5 hk;refine ⟨fun b o' e => ?_, by simp [r.len], r.nd, r.out, fun j b o' hj hw => ?_⟩
 ·have : b ≠ a := fun z => by subst z; rw [r.out _ ha] at e; cases e
  rw [za5 this]; exact r.sub _ _ e
 ·by_cases hjk : k = j
  ·subst hjk;rw [hk] at hj;cases hj;have hl : k < W.length := by rw [<- r.len]; exact (ay3.mp hk).1
   rw [gy3 hl] at hw;cases hw;exact ⟨u, zb3, q⟩
  ·rw [cy3 hjk] at hw;obtain ⟨u', e, q'⟩ := r.obj j b o' hj hw
   have : b ≠ a := fun z => by
    subst z;have h1 := (ay3.mp hj)
    have h2 := (ay3.mp hk)
    obtain ⟨l1, e1⟩ := h1;obtain ⟨l2, e2⟩ := h2;exact hjk ((jy9 r.nd).mp (e2.trans e1.symm))
   exact ⟨u', by rw [za5 this]; exact e, q'⟩
theorem RW.grew (r : RW K F A W H) (s : zm6 H H') {p : Addr} {vs : List V} (h : H' p = some (.tup vs)) : ∃ F', zm6 F F' /\ F' p = some (.tup vs) /\ RW K F' A W H' := by
 have hp : p ∉ A := fun z => by
  obtain ⟨k, hk⟩ := gy1.mp z;have hl : k < W.length := by rw [<- r.len]; exact (ay3.mp hk).1
  obtain ⟨o, e, q⟩ := r.obj k p W[k] hk (by simp [hl]);rw [s _ _ e] at h;cases h;generalize W[k] = oo at q;cases oo with
  | lst es => obtain ⟨vs, e, _⟩ := q; cases e
  | dK es => obtain ⟨vs, e, _⟩ := q; cases e
  | dT es => obtain ⟨vs, e, _⟩ := q; cases e
  | fT o es => obtain ⟨vs, ⟨e, _⟩, _⟩ := q; cases e
  | fK o es => obtain ⟨vs, e, _⟩ := q; cases e
 have sF : zm6 F (upd F p (.tup vs)) := fun b o e => by
  by_cases hb : b = p
  ·subst hb;have := s _ _ (r.sub _ _ e);rw [h] at this;rw [zb3];exact this
  ·rw [za5 hb]; exact e
 have x : Ext F A (upd F p (.tup vs)) A := ⟨sF, ty7 _⟩
 refine ⟨upd F p (.tup vs), sF, zb3, ⟨fun b o e => ?_, r.len, r.nd, fun a ha => ?_, fun k a o hk hw => ?_⟩⟩
 ·by_cases hb : b = p
  ·subst hb; rw [zb3] at e; cases e; exact h
  ·rw [za5 hb] at e; exact s _ _ (r.sub _ _ e)
 ·rw [za5 (fun z => hp (by rw [<- z]; exact ha))]; exact r.out a ha
 ·obtain ⟨u, e, q⟩ := r.obj k a o hk hw;exact ⟨u, s _ _ e, q.ext x⟩
end
abbrev KB := El -> Wl -> Prop
def zr8 (K : ay5) (F : Hp) (A : List Addr) (k : KB) (Q : VK) : Prop := ∀ F' A' W' H' e v, Ext F A F' A' -> RW K F' A' W' H' -> ElR K F' A' e v -> k e W' -> Q v H'
section
variable {K : ay5} {F F1 : Hp} {A A1 : List Addr} {W : Wl} {H H' : Hp} {k : KB} {Q : VK}
theorem zr8.ext (q : zr8 K F A k Q) (x : Ext F A F1 A1) : zr8 K F1 A1 k Q := fun F' A' W' H' e v y r z h => q F' A' W' H' e v (x.trans y) r z h
theorem zr8.same (q : zr8 K F A k Q) (r : RW K F A W H) {e : El} {v : V} (z : ElR K F A e v) (h : k e W) : Q v H := q F A W H e v .refl r z h
theorem zr8.newT (q : zr8 K F A k Q) (r : RW K F A W H) {p : Addr} (hp : H p = none) {vs : List V} {ds : List PyData} (z : Paired (fun d v => Rq K F v d) ds vs) (h : k (.d (.tuple ds)) W) : Q (.ref p) (upd H p (.tup vs)) := by
 obtain ⟨r', x⟩ := r.newF hp (.tup vs);exact q _ _ _ _ _ _ x r' (.dd (Rq.tup (SqT.of zb3) (Rqs.of (zd6 (fun _ _ t => Rq.same x.same _ t) z)))) h
theorem zr8.newL (q : zr8 K F A k Q) (r : RW K F A W H) {p : Addr} (hp : H p = none) {vs : List V} {ds : List PyData} (z : Paired (fun d v => Rq K F v d) ds vs) (h : k (.d (.list ds)) W) : Q (.ref p) (upd H p (.lst vs)) := by
 obtain ⟨r', x⟩ := r.newF hp (.lst vs);exact q _ _ _ _ _ _ x r' (.dd (Rq.lst (.inl zb3) (Rqs.of (zd6 (fun _ _ t => Rq.same x.same _ t) z)))) h
theorem zr8.zN9 (q : zr8 K F A k Q) (r : RW K F A W H) {p : Addr} (hp : H p = none) {o : OD} {u : HO} (z : OdR K F A o u) (h : k (.o W.length) (W ++ [o])) : Q (.ref p) (upd H p u) := by
 obtain ⟨r', x⟩ := r.zN9 hp z;exact q _ _ _ _ _ _ x r' (ElR.oo (k := W.length) (by rw [<- r.len]; simp)) h
theorem zr8.put (q : zr8 K F A k Q) (r : RW K F A W H) {j : Nat} {a : Addr} (hj : A[j]? = some a) {o : OD} {u : HO} (z : OdR K F A o u) {e : El} {v : V} (zv : ElR K F A e v) (h : k e (W.set j o)) : Q v (upd H a u) :=
 q _ _ _ _ _ _ .refl (r.put hj z) zv h
end
structure Bc extends Cx where
 F0 : Hp
 A0 : List Addr
 xk : Addr -> Sl -> Wl -> Prop
instance : Coe Bc Cx := ⟨Bc.toCx⟩
abbrev Bc.Am (X : Bc) (F : Hp) (A : List Addr) : Prop := Ext X.F0 X.A0 F A
def tD (X : Bc) (S : Sl) (W : Wl) (k : KB) : TE := fun σ H Q => ∃ F A, X.Am F A /\ RW X.K F A W H /\ SR X.K F A S σ /\ zr8 X.K F A k Q
def BE (X : Bc) (S : Sl) (W : Wl) (e : Expr) (k : KB) : Prop := PE X e (tD X S W k)
def tU (X : Bc) (e : Expr) : TE := fun σ H Q => ∃ t, PE X e t /\ t σ H Q
theorem zh8 {X : Bc} {e : Expr} : PE X e (tU X e) := fun pins s σ H Q I ⟨t, h, q⟩ => h pins s σ H Q I q
theorem BE.use {X : Bc} {S : Sl} {W : Wl} {e : Expr} {k : KB} (h : BE X S W e k) {F : Hp} {A : List Addr} {σ : St} {H : Hp} {Q : VK} (x0 : X.Am F A) (r : RW X.K F A W H) (s : SR X.K F A S σ)
  (q : ∀ F' A' W' H' e v, Ext F A F' A' -> RW X.K F' A' W' H' -> ElR X.K F' A' e v -> k e W' -> Q v H') : tU X e σ H Q := ⟨_, h, F, A, x0, r, s, q⟩
theorem BE.of {X : Bc} {S : Sl} {W : Wl} {e : Expr} {k : KB} {t : TE} (h : PE X e t) (i : ∀ F A σ H Q, X.Am F A -> RW X.K F A W H -> SR X.K F A S σ -> zr8 X.K F A k Q -> t σ H Q) : BE X S W e k :=
 fun pins s σ H Q I ⟨F, A, x0, r, sr, q⟩ => h pins s σ H Q I (i F A σ H Q x0 r sr q)
theorem BE.mono {X : Bc} {S : Sl} {W : Wl} {e : Expr} {k k' : KB} (h : BE X S W e k) (hk : ∀ x W, k x W -> k' x W) : BE X S W e k' :=
 .of h fun F A σ H Q x0 r sr q => ⟨F, A, x0, r, sr, fun F' A' W' H' e v x r z hh => q F' A' W' H' e v x r z (hk _ _ hh)⟩
section
variable {X : Bc} {S : Sl} {W : Wl} {k : KB}
theorem zd54 {i : Nat} {x : Str} {pos : Pos} {e : El} (hN : X.N[i]? = some x) (hv : Vis X.env.scope x) (hs : S[i]? = some (some e)) (h : k e W) (hd : (x == ("__debug__" : Str)) = false := by decide) (hcd : (x == ("__classdict__" : Str)) = false := by decide) : BE X S W (.Name x pos) k :=
 .of (zd17 hN hv hd hcd) fun F A σ H Q x0 r sr q => by
  obtain ⟨v, h1, h2⟩ := sr.get i e hs;exact ⟨v, h1, q.same r h2 h⟩
theorem za7 {i j pos} (h : k (.d (.int i)) W) : BE X S W (.Constant (.int i) j pos) k := .of zd18 fun F A σ H Q x0 r sr q => q.same r (.dd (Rq.int i)) h
theorem zu6 {b j pos} (h : k (.d (.bool b)) W) : BE X S W (.Constant (.bool b) j pos) k := .of ze29 fun F A σ H Q x0 r sr q => q.same r (.dd (Rq.bl b)) h
theorem zc2 {x j pos} (h : k (.d (.str x)) W) : BE X S W (.Constant (.str x) j pos) k := .of zd19 fun F A σ H Q x0 r sr q => q.same r (.dd (Rq.str x)) h
theorem zK1 {x : Str} {d : PyData} {v : V} {u : Value} {pos : Pos} (hg : Gl X x) (hm : X.mg x = some u) (rv : RelV v u) (rq : ∀ F, Rq X.K F v d) (h : k (.d d) W) (hd : (x == ("__debug__" : Str)) = false := by decide) : BE X S W (.Name x pos) k :=
 .of (zc29 hg hm rv hd) fun F A σ H Q x0 r sr q => q.same r (.dd (rq F)) h
def rU2 (X : Bc) (f : Value -> Value -> Sem Value) : R2 := fun x y H Q => ∃ r, OpR X f r /\ r x y H Q
theorem op_U {f : Value -> Value -> Sem Value} : OpR X f (rU2 X f) := fun pins s σ H x y v u Q I rx ry ⟨r, h, q⟩ => h pins s σ H x y v u Q I rx ry q
def OB (X : Bc) (f : Value -> Value -> Sem Value) (x y : El) (W : Wl) (k : KB) : Prop :=
 ∀ F A H Q vx vy, RW X.K F A W H -> ElR X.K F A x vx -> ElR X.K F A y vy -> zr8 X.K F A k Q -> rU2 X f vx vy H Q
theorem OB.of {f : Value -> Value -> Sem Value} {x y : El} {r2 : R2} (ho : OpR X f r2) (i : ∀ F A H Q vx vy, RW X.K F A W H -> ElR X.K F A x vx -> ElR X.K F A y vy -> zr8 X.K F A k Q -> r2 vx vy H Q) : OB X f x y W k :=
 fun F A H Q vx vy r zx zy q => ⟨r2, ho, i F A H Q vx vy r zx zy q⟩
theorem zg4 {a b : Expr} {op : Operator} {pos : Pos} (h : BE X S W a fun x W1 => BE X S W1 b fun y W2 => OB X (oy3 op) x y W2 k) : BE X S W (.BinOp a op b pos) k :=
 .of (ze40 op_U zh8 zh8) fun F A σ H Q x0 r sr q =>
  h.use x0 r sr fun F1 A1 W1 H1 x vx e1 r1 z1 h1 => h1.use (x0.trans e1) r1 (sr.ext e1) fun F2 A2 W2 H2 y vy e2 r2 z2 h2 => h2 F2 A2 H2 Q vx vy r2 (z1.ext e2) z2 (q.ext (e1.trans e2))
theorem zF5 {a b : Expr} {op : CmpOp} {pos : Pos} (hm : behindInMarks op b = false) (h : BE X S W a fun x W1 => BE X S W1 b fun y W2 => OB X (hy5 op) x y W2 k) : BE X S W (.Compare a [op] [b] pos) k :=
 .of (zc35 op_U zh8 zh8 hm) fun F A σ H Q x0 r sr q =>
  h.use x0 r sr fun F1 A1 W1 H1 x vx e1 r1 z1 h1 => h1.use (x0.trans e1) r1 (sr.ext e1) fun F2 A2 W2 H2 y vy e2 r2 z2 h2 => h2 F2 A2 H2 Q vx vy r2 (z1.ext e2) z2 (q.ext (e1.trans e2))
abbrev TB := Bool -> Wl -> Prop
def tDT (X : Bc) (S : Sl) (W : Wl) (k : TB) : TT := fun σ H Q => ∃ F A, X.Am F A /\ RW X.K F A W H /\ SR X.K F A S σ /\ ∀ F' A' W' H' b, Ext F A F' A' -> RW X.K F' A' W' H' -> k b W' -> Q b H'
def BT (X : Bc) (S : Sl) (W : Wl) (e : Expr) (k : TB) : Prop := PT X e (tDT X S W k)
def tUT (X : Bc) (e : Expr) : TT := fun σ H Q => ∃ t, PT X e t /\ t σ H Q
theorem pt_U {e : Expr} : PT X e (tUT X e) := fun pins s σ H Q I ⟨t, h, q⟩ => h pins s σ H Q I q
theorem BT.use {e : Expr} {k : TB} (h : BT X S W e k) {F : Hp} {A : List Addr} {σ : St} {H : Hp} {Q : Bool -> Hp -> Prop} (x0 : X.Am F A) (r : RW X.K F A W H) (s : SR X.K F A S σ)
  (q : ∀ F' A' W' H' b, Ext F A F' A' -> RW X.K F' A' W' H' -> k b W' -> Q b H') : tUT X e σ H Q := ⟨_, h, F, A, x0, r, s, q⟩
theorem BT.of {e : Expr} {k : TB} {t : TT} (h : PT X e t) (i : ∀ F A σ H (Q : Bool -> Hp -> Prop), X.Am F A -> RW X.K F A W H -> SR X.K F A S σ -> (∀ F' A' W' H' b, Ext F A F' A' -> RW X.K F' A' W' H' -> k b W' -> Q b H') -> t σ H Q) : BT X S W e k :=
 fun pins s σ H Q I ⟨F, A, x0, r, sr, q⟩ => h pins s σ H Q I (i F A σ H Q x0 r sr q)
theorem BT.mono {e : Expr} {k k' : TB} (h : BT X S W e k) (hk : ∀ b W, k b W -> k' b W) : BT X S W e k' :=
 .of h fun F A σ H Q x0 r sr q => ⟨F, A, x0, r, sr, fun F' A' W' H' b x r z => q F' A' W' H' b x r (hk _ _ z)⟩
def BW (X : Bc) (S : Sl) (W : Wl) (e : Expr) (k : TB) : Prop := PW X e (tDT X S W k)
def tUW (X : Bc) (e : Expr) : TT := fun σ H Q => ∃ t, PW X e t /\ t σ H Q
theorem pw_U {e : Expr} : PW X e (tUW X e) := fun wh pins s σ H Q I ⟨t, h, q⟩ => h wh pins s σ H Q I q
theorem BW.use {e : Expr} {k : TB} (h : BW X S W e k) {F : Hp} {A : List Addr} {σ : St} {H : Hp} {Q : Bool -> Hp -> Prop} (x0 : X.Am F A) (r : RW X.K F A W H) (s : SR X.K F A S σ)
  (q : ∀ F' A' W' H' b, Ext F A F' A' -> RW X.K F' A' W' H' -> k b W' -> Q b H') : tUW X e σ H Q := ⟨_, h, F, A, x0, r, s, q⟩
theorem BW.of {e : Expr} {k : TB} {t : TT} (h : PW X e t) (i : ∀ F A σ H (Q : Bool -> Hp -> Prop), X.Am F A -> RW X.K F A W H -> SR X.K F A S σ -> (∀ F' A' W' H' b, Ext F A F' A' -> RW X.K F' A' W' H' -> k b W' -> Q b H') -> t σ H Q) : BW X S W e k :=
 fun wh pins s σ H Q I ⟨F, A, x0, r, sr, q⟩ => h wh pins s σ H Q I (i F A σ H Q x0 r sr q)
theorem BW.bt {e : Expr} {k : TB} (h : BW X S W e k) : BT X S W e k := h.pt
theorem zj3 {e : Expr} {k : TB} (h : BE X S W e fun x W1 => ∃ b, x = .d (.bool b) /\ k b W1) (he : ∀ whole, isTrue e X.env whole = (do let v <- whole; standAt e.pos; holding [v] (truthy v)) := by intro _; rfl) : BT X S W e k :=
 .of (zd20 zh8 he) fun F A σ H Q x0 r sr q => h.use x0 r sr fun F1 A1 W1 H1 x vx e1 r1 z1 zR => by
  obtain ⟨b, hb, h1⟩ := zR;subst hb;obtain rfl := Rq.zz9 z1;exact ⟨b, rfl, q F1 A1 W1 H1 b e1 r1 h1⟩
theorem zd5 {a b : Expr} {op : CmpOp} {pos : Pos} {k : TB} (hm : behindInMarks op b = false) (h : BE X S W a fun x W1 => BE X S W1 b fun y W2 => OB X (hy5 op) x y W2 fun z W3 => ∃ c, z = .d (.bool c) /\ k c W3) : BT X S W (.Compare a [op] [b] pos) k :=
 .of (zc36 op_U zh8 zh8 hm) fun F A σ H Q x0 r sr q =>
  h.use x0 r sr fun F1 A1 W1 H1 x vx e1 r1 z1 h1 => h1.use (x0.trans e1) r1 (sr.ext e1) fun F2 A2 W2 H2 y vy e2 r2 z2 h2 => h2 F2 A2 H2 _ vx vy r2 (z1.ext e2) z2 fun F3 A3 W3 H3 z vz e3 r3 z3 zR => by
   obtain ⟨c, hc, h3⟩ := zR;subst hc;obtain rfl := Rq.zz9 z3;exact ⟨c, rfl, q F3 A3 W3 H3 c ((e1.trans e2).trans e3) r3 h3⟩
theorem zo6 {a : Expr} {pos : Pos} {k : TB} (h : BT X S W a fun b W1 => k (!b) W1) : BT X S W (.UnaryOp .Not a pos) k :=
 .of (zd23 pt_U) fun F A σ H Q x0 r sr q => h.use x0 r sr fun F1 A1 W1 H1 b e1 r1 h1 => q F1 A1 W1 H1 _ e1 r1 h1
theorem zu7 {a : Expr} {pos : Pos} {k : TB} (h : BT X S W a k) : BW X S W (.BoolOp .And [a] pos) k := .of (zc31 pt_U) fun F A σ H Q x0 r sr q => h.use x0 r sr q
theorem zu8 {a : Expr} {pos : Pos} {k : TB} (h : BT X S W a k) : BW X S W (.BoolOp .Or [a] pos) k := .of (zd21 pt_U) fun F A σ H Q x0 r sr q => h.use x0 r sr q
theorem zy0 {a b : Expr} {rest : List Expr} {pos : Pos} {k : TB} (h : BT X S W a fun c W1 => if c = true then BW X S W1 (.BoolOp .And (b :: rest) pos) k else k false W1) : BW X S W (.BoolOp .And (a :: b :: rest) pos) k :=
 .of (zd22 pt_U pw_U) fun F A σ H Q x0 r sr q => h.use x0 r sr fun F1 A1 W1 H1 c e1 r1 h1 => by
  cases c with
  | true =>
   rw [if_pos rfl] at h1 ⊢;exact h1.use (x0.trans e1) r1 (sr.ext e1) fun F2 A2 W2 H2 b e2 r2 h2 => q F2 A2 W2 H2 b (e1.trans e2) r2 h2
  | false =>
   rw [if_neg (by decide)] at h1 ⊢;exact q F1 A1 W1 H1 _ e1 r1 h1
theorem zA0 {a b : Expr} {rest : List Expr} {pos : Pos} {k : TB} (h : BT X S W a fun c W1 => if c = true then k true W1 else BW X S W1 (.BoolOp .Or (b :: rest) pos) k) : BW X S W (.BoolOp .Or (a :: b :: rest) pos) k :=
 .of (ze30 pt_U pw_U) fun F A σ H Q x0 r sr q => h.use x0 r sr fun F1 A1 W1 H1 c e1 r1 h1 => by
  cases c with
  | true =>
   rw [if_pos rfl] at h1 ⊢;exact q F1 A1 W1 H1 _ e1 r1 h1
  | false =>
   rw [if_neg (by decide)] at h1 ⊢;exact h1.use (x0.trans e1) r1 (sr.ext e1) fun F2 A2 W2 H2 b e2 r2 h2 => q F2 A2 W2 H2 b (e1.trans e2) r2 h2
theorem zc03 {op} {a : Expr} {pos : Pos} (h : BE X S W a k) : BE X S W (.BoolOp op [a] pos) k := zd24 h
theorem zd56 {a b : Expr} {rest : List Expr} {pos : Pos} (h : BE X S W a fun x W1 => ∃ c, x = .d (.bool c) /\ if c = true then BE X S W1 (.BoolOp .And (b :: rest) pos) k else k (.d (.bool false)) W1) : BE X S W (.BoolOp .And (a :: b :: rest) pos) k :=
 .of (zd25 zh8 zh8) fun F A σ H Q x0 r sr q => h.use x0 r sr fun F1 A1 W1 H1 x vx e1 r1 z1 zR => by
  obtain ⟨c, hc, h1⟩ := zR;subst hc;obtain rfl := Rq.zz9 z1;refine ⟨c, rfl, ?_⟩;cases c with
  | true =>
   rw [if_pos rfl] at h1 ⊢;exact h1.use (x0.trans e1) r1 (sr.ext e1) fun F2 A2 W2 H2 y vy e2 r2 z2 h2 => q F2 A2 W2 H2 y vy (e1.trans e2) r2 z2 h2
  | false =>
   rw [if_neg (by decide)] at h1 ⊢;exact q F1 A1 W1 H1 _ _ e1 r1 (.dd (Rq.bl false)) h1
theorem ze58 {a b : Expr} {rest : List Expr} {pos : Pos} (h : BE X S W a fun x W1 => ∃ c, x = .d (.bool c) /\ if c = true then k (.d (.bool true)) W1 else BE X S W1 (.BoolOp .Or (b :: rest) pos) k) : BE X S W (.BoolOp .Or (a :: b :: rest) pos) k :=
 .of (ze32 zh8 zh8) fun F A σ H Q x0 r sr q => h.use x0 r sr fun F1 A1 W1 H1 x vx e1 r1 z1 zR => by
  obtain ⟨c, hc, h1⟩ := zR;subst hc;obtain rfl := Rq.zz9 z1;refine ⟨c, rfl, ?_⟩;cases c with
  | true =>
   rw [if_pos rfl] at h1 ⊢;exact q F1 A1 W1 H1 _ _ e1 r1 (.dd (Rq.bl true)) h1
  | false =>
   rw [if_neg (by decide)] at h1 ⊢;exact h1.use (x0.trans e1) r1 (sr.ext e1) fun F2 A2 W2 H2 y vy e2 r2 z2 h2 => q F2 A2 W2 H2 y vy (e1.trans e2) r2 z2 h2
theorem ze59 {c a b : Expr} {pos : Pos} (h : BT X S W c fun t W1 => if t = true then BE X S W1 a k else BE X S W1 b k) : BE X S W (.IfExp c a b pos) k :=
 .of (zb15 pt_U zh8 zh8) fun F A σ H Q x0 r sr q => h.use x0 r sr fun F1 A1 W1 H1 c e1 r1 h1 => by
  cases c with
  | true =>
   rw [if_pos rfl] at h1 ⊢;exact h1.use (x0.trans e1) r1 (sr.ext e1) fun F2 A2 W2 H2 y vy e2 r2 z2 h2 => q F2 A2 W2 H2 y vy (e1.trans e2) r2 z2 h2
  | false =>
   rw [if_neg (by decide)] at h1 ⊢;exact h1.use (x0.trans e1) r1 (sr.ext e1) fun F2 A2 W2 H2 y vy e2 r2 z2 h2 => q F2 A2 W2 H2 y vy (e1.trans e2) r2 z2 h2
end
section
variable {X : Bc} {S : Sl} {W : Wl} {k : KB}
abbrev KA := List El -> Wl -> Prop
def tDA (X : Bc) (S : Sl) (W : Wl) (k : KA) : TA := fun σ H Q => ∃ F A, X.Am F A /\ RW X.K F A W H /\ SR X.K F A S σ /\ ∀ F' A' W' H' es vs, Ext F A F' A' -> RW X.K F' A' W' H' -> Paired (ElR X.K F' A') es vs -> k es W' -> Q vs H'
def BA (X : Bc) (S : Sl) (W : Wl) (es : List Expr) (k : KA) : Prop := PA X es (tDA X S W k)
def tUA (X : Bc) (es : List Expr) : TA := fun σ H Q => ∃ t, PA X es t /\ t σ H Q
theorem pa_U {es : List Expr} : PA X es (tUA X es) := fun pos pins s σ H Q I ⟨t, h, q⟩ => h pos pins s σ H Q I q
theorem BA.use {es : List Expr} {k : KA} (h : BA X S W es k) {F : Hp} {A : List Addr} {σ : St} {H : Hp} {Q : List V -> Hp -> Prop} (x0 : X.Am F A) (r : RW X.K F A W H) (s : SR X.K F A S σ)
  (q : ∀ F' A' W' H' es vs, Ext F A F' A' -> RW X.K F' A' W' H' -> Paired (ElR X.K F' A') es vs -> k es W' -> Q vs H') : tUA X es σ H Q := ⟨_, h, F, A, x0, r, s, q⟩
theorem BA.of {es : List Expr} {k : KA} {t : TA} (h : PA X es t) (i : ∀ F A σ H (Q : List V -> Hp -> Prop), X.Am F A -> RW X.K F A W H -> SR X.K F A S σ -> (∀ F' A' W' H' es vs, Ext F A F' A' -> RW X.K F' A' W' H' -> Paired (ElR X.K F' A') es vs -> k es W' -> Q vs H') -> t σ H Q) : BA X S W es k :=
 fun pos pins s σ H Q I ⟨F, A, x0, r, sr, q⟩ => h pos pins s σ H Q I (i F A σ H Q x0 r sr q)
theorem zj4 {k : KA} (h : k [] W) : BA X S W [] k := .of zu1 fun F A σ H Q x0 r sr q => q F A W H [] [] .refl r .nil h
theorem za2 {e : Expr} {es : List Expr} {k : KA} (h : BE X S W e fun x W1 => BA X S W1 es fun xs W2 => k (x :: xs) W2) (hs : fy6 (e :: es) X.env = (false, eval e X.env) :: fy6 es X.env := by rfl) : BA X S W (e :: es) k :=
 .of (zl0 zh8 pa_U hs) fun F A σ H Q x0 r sr q => h.use x0 r sr fun F1 A1 W1 H1 x vx e1 r1 z1 h1 => h1.use (x0.trans e1) r1 (sr.ext e1) fun F2 A2 W2 H2 xs vs e2 r2 z2 h2 => q F2 A2 W2 H2 _ _ (e1.trans e2) r2 (.cons (z1.ext e2) z2) h2
theorem za1 {e : Expr} {k : KA} (h : BE X S W e fun x W1 => k [x] W1) (hs : fy6 [e] X.env = [(false, eval e X.env)] := by rfl) : BA X S W [e] k :=
 za2 (h.mono fun _ _ q => zj4 q) hs
def zb2 : List PyData -> List El := List.map .d
theorem zk0 {K : ay5} {F : Hp} {A : List Addr} {ds : List PyData} {vs : List V} (h : Paired (ElR K F A) (zb2 ds) vs) : Paired (fun d v => Rq K F v d) ds vs := zt0 h
theorem zf3 {K : ay5} {F : Hp} {A : List Addr} {ds : List PyData} {vs : List V} (h : Paired (fun d v => Rq K F v d) ds vs) : Paired (ElR K F A) (zb2 ds) vs := za09 h
theorem zo7 {es : List Expr} {x1} {pos : Pos} (h : BA X S W es fun as W1 => ∃ ds, as = zb2 ds /\ ds.length <= by2 /\ k (.d (.tuple ds)) W1) : BE X S W (.Tuple es x1 pos) k :=
 .of (zZ5 pa_U) fun F A σ H Q x0 r sr q => h.use x0 r sr fun F1 A1 W1 H1 as vs e1 r1 z1 zR => by
  obtain ⟨ds, hd, hl, h1⟩ := zR;subst hd;have z := zk0 z1;exact ⟨by rw [<- zb1 z]; exact hl, fun p hp => (q.ext e1).newT r1 hp z h1⟩
theorem zf9 {es : List Expr} {pos : Pos} (h : BA X S W es fun as W1 => ∃ ds, as = zb2 ds /\ ds.length <= by2 /\ k (.d (.list ds)) W1) : BE X S W (.List es pos) k :=
 .of (zb98 pa_U) fun F A σ H Q x0 r sr q => h.use x0 r sr fun F1 A1 W1 H1 as vs e1 r1 z1 zR => by
  obtain ⟨ds, hd, hl, h1⟩ := zR;subst hd;have z := zk0 z1;exact ⟨by rw [<- zb1 z]; exact hl, fun p hp => (q.ext e1).newL r1 hp z h1⟩
theorem zq4 {es : List Expr} {pos : Pos} (h : BA X S W es fun as W1 => as.length <= by2 /\ k (.o W1.length) (W1 ++ [.lst as])) : BE X S W (.List es pos) k :=
 .of (zb98 pa_U) fun F A σ H Q x0 r sr q => h.use x0 r sr fun F1 A1 W1 H1 as vs e1 r1 z1 ⟨hl, h1⟩ =>
  ⟨by rw [<- zb1 z1]; exact hl, fun p hp => (q.ext e1).zN9 r1 hp (o := .lst as) ⟨vs, rfl, z1⟩ h1⟩
def rUC (X : Bc) (f : Value) : List V -> Hp -> VK -> Prop := fun xs H Q => ∃ r, zj0 X f r /\ r xs H Q
theorem zc04 {f : Value} : zj0 X f (rUC X f) := fun pins s σ H xs us Q I rx ⟨r, h, q⟩ => h pins s σ H xs us Q I rx q
def CB (X : Bc) (f : Value) (xs : List El) (W : Wl) (k : KB) : Prop := ∀ F A H Q vs, RW X.K F A W H -> Paired (ElR X.K F A) xs vs -> zr8 X.K F A k Q -> rUC X f vs H Q
theorem CB.of {f : Value} {xs : List El} {r1 : List V -> Hp -> VK -> Prop} (hc : zj0 X f r1) (i : ∀ F A H Q vs, RW X.K F A W H -> Paired (ElR X.K F A) xs vs -> zr8 X.K F A k Q -> r1 vs H Q) : CB X f xs W k :=
 fun F A H Q vs r z q => ⟨r1, hc, i F A H Q vs r z q⟩
theorem zc9 {e : Expr} {es : List Expr} {x : Str} {id : String} {p pos : Pos} (hg : Gl X x) (hm : X.mg x = none) (hv : fy2 x = some (.builtin id)) (h : BA X S W (e :: es) fun as W1 => CB X (.builtin id) as W1 k) (hn : x ≠ "__name__" := by decide) (hdb : (x == ("__debug__" : Str)) = false := by decide)
  (he : fy6 (e :: es) X.env = (false, eval e X.env) :: fy6 es X.env := by rfl) (hpl : (backTo pos (fy6 es X.env)).any (·.1) = false := by rfl) : BE X S W (.Call (.Name x p) (e :: es) [] pos) k :=
 .of (zo3 zc04 hg hm hv pa_U hn hdb he hpl) fun F A σ H Q x0 r sr q => h.use x0 r sr fun F1 A1 W1 H1 as vs e1 r1 z1 h1 => h1 F1 A1 H1 Q vs r1 z1 (q.ext e1)
theorem zf4 {e : Expr} {es : List Expr} {x : Str} {T : String} {p pos : Pos} (hg : Gl X x) (hm : X.mg x = none) (hv : fy2 x = some (.type T)) (h : BA X S W (e :: es) fun as W1 => CB X (.type T) as W1 k) (hn : x ≠ "__name__" := by decide) (hdb : (x == ("__debug__" : Str)) = false := by decide)
  (he : fy6 (e :: es) X.env = (false, eval e X.env) :: fy6 es X.env := by rfl) (hpl : (backTo pos (fy6 es X.env)).any (·.1) = false := by rfl) : BE X S W (.Call (.Name x p) (e :: es) [] pos) k :=
 .of (zE6 zc04 hg hm hv pa_U hn hdb he hpl) fun F A σ H Q x0 r sr q => h.use x0 r sr fun F1 A1 W1 H1 as vs e1 r1 z1 h1 => h1 F1 A1 H1 Q vs r1 z1 (q.ext e1)
abbrev RB := List El -> Wl -> KB -> Prop
def spB (K : ay5) (R : RB) : Sp := fun vs H Q _ => ∃ F A W es k, RW K F A W H /\ Paired (ElR K F A) es vs /\ R es W k /\ zr8 K F A k Q
theorem za9 {R : RB} {j : Nat} {f : Addr} {fd : fy7} {ps : List Str} {x : Str} {p pos : Pos} {e : Expr} {es : List Expr} (F : zj9 X.prog X.w X.K X.mg X.base CX0 j f fd ps (spB X.K R)) (hr : zz2 j X.A) (hg : Gl X x) (hm : X.mg x = some (.ref f))
  (hk : dy6 X.K (.ref f) = true) (hb : Binds X.K fd ps []) (h : BA X S W (e :: es) fun as W1 => R as W1 k) (hdb : (x == ("__debug__" : Str)) = false := by decide)
  (he : fy6 (e :: es) X.env = (false, eval e X.env) :: fy6 es X.env := by rfl) (hpl : (backTo pos (fy6 es X.env)).any (·.1) = false := by rfl) : BE X S W (.Call (.Name x p) (e :: es) [] pos) k :=
 .of (zc38 F hr hg hm hk hb .nil ze56 pa_U hdb he hpl) fun F A σ H Q x0 r sr q => h.use x0 r sr fun F1 A1 W1 H1 as vs e1 r1 z1 h1 => by
  rw [ny5];exact ⟨F1, A1, W1, as, k, r1, z1, h1, q.ext e1⟩
def rUI (X : Bc) : R2 := fun x y H Q => ∃ r, IxR X r /\ r x y H Q
theorem ix_U : IxR X (rUI X) := fun v s pins sh σ H x y v' u Q I rx ry ⟨r, h, q⟩ hs => h v s pins sh σ H x y v' u Q I rx ry q hs
def IB (X : Bc) (x y : El) (W : Wl) (k : KB) : Prop := ∀ F A H Q vx vy, RW X.K F A W H -> ElR X.K F A x vx -> ElR X.K F A y vy -> zr8 X.K F A k Q -> rUI X vx vy H Q
theorem IB.of {x y : El} {r2 : R2} (ho : IxR X r2) (i : ∀ F A H Q vx vy, RW X.K F A W H -> ElR X.K F A x vx -> ElR X.K F A y vy -> zr8 X.K F A k Q -> r2 vx vy H Q) : IB X x y W k :=
 fun F A H Q vx vy r zx zy q => ⟨r2, ho, i F A H Q vx vy r zx zy q⟩
theorem zd4 {a b : Expr} {pos : Pos} (hs : za01 b) (h : BE X S W a fun x W1 => BE X S W1 b fun y W2 => IB X x y W2 k) : BE X S W (.Subscript a b pos) k :=
 .of (ze52 ix_U zh8 zh8 hs) fun F A σ H Q x0 r sr q =>
  h.use x0 r sr fun F1 A1 W1 H1 x vx e1 r1 z1 h1 => h1.use (x0.trans e1) r1 (sr.ext e1) fun F2 A2 W2 H2 y vy e2 r2 z2 h2 => h2 F2 A2 H2 Q vx vy r2 (z1.ext e2) z2 (q.ext (e1.trans e2))
theorem za11 {α β : Type} {F : α -> β -> Prop} {l : List α} {m : List β} (p : Paired F l m) {i : Int} {a : α} (h : atI l i = some a) : ∃ b, atI m i = some b /\ F a b := by
 unfold atI at h ⊢;rw [<- zb1 p];cases e : ixN l.length i with
 | none => rw [e] at h; cases h
 | some j =>
  rw [e] at h;simp only [Option.bind] at h ⊢;exact zh3 p h
theorem zu9 {ds : List PyData} {i : Int} {d : PyData} (he : atI ds i = some d) (h : k (.d d) W) : IB X (.d (.list ds)) (.d (.int i)) W k := .of za02 fun F A H Q vx vy r zx zy q => by
 obtain ⟨a, vs, rfl, hs, z⟩ := Rq.zF4 zx;obtain rfl := Rq.zd7 zy;obtain ⟨v, h1, h2⟩ := za11 z he;exact ⟨a, vs, i, v, rfl, rfl, (.inl (r.sub.rd hs)), h1, q.same r (.dd h2) h⟩
theorem zh9 {ds : List PyData} {i : Int} {d : PyData} (he : atI ds i = some d) (h : k (.d d) W) : IB X (.d (.tuple ds)) (.d (.int i)) W k := .of zd44 fun F A H Q vx vy r zx zy q => by
 obtain ⟨a, vs, rfl, hs, z⟩ := Rq.zg3 zx;obtain rfl := Rq.zd7 zy;obtain ⟨v, h1, h2⟩ := za11 z he;exact ⟨a, vs, i, v, rfl, rfl, r.sub.zr7 hs, h1, q.same r (.dd h2) h⟩
theorem RW.at (r : RW X.K F A W H) {j : Nat} {v : V} (z : ElR X.K F A (.o j) v) {es : List El} (hj : W[j]? = some (.lst es)) : ∃ a vs, v = .ref a /\ A[j]? = some a /\ H a = some (.lst vs) /\ Paired (ElR X.K F A) es vs := by
 obtain ⟨a, ha, rfl⟩ := z;obtain ⟨h, e, vs, rfl, p⟩ := r.obj j a _ ha hj;exact ⟨a, vs, rfl, ha, e, p⟩
theorem zr9 {j : Nat} {es : List El} {i : Int} {e : El} (hj : W[j]? = some (.lst es)) (he : atI es i = some e) (h : k e W) : IB X (.o j) (.d (.int i)) W k := .of za02 fun F A H Q vx vy r zx zy q => by
 obtain ⟨a, vs, rfl, ha, hH, z⟩ := r.at zx hj;obtain rfl := Rq.zd7 zy;obtain ⟨v, h1, h2⟩ := za11 z he;exact ⟨a, vs, i, v, rfl, rfl, SqL.of hH, h1, q.same r h2 h⟩
abbrev KO := Option Int -> Wl -> Prop
def tDO (X : Bc) (S : Sl) (W : Wl) (k : KO) : TO := fun σ H Q => ∃ F A, X.Am F A /\ RW X.K F A W H /\ SR X.K F A S σ /\ ∀ F' A' W' H' o, Ext F A F' A' -> RW X.K F' A' W' H' -> k o W' -> Q o H'
def BO (X : Bc) (S : Sl) (W : Wl) (e : Option Expr) (k : KO) : Prop := PO X e (tDO X S W k)
def tUO (X : Bc) (e : Option Expr) : TO := fun σ H Q => ∃ t, PO X e t /\ t σ H Q
theorem po_U {e : Option Expr} : PO X e (tUO X e) := fun pins s σ H Q I ⟨t, h, q⟩ => h pins s σ H Q I q
theorem BO.use {e : Option Expr} {k : KO} (h : BO X S W e k) {F : Hp} {A : List Addr} {σ : St} {H : Hp} {Q : Option Int -> Hp -> Prop} (x0 : X.Am F A) (r : RW X.K F A W H) (s : SR X.K F A S σ)
  (q : ∀ F' A' W' H' o, Ext F A F' A' -> RW X.K F' A' W' H' -> k o W' -> Q o H') : tUO X e σ H Q := ⟨_, h, F, A, x0, r, s, q⟩
theorem zi0 {k : KO} (h : k none W) : BO X S W none k := fun pins s σ H Q I ⟨F, A, x0, r, sr, q⟩ => zc41 pins s σ H Q I (q F A W H none .refl r h)
theorem zd8 {e : Expr} {k : KO} (h : BE X S W e fun x W1 => ∃ i, x = .d (.int i) /\ k (some i) W1) : BO X S W (some e) k := fun pins s σ H Q I ⟨F, A, x0, r, sr, q⟩ =>
 zc42 zh8 pins s σ H Q I (h.use x0 r sr fun F1 A1 W1 H1 x vx e1 r1 z1 zR => by
  obtain ⟨i, hi, h1⟩ := zR;subst hi;obtain rfl := Rq.zd7 z1
  exact ⟨i, rfl, q F1 A1 W1 H1 _ e1 r1 h1⟩)
def rUS (X : Bc) : V -> Option Int -> Option Int -> Hp -> VK -> Prop := fun x lo hi H Q => ∃ r, SlR X r /\ r x lo hi H Q
theorem sl_U : SlR X (rUS X) := fun pins s σ H x v vl vu lo hi sl Q I rx hs pl pu ⟨r, h, q⟩ => h pins s σ H x v vl vu lo hi sl Q I rx hs pl pu q
def LB (X : Bc) (x : El) (lo hi : Option Int) (W : Wl) (k : KB) : Prop := ∀ F A H Q vx, RW X.K F A W H -> ElR X.K F A x vx -> zr8 X.K F A k Q -> rUS X vx lo hi H Q
theorem LB.of {x : El} {lo hi : Option Int} {r1 : V -> Option Int -> Option Int -> Hp -> VK -> Prop} (hc : SlR X r1) (i : ∀ F A H Q vx, RW X.K F A W H -> ElR X.K F A x vx -> zr8 X.K F A k Q -> r1 vx lo hi H Q) : LB X x lo hi W k :=
 fun F A H Q vs r z q => ⟨r1, hc, i F A H Q vs r z q⟩
theorem ze1 {e : Expr} {lo hi : Option Expr} {p2 pos : Pos} (h : BE X S W e fun x W1 => BO X S W1 lo fun l W2 => BO X S W2 hi fun u W3 => LB X x l u W3 k) : BE X S W (.Subscript e (.Slice lo hi none p2) pos) k :=
 .of (zb24 sl_U zh8 po_U po_U) fun F A σ H Q x0 r sr q =>
  h.use x0 r sr fun F1 A1 W1 H1 x vx e1 r1 z1 h1 => h1.use (x0.trans e1) r1 (sr.ext e1) fun F2 A2 W2 H2 l e2 r2 h2 => h2.use (x0.trans (e1.trans e2)) r2 (sr.ext (e1.trans e2)) fun F3 A3 W3 H3 u e3 r3 h3 =>
   h3 F3 A3 H3 Q vx r3 (z1.ext (e2.trans e3)) (q.ext ((e1.trans e2).trans e3))
def zm7 {α : Type} (xs : List α) (lo hi : Option Int) : List α := (xs.drop (HT.sIx xs.length 0 lo)).take (HT.sIx xs.length xs.length hi - HT.sIx xs.length 0 lo)
theorem zF6 {α : Type} {F : α -> V -> Prop} {l : List α} {m : List V} (p : Paired F l m) (lo hi : Option Int) : Paired F (zm7 l lo hi) (zJ6 m lo hi) := by
 unfold zm7 zJ6;rw [zb1 p];exact za07 _ (za08 _ p)
theorem zc52 : SlR X (fun x lo hi H Q => ∃ a xs, x = .ref a /\ SqT X.K H a xs /\ ((∀ p, H p = none -> Q (.ref p) (upd H p (.tup (zJ6 xs lo hi)))) /\ (zJ6 xs lo hi = xs -> Q (.ref a) H))) := by
 intro pins s σ H x v vl vu lo hi sl Q I rx hs pl pu h;obtain ⟨a, xs, rfl, hq, h1, h2⟩ := h
 by_cases hw : HT.sIx xs.length 0 lo = 0 /\ HT.sIx xs.length xs.length hi = xs.length
 ·cases rx;obtain ⟨its, r, ht, hz⟩ := I.tuple hq;have hlen : its.toArray.size = xs.length := by rw [cy0]; exact r.length.symm
  refine ⟨"tuple", _, hy8.lookup, ht.typeIs, ?_⟩;refine HT.zq3 ht hs pl pu (by rw [hlen]; exact hw) ?_;exact ⟨.ref a, H, I, rfl, h2 (zb33 hw)⟩
 ·exact zb99 pins s σ H (.ref a) v vl vu lo hi sl Q I rx hs pl pu ⟨a, xs, rfl, hq, hw, h1⟩
theorem za12 {ds : List PyData} {lo hi : Option Int} (h : k (.d (.tuple (zm7 ds lo hi))) W) : LB X (.d (.tuple ds)) lo hi W k := .of zc52 fun F A H Q vx r zx q => by
 obtain ⟨a, vs, rfl, hs, z⟩ := Rq.zg3 zx;refine ⟨a, vs, rfl, r.sub.zr7 hs, fun p hp => q.newT r hp (zF6 z lo hi) h, fun e => q.same r (.dd (Rq.tup hs (Rqs.of ?_))) h⟩;have := zF6 z lo hi;rw [e] at this;exact this
theorem zy1 {ds : List PyData} {lo hi : Option Int} (h : k (.d (.list (zm7 ds lo hi))) W) : LB X (.d (.list ds)) lo hi W k := .of zJ7 fun F A H Q vx r zx q => by
 obtain ⟨a, vs, rfl, hs, z⟩ := Rq.zF4 zx;exact ⟨a, vs, rfl, (.inl (r.sub.rd hs)), fun p hp => q.newL r hp (zF6 z lo hi) h⟩
theorem za13 {j : Nat} {ds : List PyData} {lo hi : Option Int} (hj : W[j]? = some (.lst (zb2 ds))) (h : k (.d (.list (zm7 ds lo hi))) W) : LB X (.o j) lo hi W k := .of zJ7 fun F A H Q vx r zx q => by
 obtain ⟨a, vs, rfl, ha, hH, z⟩ := r.at zx hj;exact ⟨a, vs, rfl, SqL.of hH, fun p hp => q.newL r hp (zF6 (zk0 z) lo hi) h⟩
end
section
variable {X : Bc} {S : Sl} {W : Wl} {k : KB}
theorem zO0 {f : Value -> Value -> Sem Value} {C : Int -> Int -> Prop} {g : Int -> Int -> Int} (ho : OpR X f (rI C fun i j => .int (g i j))) {i j : Int} (hc : C i j) (h : k (.d (.int (g i j))) W) : OB X f (.d (.int i)) (.d (.int j)) W k :=
 .of ho fun F A H Q vx vy r zx zy q => by
  obtain rfl := Rq.zd7 zx;obtain rfl := Rq.zd7 zy;exact ⟨i, j, rfl, rfl, hc, q.same r (.dd (Rq.int _)) h⟩
theorem za14 {f : Value -> Value -> Sem Value} {g : Int -> Int -> Int} (ho : OpR X f (rI0 fun i j => .int (g i j))) {i j : Int} (h : k (.d (.int (g i j))) W) : OB X f (.d (.int i)) (.d (.int j)) W k :=
 .of ho fun F A H Q vx vy r zx zy q => by
  obtain rfl := Rq.zd7 zx;obtain rfl := Rq.zd7 zy;exact ⟨i, j, rfl, rfl, q.same r (.dd (Rq.int _)) h⟩
theorem zK2 {f : Value -> Value -> Sem Value} {g : Int -> Int -> Bool} (ho : OpR X f (rI0 fun i j => .bl (g i j))) {i j : Int} (h : k (.d (.bool (g i j))) W) : OB X f (.d (.int i)) (.d (.int j)) W k :=
 .of ho fun F A H Q vx vy r zx zy q => by
  obtain rfl := Rq.zd7 zx;obtain rfl := Rq.zd7 zy;exact ⟨i, j, rfl, rfl, q.same r (.dd (Rq.bl _)) h⟩
theorem zv0 {i j : Int} (h : k (.d (.int (i + j))) W) : OB X (oy3 .Add) (.d (.int i)) (.d (.int j)) W k := za14 zd31 h
theorem zd57 {i j : Int} (h : k (.d (.int (i - j))) W) : OB X (oy3 .Sub) (.d (.int i)) (.d (.int j)) W k := za14 zd32 h
theorem za15 {i j : Int} (hc : CMul i j) (h : k (.d (.int (i * j))) W) : OB X (oy3 .Mult) (.d (.int i)) (.d (.int j)) W k := zO0 zd33 hc h
theorem za16 {i j : Int} (hc : hy0 i <= 2 ^ 20 /\ hy0 j <= 2 ^ 20) (h : k (.d (.int (i * j))) W) : OB X (oy3 .Mult) (.d (.int i)) (.d (.int j)) W k := zO0 zc50 hc h
theorem zc05 {i j : Int} (hc : 0 < j) (h : k (.d (.int (i % j))) W) : OB X (oy3 .Mod) (.d (.int i)) (.d (.int j)) W k := zO0 zd34 hc h
theorem zc06 {i j : Int} (hc : CPow i j) (h : k (.d (.int (i ^ j.toNat))) W) : OB X (oy3 .Pow) (.d (.int i)) (.d (.int j)) W k := zO0 zd35 hc h
theorem zc53 {i j : Int} (h : k (.d (.bool (decide (i < j)))) W) : OB X (hy5 .Lt) (.d (.int i)) (.d (.int j)) W k := zK2 ze43 h
theorem zd58 {i j : Int} (h : k (.d (.bool (decide (i <= j)))) W) : OB X (hy5 .LtE) (.d (.int i)) (.d (.int j)) W k := zK2 ze44 h
theorem zd59 {i j : Int} (h : k (.d (.bool (decide (j < i)))) W) : OB X (hy5 .Gt) (.d (.int i)) (.d (.int j)) W k := zK2 ze45 h
theorem zc54 : OpR X (oy3 .Add) (fun x y H Q => ∃ a b xs ys, x = .ref a /\ y = .ref b /\ SqT X.K H a xs /\ SqT X.K H b ys /\ xs.length + ys.length <= by2 /\ (xs = [] -> Q (.ref b) H) /\ (ys = [] -> Q (.ref a) H) /\ ∀ p, H p = none -> Q (.ref p) (upd H p (.tup (xs ++ ys)))) := by
 intro pins s σ H x y v u Q I rx ry h;obtain ⟨a, b, xs, ys, rfl, rfl, ha, hb, hz, q1, q2, q3⟩ := h
 by_cases hx : xs = []
 ·cases rx;cases ry;obtain ⟨its, r1, p1, _⟩ := I.tuple ha;obtain ⟨its2, r2, p2, _⟩ := I.tuple hb;exact HT.zb32 p1 p2 (r1.zz3.mpr hx) ⟨.ref b, H, I, rfl, q1 hx⟩
 ·exact zc43 pins s σ H (.ref a) (.ref b) v u Q I rx ry ⟨a, b, xs, ys, rfl, rfl, ha, hb, hx, hz, q2, fun _ p hp => q3 p hp⟩
theorem zA1 {x y : List PyData} (hl : x.length + y.length <= by2) (h : k (.d (.tuple (x ++ y))) W) : OB X (oy3 .Add) (.d (.tuple x)) (.d (.tuple y)) W k := .of zc54 fun F A H Q vx vy r zx zy q => by
 obtain ⟨a, xs, rfl, hs, z⟩ := Rq.zg3 zx;obtain ⟨b, ys, rfl, hs', z'⟩ := Rq.zg3 zy;refine ⟨a, b, xs, ys, rfl, rfl, r.sub.zr7 hs, r.sub.zr7 hs', by rw [<- zb1 z, <- zb1 z']; exact hl, fun e => ?_, fun e => ?_, fun p hp => q.newT r hp (zo5 z z') h⟩
 ·subst e;have : x = [] := ty2.mp (zb1 z);subst this;exact q.same r zy h
 ·subst e;have : y = [] := ty2.mp (zb1 z');subst this;rw [ny5] at h;exact q.same r zx h
theorem zc55 : OpR X (oy3 .Add) (fun x y H Q => ∃ a b xs ys, x = .ref a /\ y = .ref b /\ Rd H a (.lst xs) /\ Rd H b (.lst ys) /\ xs.length + ys.length <= by2 /\ ∀ p, H p = none -> Q (.ref p) (upd H p (.lst (xs ++ ys)))) := by
 intro pins s σ H x y v u Q I rx ry h;obtain ⟨l, b, xs, zs, rfl, rfl, hx, hz, hn, q⟩ := h;cases rx;cases ry;obtain ⟨z, its, n, r, e⟩ := hx.ok I.hok;obtain ⟨z2, its2, n2, r2, e2⟩ := hz.ok I.hok;refine PySem.P.add_list e e2 ?_ (by rw [cy0, cy0, <- r.length, <- r2.length]; omega);have ea : its.toArray ++ its2.toArray = (its ++ its2).toArray := by simp
 rw [ea];exact ⟨.ref _, _, I.lnew (t' := s.toks) (r.append r2) (by rw [cy1]; omega), rfl, q _ I.fresh⟩
def zS6 (W : Wl) (x : El) (ds : List PyData) : Prop := x = .d (.list ds) \/ ∃ j, x = .o j /\ W[j]? = some (.lst (zb2 ds))
theorem RW.lst {F : Hp} {A : List Addr} {H : Hp} (r : RW X.K F A W H) {x : El} {v : V} {ds : List PyData} (z : ElR X.K F A x v) (h : zS6 W x ds) : ∃ a vs, v = .ref a /\ Rd H a (.lst vs) /\ Paired (fun d v => Rq X.K F v d) ds vs := by
 rcases h with rfl | ⟨j, rfl, hj⟩
 ·obtain ⟨a, vs, rfl, hs, z⟩ := Rq.zF4 z;exact ⟨a, vs, rfl, r.sub.rd hs, z⟩
 ·obtain ⟨a, vs, rfl, ha, hH, z⟩ := r.at z hj;exact ⟨a, vs, rfl, .inl hH, zk0 z⟩
theorem zv1 {x y : El} {xs ys : List PyData} (hx : zS6 W x xs) (hy : zS6 W y ys) (hl : xs.length + ys.length <= by2) (h : k (.d (.list (xs ++ ys))) W) : OB X (oy3 .Add) x y W k := .of zc55 fun F A H Q vx vy r zx zy q => by
 obtain ⟨a, vs, rfl, hs, z⟩ := r.lst zx hx;obtain ⟨b, ws, rfl, hs', z'⟩ := r.lst zy hy;exact ⟨a, b, vs, ws, rfl, rfl, hs, hs', by rw [<- zb1 z, <- zb1 z']; exact hl, fun p hp => q.newL r hp (zo5 z z') h⟩
theorem zc07 (neg : Bool) (hu : X.A.units + 64 < cLine) : OpR X (hy5 (if neg then .NotEq else .Eq)) (fun x y H Q => ∃ d e, Rq X.K H x d /\ Rq X.K H y e /\ Dat d /\ Dat e /\ Q (.bl (if neg then !py4 d e else py4 d e)) H) := by
 intro pins s σ H x y v u Q I rx ry h;obtain ⟨d, e, rd, re, hd, he, q⟩ := h;obtain ⟨as, h1⟩ := Rq.reads I d hd.lay rd rx;obtain ⟨bs, h2⟩ := Rq.reads I e he.lay re ry;cases neg with
 | false => exact SeqAt.compareEq_reads h1 h2 hd.lay he.lay (by have := hd.dep; omega) ⟨.bl _, H, I, rfl, q⟩
 | true => exact SeqAt.compareNe_reads h1 h2 hd.lay he.lay (by have := hd.dep; omega) ⟨.bl _, H, I, rfl, q⟩
def dat (W : Wl) (x : El) (d : PyData) : Prop := x = .d d \/ ∃ ds, d = .list ds /\ zS6 W x ds
theorem RW.dat {F : Hp} {A : List Addr} {H : Hp} (r : RW X.K F A W H) {x : El} {v : V} {d : PyData} (z : ElR X.K F A x v) (h : dat W x d) : Rq X.K H v d := by
 rcases h with rfl | ⟨ds, rfl, h⟩
 ·exact Rq.same r.sub _ z
 ·obtain ⟨a, vs, rfl, hs, z⟩ := r.lst z h;exact .lst hs (Rqs.of (zd6 (fun _ _ t => Rq.same r.sub _ t) z))
theorem ze60 {x y : El} {d e : PyData} (hu : X.A.units + 64 < cLine) (hx : dat W x d) (hy : dat W y e) (hd : Dat d) (he : Dat e) (h : k (.d (.bool (py4 d e))) W) : OB X (hy5 .Eq) x y W k :=
 .of (zc07 false hu) fun F A H Q vx vy r zx zy q => ⟨d, e, r.dat zx hx, r.dat zy hy, hd, he, q.same r (.dd (Rq.bl _)) h⟩
theorem zS7 {x y : El} {d e : PyData} (hu : X.A.units + 64 < cLine) (hx : dat W x d) (hy : dat W y e) (hd : Dat d) (he : Dat e) (h : k (.d (.bool (!py4 d e))) W) : OB X (hy5 .NotEq) x y W k :=
 .of (zc07 true hu) fun F A H Q vx vy r zx zy q => ⟨d, e, r.dat zx hx, r.dat zy hy, hd, he, q.same r (.dd (Rq.bl _)) h⟩
theorem zd60 {i j : Int} (h : k (.d (.bool (decide (i = j)))) W) : OB X (hy5 .Eq) (.d (.int i)) (.d (.int j)) W k := .of zd37 fun F A H Q vx vy r zx zy q => by
 obtain rfl := Rq.zd7 zx;obtain rfl := Rq.zd7 zy;exact ⟨rfl, q.same r (.dd (by have : decide (V.int i = V.int j) = decide (i = j) := (by simp); rw [this]; exact Rq.bl _)) h⟩
theorem zd61 {i j : Int} (h : k (.d (.bool (!decide (i = j)))) W) : OB X (hy5 .NotEq) (.d (.int i)) (.d (.int j)) W k := .of zd38 fun F A H Q vx vy r zx zy q => by
 obtain rfl := Rq.zd7 zx;obtain rfl := Rq.zd7 zy;exact ⟨rfl, q.same r (.dd (by have : decide (V.int i = V.int j) = decide (i = j) := (by simp); rw [this]; exact Rq.bl _)) h⟩
theorem zn0 {i j : Str} (h : k (.d (.bool (decide (i = j)))) W) : OB X (hy5 .Eq) (.d (.str i)) (.d (.str j)) W k := .of zd37 fun F A H Q vx vy r zx zy q => by
 obtain rfl := Rq.zf2 zx;obtain rfl := Rq.zf2 zy;exact ⟨rfl, q.same r (.dd (by have : decide (V.str i = V.str j) = decide (i = j) := (by simp); rw [this]; exact Rq.bl _)) h⟩
theorem za17 {i j : Str} (h : k (.d (.bool (!decide (i = j)))) W) : OB X (hy5 .NotEq) (.d (.str i)) (.d (.str j)) W k := .of zd38 fun F A H Q vx vy r zx zy q => by
 obtain rfl := Rq.zf2 zx;obtain rfl := Rq.zf2 zy;exact ⟨rfl, q.same r (.dd (by have : decide (V.str i = V.str j) = decide (i = j) := (by simp); rw [this]; exact Rq.bl _)) h⟩
theorem zd62 {i j : Str} (h : k (.d (.bool (!(xy1 j i 0 j.length 1).isEmpty))) W) : OB X (hy5 .In) (.d (.str i)) (.d (.str j)) W k := .of zZ2 fun F A H Q vx vy r zx zy q => by
 obtain rfl := Rq.zf2 zx;obtain rfl := Rq.zf2 zy;exact ⟨i, j, rfl, rfl, q.same r (.dd (Rq.bl _)) h⟩
theorem za18 {xs : List Str} {x : Str} : inV (.str x) (xs.map V.str) = decide (x ∈ xs) := by
 unfold inV;rw [List.any_map]
 induction xs with
 | nil => simp
 | cons a r ih =>
  rw [ty0, ih]
  have : (eqV (V.str a) (V.str x)) = decide (x = a) := by
   by_cases e : a = x
   ·subst e; simp [eqV]
   ·have e' : ¬ x = a := fun z => e z.symm;simp [eqV, e, e']
  simp [this]
theorem zv2 {K : ay5} {F : Hp} : ∀ {xs : List Str} {vs : List V}, Paired (fun d v => Rq K F v d) (xs.map jy1) vs -> vs = xs.map V.str
 | [], _, .nil => rfl
 | x :: xs, _, .cons r t => by rw [zv2 t, Rq.zf2 r]; rfl
theorem za19 {K : ay5} {F : Hp} : ∀ {xs : List Int} {vs : List V}, Paired (fun d v => Rq K F v d) (xs.map PyData.int) vs -> vs = xs.map V.int
 | [], _, .nil => rfl
 | x :: xs, _, .cons r t => by rw [za19 t, Rq.zd7 r]; rfl
theorem zc08 {K : ay5} {F : Hp} : ∀ {xs : List Bool} {vs : List V}, Paired (fun d v => Rq K F v d) (xs.map PyData.bool) vs -> vs = xs.map V.bl
 | [], _, .nil => rfl
 | x :: xs, _, .cons r t => by rw [zc08 t, Rq.zz9 r]; rfl
theorem zF7 {xs : List Str} : (xs.map V.str).all zz5 = true := by rw [List.all_map]; exact List.all_eq_true.mpr fun _ _ => rfl
theorem zc56 {x : Str} {y : El} {xs : List Str} (hy : zS6 W y (xs.map .str) \/ y = .d (.tuple (xs.map .str))) (h : k (.d (.bool (!decide (x ∈ xs)))) W) : OB X (hy5 .NotIn) (.d (.str x)) y W k := .of zE8 fun F A H Q vx vy r zx zy q => by
 obtain rfl := Rq.zf2 zx;rcases hy with hy | rfl
 ·obtain ⟨a, vs, rfl, hs, z⟩ := r.lst zy hy;obtain rfl := zv2 z;refine ⟨a, _, rfl, .inl (.inl hs), rfl, zF7, ?_⟩;rw [if_pos rfl, za18];exact q.same r (.dd (Rq.bl _)) h
 ·obtain ⟨a, vs, rfl, hs, z⟩ := Rq.zg3 zy;obtain rfl := zv2 z;refine ⟨a, _, rfl, .inr (r.sub.zr7 hs), rfl, zF7, ?_⟩;rw [if_pos rfl, za18];exact q.same r (.dd (Rq.bl _)) h
theorem zg5 {α β : Type} {F : α -> β -> Prop} {a : α} {m : List β} (h : Paired F [a] m) : ∃ b, m = [b] /\ F a b := by
 cases h with
 | cons r t => cases t; exact ⟨_, rfl, r⟩
theorem za20 {α β : Type} {F : α -> β -> Prop} {a b : α} {m : List β} (h : Paired F [a, b] m) : ∃ c d, m = [c, d] /\ F a c /\ F b d := by
 cases h with
 | cons r t => obtain ⟨d, rfl, q⟩ := zg5 t; exact ⟨_, _, rfl, r, q⟩
theorem zc57 {x : Str} (hl : x.length <= by2) (h : k (.d (.int x.length)) W) : CB X (.builtin "len") [.d (.str x)] W k := .of zE9 fun F A H Q vs r zs q => by
 obtain ⟨v, rfl, z⟩ := zg5 zs;obtain rfl := Rq.zf2 z;exact ⟨x, rfl, hl, q.same r (.dd (Rq.int _)) h⟩
theorem zA2 {ds : List PyData} (h : k (.d (.int ds.length)) W) : CB X (.builtin "len") [.d (.tuple ds)] W k := .of zr4 fun F A H Q vs r zs q => by
 obtain ⟨v, rfl, z⟩ := zg5 zs;obtain ⟨a, vs, rfl, hs, z⟩ := Rq.zg3 z;exact ⟨a, vs, rfl, .inr (r.sub.zr7 hs), by rw [<- zb1 z]; exact q.same r (.dd (Rq.int _)) h⟩
theorem zq5 {ds : List PyData} {x : El} (hx : zS6 W x ds) (h : k (.d (.int ds.length)) W) : CB X (.builtin "len") [x] W k := .of zr4 fun F A H Q vs r zs q => by
 obtain ⟨v, rfl, z⟩ := zg5 zs;obtain ⟨a, vs, rfl, hs, z⟩ := r.lst z hx;exact ⟨a, vs, rfl, .inl (.inl hs), by rw [<- zb1 z]; exact q.same r (.dd (Rq.int _)) h⟩
theorem za21 {i j : Int} (hc : CDiv i j) (h : k (.d (.tuple [.int (i / j), .int (i % j)])) W) : CB X (.builtin "divmod") [.d (.int i), .d (.int j)] W k := .of zJ5 fun F A H Q vs r zs q => by
 obtain ⟨u, v, rfl, z1, z2⟩ := za20 zs;obtain rfl := Rq.zd7 z1;obtain rfl := Rq.zd7 z2;exact ⟨i, j, rfl, hc, fun p hp => q.newT r hp (.cons (Rq.int _) (.cons (Rq.int _) .nil)) h⟩
theorem zc58 {b : Bool} (h : k (.d (.int (if b then 1 else 0))) W) : CB X (.type "int") [.d (.bool b)] W k := .of zZ3 fun F A H Q vs r zs q => by
 obtain ⟨v, rfl, z⟩ := zg5 zs;obtain rfl := Rq.zz9 z;exact .inr ⟨b, rfl, q.same r (.dd (Rq.int _)) h⟩
theorem zd63 {x : El} {bs : List Bool} (hc : X.calm = true) (hx : zS6 W x (bs.map .bool)) (h : k (.d (.bool (bs.all id))) W) : CB X (.builtin "all") [x] W k := .of (zb31 hc) fun F A H Q vs r zs q => by
 obtain ⟨v, rfl, z⟩ := zg5 zs;obtain ⟨a, vs, rfl, hs, z⟩ := r.lst z hx;obtain rfl := zc08 z;exact ⟨a, bs, rfl, .inl hs, q.same r (.dd (Rq.bl _)) h⟩
theorem zq6 {x : El} {ds : List PyData} (hx : zS6 W x ds) (h : k (.d (.tuple ds)) W) : CB X (.type "tuple") [x] W k := .of zz7 fun F A H Q vs r zs q => by
 obtain ⟨v, rfl, z⟩ := zg5 zs;obtain ⟨a, vs, rfl, hs, z⟩ := r.lst z hx;exact ⟨a, vs, rfl, .inl ⟨.inl hs, fun l hl => q.newT r hl z h⟩⟩
theorem za22 {ds : List PyData} (h : k (.o W.length) (W ++ [.lst (zb2 ds)])) : CB X (.type "list") [.d (.tuple ds)] W k := .of zr5 fun F A H Q vs r zs q => by
 obtain ⟨v, rfl, z⟩ := zg5 zs;obtain ⟨a, vs, rfl, hs, z⟩ := Rq.zg3 z;exact ⟨a, vs, rfl, .inr (r.sub.zr7 hs), fun l hl => q.zN9 r hl (o := .lst (zb2 ds)) ⟨_, rfl, zf3 z⟩ h⟩
def tyD : PyData -> String
 | .none => "NoneType" | .bool _ => "bool" | .int _ => "int" | .str _ => "str" | .list _ => "list" | .tuple _ => "tuple" | .dict _ => "dict"
theorem zb36 : zj0 X (.builtin "isinstance") (fun xs H Q => ∃ x d T b, xs = [x, .ty T] /\ Rq X.K H x d /\ PySem.W.kitOne X.K (.type (tyD d)) (.type T) = some b /\ Q (.bl b) H) := by
 intro pins s σ H xs us Q I r h;obtain ⟨x, d, T, b, rfl, rd, e, q⟩ := h;obtain ⟨u, v, rfl, ru, rv⟩ := r.two;cases (show v = qy3 T from rv);have fin : ∀ tk, EP X pins σ Q (.bool b) { s with toks := tk } := fun tk => ⟨.bl b, H, I.tok tk, rfl, q⟩
 cases rd with
 | non => exact zh7 I ru .non e fin
 | bl y => exact zh7 I ru (.bl y) e fin
 | int i => exact zh7 I ru (.int i) e fin
 | str y => exact zh7 I ru (.str y) e fin
 | lst h _ =>
  rcases h with h | ⟨o, h⟩
  ·exact zh7 I ru (.lst h) e fin
  ·exact zh7 I ru (.frz h) e fin
 | @tup a vs ds h _ =>
  cases (show u = cy7 a from ru);obtain ⟨its, _, ⟨o, h1, h2, _⟩, _⟩ := I.tuple h;exact jy3 PySem.W.kitx_tuple I.kIn ⟨o, h1, h2⟩ e (fun z => nomatch z) fin
 | dct h => exact zh7 I ru (.dK h) e fin
theorem kitD (K : ay5) (d : PyData) (T : String) (h : T = "int" \/ T = "bool" \/ T = "str" \/ T = "tuple" \/ T = "list" \/ T = "dict") : PySem.W.kitOne K (.type (tyD d)) (.type T) = some (tyD d == T || (tyD d == "bool" && T == "int")) := by
 cases d <;> rcases h with rfl | rfl | rfl | rfl | rfl | rfl <;> rfl
def isD (d : PyData) (T : String) : Bool := tyD d == T || (tyD d == "bool" && T == "int")
theorem zl1 {e : Expr} {T : Str} {Ts : String} {p p' pos : Pos} (hg : Gl X "isinstance") (hm : X.mg "isinstance" = none) (hv : fy2 "isinstance" = some (.builtin "isinstance")) (hgT : Gl X T) (hmT : X.mg T = none) (hvT : fy2 T = some (.type Ts))
  (hT : Ts = "int" \/ Ts = "bool" \/ Ts = "str" \/ Ts = "tuple" \/ Ts = "list" \/ Ts = "dict") (h : BE X S W e fun x W1 => ∃ d, dat W1 x d /\ k (.d (.bool (isD d Ts))) W1)
  (hn : T ≠ "__name__" := by decide) (hd : (T == ("__debug__" : Str)) = false := by decide)
  (hs : fy6 [e, .Name T p'] X.env = (false, eval e X.env) :: fy6 [.Name T p'] X.env := by rfl) (hs2 : fy6 [.Name T p'] X.env = [(false, eval (.Name T p') X.env)] := by rfl) (hpl : (backTo pos (fy6 [.Name T p'] X.env)).any (·.1) = false := by rfl) :
  BE X S W (.Call (.Name "isinstance" p) [e, .Name T p'] [] pos) k :=
 .of (zo3 zb36 hg hm hv (zl0 zh8 (zl0 (zc30 (v := .ty Ts) hgT hmT hvT rfl hn hd) zu1 hs2) hs) (by decide) (by decide) hs hpl) fun F A σ H Q x0 r sr q => h.use x0 r sr fun F1 A1 W1 H1 x vx e1 r1 z1 zR => by
  obtain ⟨d, hd, h1⟩ := zR;exact ⟨vx, d, Ts, _, rfl, r1.dat z1 hd, kitD X.K d Ts hT, (q.ext e1).same r1 (.dd (Rq.bl _)) h1⟩
def rUM (X : Bc) (id : String) : V -> List V -> Hp -> VK -> Prop := fun x xs H Q => ∃ r, MtR X id r /\ r x xs H Q
theorem mt_U {id : String} : MtR X id (rUM X id) := fun pins s σ H x xs v us Q I rx rs ⟨r, h, q⟩ => h pins s σ H x xs v us Q I rx rs q
def MB (X : Bc) (T id : String) (x : El) (xs : List El) (W : Wl) (k : KB) : Prop := ∀ F A H Q v vs, RW X.K F A W H -> ElR X.K F A x v -> Paired (ElR X.K F A) xs vs -> zr8 X.K F A k Q -> rUM X id v vs H Q
theorem MB.of {T id : String} {x : El} {xs : List El} {r1 : V -> List V -> Hp -> VK -> Prop} (hc : MtR X id r1) (i : ∀ F A H Q v vs, RW X.K F A W H -> ElR X.K F A x v -> Paired (ElR X.K F A) xs vs -> zr8 X.K F A k Q -> r1 v vs H Q) : MB X T id x xs W k :=
 fun F A H Q v vs r zx z q => ⟨r1, hc, i F A H Q v vs r zx z q⟩
def isTy (W : Wl) : El -> String -> Prop
 | .d (.str _), T => T = "str"
 | .d (.list _), T => T = "list"
 | .o j, T => (T = "list" /\ ∃ es, W[j]? = some (.lst es)) \/ (T = "dict" /\ ((∃ es, W[j]? = some (.dK es)) \/ ∃ es, W[j]? = some (.dT es)))
 | _, _ => False
theorem RW.ty {F : Hp} {A : List Addr} {H : Hp} (r : RW X.K F A W H) {x : El} {v : V} {T : String} (z : ElR X.K F A x v) (h : isTy W x T) : tyV X.K T v H := by
 cases x with
 | o j =>
  obtain ⟨a, ha, rfl⟩ := z;rcases h with ⟨rfl, es, hj⟩ | ⟨rfl, ⟨es, hj⟩ | ⟨es, hj⟩⟩
  ·obtain ⟨h, e, vs, rfl, p⟩ := r.obj j a _ ha hj;exact .inl ⟨rfl, vs, SqL.of e⟩
  ·obtain ⟨h, e, vs, rfl, p⟩ := r.obj j a _ ha hj;exact .inr (.inr (.inl ⟨rfl, .inl ⟨vs, e⟩⟩))
  ·obtain ⟨h, e, vs, rfl, p⟩ := r.obj j a _ ha hj;exact .inr (.inr (.inl ⟨rfl, .inr ⟨vs, e⟩⟩))
 | s ns => exact h.elim
 | x C => exact h.elim
 | p ks => exact h.elim
 | t xs => exact h.elim
 | d x =>
  cases x with
  | str y => obtain rfl := Rq.zf2 z; exact h
  | list ds =>
   obtain ⟨a, vs, rfl, hs, _⟩ := Rq.zF4 z;exact .inl ⟨h, vs, .inl (r.sub.rd hs)⟩
  | _ => exact h.elim
theorem zm8 {o e : Expr} {es : List Expr} {name : Str} {T id : String} {apos cpos : Pos} (pa : PlainAttrs T) (slot : Slot T name id) (hty : typeOf (.builtin id) = pure (.type "method_descriptor"))
  (h : BE X S W o fun x W1 => isTy W1 x T /\ BA X S W1 (e :: es) fun xs W2 => MB X T id x xs W2 k)
  (hbase : oy9 o name X.env (eval o X.env) = eval o X.env := by rfl)
  (hfew : ((backTo cpos (fy6 (e :: es) X.env)).all (fun x => !x.1) && (backToKw cpos (keywordEach [] X.env)).all (fun x => x.1.isSome)
   && decide ((e :: es).length + ([] : List Keyword).length + (if ([] : List Keyword).isEmpty then 0 else 1) < 30)) = true := by rfl)
  (hline : (apos.endLine == cpos.line) = true := by rfl) (hs : fy6 (e :: es) X.env = (false, eval e X.env) :: fy6 es X.env := by rfl) (hplain : (backTo cpos (fy6 es X.env)).any (·.1) = false := by rfl) :
  BE X S W (.Call (.Attribute o name apos) (e :: es) [] cpos) k :=
 .of (ze54 pa slot hty mt_U zh8 pa_U hbase hfew hline hs hplain) fun F A σ H Q x0 r sr q => h.use x0 r sr fun F1 A1 W1 H1 x vx e1 r1 z1 ⟨ht, h1⟩ =>
  ⟨r1.ty z1 ht, h1.use (x0.trans e1) r1 (sr.ext e1) fun F2 A2 W2 H2 xs vs e2 r2 z2 h2 => h2 F2 A2 H2 Q vx vs r2 (z1.ext e2) z2 (q.ext (e1.trans e2))⟩
theorem zg6 {j : Nat} {es : List El} {y : El} (hj : W[j]? = some (.lst es)) (hl : es.length < by2) (h : k (.d .none) (W.set j (.lst (es ++ [y])))) : MB X "list" "list.append" (.o j) [y] W k := .of za03 fun F A H Q v vs r zx z q => by
 obtain ⟨a, ws, rfl, ha, hH, p⟩ := r.at zx hj;obtain ⟨u, rfl, zu⟩ := zg5 z;exact ⟨a, ws, u, rfl, rfl, hH, by rw [<- zb1 p]; exact hl, q.put r ha (o := .lst (es ++ [y])) ⟨_, rfl, zo5 p (.cons zu .nil)⟩ (.dd Rq.non) h⟩
theorem zK3 {j : Nat} {es : List El} {y : El} (hj : W[j]? = some (.lst (y :: es))) (h : k y (W.set j (.lst es))) : MB X "list" "list.pop" (.o j) [.d (.int 0)] W k := .of zb25 fun F A H Q v vs r zx z q => by
 obtain ⟨a, ws, rfl, ha, hH, p⟩ := r.at zx hj;obtain ⟨u, rfl, zu⟩ := zg5 z;obtain rfl := Rq.zd7 zu;cases p with
 | @cons _ b _ m r1 t =>
  refine ⟨a, b :: m, 0, 0, b, rfl, rfl, hH, by decide, by decide, by simp [seqIndex?], rfl, ?_⟩;exact q.put r ha (o := .lst es) ⟨_, rfl, t⟩ r1 h
theorem zA3 {K : ay5} {F : Hp} : ∀ {xs : List Str}, Paired (fun d v => Rq K F v d) (xs.map jy1) (xs.map V.str)
 | [] => .nil
 | x :: xs => .cons (Rq.str x) zA3
end
structure DB where
 nx : Sl -> Wl -> Prop
 rt : KB
 bk : Sl -> Wl -> Prop := fun _ _ => False
 ct : Sl -> Wl -> Prop := fun _ _ => False
structure Ex1 (n : Nat) (F : Hp) (A : List Addr) (F' : Hp) (A' : List Addr) : Prop where
 same : zm6 F F'
 pre : A.take n <+: A'
 len : n <= A'.length
theorem Ex1.refl {n : Nat} {F : Hp} {A : List Addr} (h : n <= A.length) : Ex1 n F A F A := ⟨.refl _, wy5 _ _, h⟩
theorem zm1 {n : Nat} {A A' : List Addr} (h : A.take n <+: A') (hn : n <= A.length) : A'.take n = A.take n := by
 obtain ⟨r, rfl⟩ := h;rw [List.take_append_of_le_length (by rw [dy2]; omega), List.take_take, Nat.min_self]
theorem Ex1.trans {n : Nat} {F F1 F2 : Hp} {A A1 A2 : List Addr} (hn : n <= A.length) (a : Ex1 n F A F1 A1) (b : Ex1 n F1 A1 F2 A2) : Ex1 n F A F2 A2 :=
 ⟨a.same.trans b.same, by rw [<- zm1 a.pre hn]; exact b.pre, b.len⟩
theorem Ext.ex1 {n : Nat} {F F1 : Hp} {A A1 : List Addr} (hn : n <= A.length) (a : Ext F A F1 A1) : Ex1 n F A F1 A1 := ⟨a.same, (wy5 _ _).trans a.pre, dy9 hn a.pre.length_le⟩
structure zF8 (K : ay5) (n : Nat) (F : Hp) (A : List Addr) (D : DB) (E : Ends) : Prop where
 nx : ∀ F' A' W' H' S' σ', Ex1 n F A F' A' -> RW K F' A' W' H' -> SR K F' A' S' σ' -> D.nx S' W' -> E.nx σ' H'
 bk : ∀ F' A' W' H' S' σ', Ex1 n F A F' A' -> RW K F' A' W' H' -> SR K F' A' S' σ' -> D.bk S' W' -> E.bk σ' H'
 ct : ∀ F' A' W' H' S' σ', Ex1 n F A F' A' -> RW K F' A' W' H' -> SR K F' A' S' σ' -> D.ct S' W' -> E.ct σ' H'
 rt : ∀ F' A' W' H' e v, Ex1 n F A F' A' -> RW K F' A' W' H' -> ElR K F' A' e v -> D.rt e W' -> E.rt v H'
theorem zF8.ext {K : ay5} {n : Nat} {F F1 : Hp} {A A1 : List Addr} {D : DB} {E : Ends} (hn : n <= A.length) (h : zF8 K n F A D E) (x : Ex1 n F A F1 A1) : zF8 K n F1 A1 D E :=
 ⟨fun F' A' W' H' S' σ' y => h.nx F' A' W' H' S' σ' (x.trans hn y), fun F' A' W' H' S' σ' y => h.bk F' A' W' H' S' σ' (x.trans hn y), fun F' A' W' H' S' σ' y => h.ct F' A' W' H' S' σ' (x.trans hn y), fun F' A' W' H' e v y => h.rt F' A' W' H' e v (x.trans hn y)⟩
structure Bc.Ams (X : Bc) (n : Nat) (F : Hp) (A : List Addr) : Prop where
 am : X.Am F A
 le : X.A0.length <= n
theorem Bc.Ams.ext {X : Bc} {n : Nat} {F F' : Hp} {A A' : List Addr} (x : X.Ams n F A) (e : Ext F A F' A') : X.Ams n F' A' := ⟨x.am.trans e, x.le⟩
theorem Bc.Ams.ex1 {X : Bc} {n : Nat} {F F' : Hp} {A A' : List Addr} (x : X.Ams n F A) (hn : n <= A.length) (e : Ex1 n F A F' A') : X.Ams n F' A' := ⟨⟨x.am.same.trans e.same, by
 obtain ⟨r, hr⟩ := x.am.pre;have h1 : X.A0 = A.take X.A0.length := by rw [<- hr, List.take_left]
 have h2 : A.take X.A0.length = (A.take n).take X.A0.length := by rw [List.take_take, py7 x.le]
 rw [h1, h2]
 exact (wy5 _ _).trans e.pre⟩, x.le⟩
theorem Bc.Ams.up {X : Bc} {n m : Nat} {F : Hp} {A : List Addr} (x : X.Ams n F A) (h : n <= m) : X.Ams m F A := ⟨x.am, dy9 x.le h⟩
def tDS (X : Bc) (n : Nat) (S : Sl) (W : Wl) (D : DB) : TS := fun E σ H => ∃ F A, n <= A.length /\ X.Ams n F A /\ RW X.K F A W H /\ SR X.K F A S σ /\ zF8 X.K n F A D E
def BS (X : Bc) (n : Nat) (S : Sl) (W : Wl) (st : Stmt) (D : DB) : Prop := PS X st (tDS X n S W D)
def BSs (X : Bc) (n : Nat) (S : Sl) (W : Wl) (st : List Stmt) (D : DB) : Prop := PSs X st (tDS X n S W D)
def tUSt (X : Bc) (st : Stmt) : TS := fun E σ H => ∃ t, PS X st t /\ t E σ H
def tUSs (X : Bc) (st : List Stmt) : TS := fun E σ H => ∃ t, PSs X st t /\ t E σ H
section
variable {X : Bc} {n : Nat} {S : Sl} {W : Wl} {D : DB}
theorem ps_U {st : Stmt} : PS X st (tUSt X st) := fun pins s σ H E I ⟨t, h, q⟩ => h pins s σ H E I q
theorem zS8 {st : List Stmt} : PSs X st (tUSs X st) := fun pins s σ H E I ⟨t, h, q⟩ => h pins s σ H E I q
theorem BS.of {st : Stmt} {t : TS} (h : PS X st t) (i : ∀ F A σ H E, n <= A.length -> X.Ams n F A -> RW X.K F A W H -> SR X.K F A S σ -> zF8 X.K n F A D E -> t E σ H) : BS X n S W st D :=
 fun pins s σ H E I ⟨F, A, hn, x0, r, sr, q⟩ => h pins s σ H E I (i F A σ H E hn x0 r sr q)
theorem BSs.of {st : List Stmt} {t : TS} (h : PSs X st t) (i : ∀ F A σ H E, n <= A.length -> X.Ams n F A -> RW X.K F A W H -> SR X.K F A S σ -> zF8 X.K n F A D E -> t E σ H) : BSs X n S W st D :=
 fun pins s σ H E I ⟨F, A, hn, x0, r, sr, q⟩ => h pins s σ H E I (i F A σ H E hn x0 r sr q)
theorem BS.use {st : Stmt} (h : BS X n S W st D) {F : Hp} {A : List Addr} {σ : St} {H : Hp} {E : Ends} (hn : n <= A.length) (x0 : X.Ams n F A) (r : RW X.K F A W H) (s : SR X.K F A S σ) (q : zF8 X.K n F A D E) : tUSt X st E σ H := ⟨_, h, F, A, hn, x0, r, s, q⟩
theorem BSs.use {st : List Stmt} (h : BSs X n S W st D) {F : Hp} {A : List Addr} {σ : St} {H : Hp} {E : Ends} (hn : n <= A.length) (x0 : X.Ams n F A) (r : RW X.K F A W H) (s : SR X.K F A S σ) (q : zF8 X.K n F A D E) : tUSs X st E σ H := ⟨_, h, F, A, hn, x0, r, s, q⟩
theorem zj5 (h : D.nx S W) : BSs X n S W [] D := .of zc32 fun F A σ H E hn x0 r sr q => q.nx F A W H S σ (.refl hn) r sr h
theorem za4 {st : Stmt} {rest : List Stmt} (h : BS X n S W st { D with nx := fun S' W' => BSs X n S' W' rest D }) : BSs X n S W (st :: rest) D :=
 .of (zb17 ps_U zS8) fun F A σ H E hn x0 r sr q => h.use hn x0 r sr ⟨fun F' A' W' H' S' σ' x r' sr' h' => h'.use x.len (x0.ex1 hn x) r' sr' (q.ext hn x), q.bk, q.ct, q.rt⟩
theorem zb0 {st : Stmt} (h : BS X n S W st D) : BSs X n S W [st] D := zc33 h
theorem ze3 {e : Expr} {pos : Pos} (h : BE X S W e fun _ W1 => D.nx S W1) (hs : swapsWith e none pos.line X.env = pure false := by rfl) : BS X n S W (.Expr e pos) D :=
 .of (zc34 zh8 hs) fun F A σ H E hn x0 r sr q => h.use x0.am r sr fun F1 A1 W1 H1 x vx e1 r1 z1 h1 => q.nx F1 A1 W1 H1 S σ (e1.ex1 hn) r1 (sr.ext e1) h1
theorem ze7 {e : Expr} {pos : Pos} (h : BE X S W e D.rt) : BS X n S W (.Return (some e) pos) D :=
 .of (zY2 zh8) fun F A σ H E hn x0 r sr q => h.use x0.am r sr fun F1 A1 W1 H1 x vx e1 r1 z1 h1 => q.rt F1 A1 W1 H1 x vx (e1.ex1 hn) r1 z1 h1
theorem zl2 {c : Expr} {a b : List Stmt} {pos : Pos} (h : BT X S W c fun t W1 => if t = true then BSs X n S W1 a D else BSs X n S W1 b D) : BS X n S W (.If c a b pos) D :=
 .of (ze35 pt_U zS8 zS8) fun F A σ H E hn x0 r sr q => h.use x0.am r sr fun F1 A1 W1 H1 t e1 r1 h1 => by
  have hn1 : n <= A1.length := (e1.ex1 hn).len;cases t with
  | true =>
   rw [if_pos rfl] at h1 ⊢;exact h1.use hn1 (x0.ext e1) r1 (sr.ext e1) (q.ext hn (e1.ex1 hn))
  | false =>
   rw [if_neg (by decide)] at h1 ⊢;exact h1.use hn1 (x0.ext e1) r1 (sr.ext e1) (q.ext hn (e1.ex1 hn))
theorem zc4 {i : Nat} {x : Str} {e : Expr} {pos pos' : Pos} (hN : X.N.Nodup) (hi : X.N[i]? = some x) (hx : Loc X.env.scope x) (h : BE X S W e fun y W1 => D.nx (S.set i (some y)) W1) (hs : swapsWith e (some (.Name x pos')) pos.line X.env = pure false := by rfl) (hf : X.fn x = true \/ X.env.scope.names.lookup x = some .local := by first | exact .inl rfl | exact .inr rfl | assumption) :
  BS X n S W (.Assign [.Name x pos'] e pos) D :=
 .of (zd29 hN hi hx zh8 hs hf) fun F A σ H E hn x0 r sr q => h.use x0.am r sr fun F1 A1 W1 H1 y vy e1 r1 z1 h1 => q.nx F1 A1 W1 H1 _ _ (e1.ex1 hn) r1 ((sr.ext e1).set z1 i) h1
def tUG (X : Bc) (tg : Expr) : TG := fun v σ H Q => ∃ t, PG X tg t /\ t v σ H Q
theorem pg_U {tg : Expr} : PG X tg (tUG X tg) := fun pins s σ H v u Q I r ⟨t, h, q⟩ => h pins s σ H v u Q I r q
def BG (X : Bc) (S : Sl) (W : Wl) (tg : Expr) (e : El) (k : Sl -> Wl -> Prop) : Prop := ∀ F A σ H v (Q : St -> Hp -> Prop), X.Am F A -> RW X.K F A W H -> SR X.K F A S σ -> ElR X.K F A e v ->
 (∀ F' A' W' H' S' σ', Ext F A F' A' -> RW X.K F' A' W' H' -> SR X.K F' A' S' σ' -> k S' W' -> Q σ' H') -> tUG X tg v σ H Q
theorem zn3 {i : Nat} {x : Str} {pos : Pos} {e : El} {k : Sl -> Wl -> Prop} (hN : X.N.Nodup) (hi : X.N[i]? = some x) (hx : Loc X.env.scope x) (h : k (S.set i (some e)) W) (hf : X.fn x = true \/ X.env.scope.names.lookup x = some .local := by first | exact .inl rfl | exact .inr rfl | assumption) : BG X S W (.Name x pos) e k :=
 fun F A σ H v Q x0 r sr z q => ⟨_, zt9 hN hi hx hf, q F A W H _ _ .refl r (sr.set z i) h⟩
inductive Nms (X : Bc) : List Expr -> List Nat -> Prop
 | nil : Nms X [] []
 | cons {i : Nat} {x : Str} {pos : Pos} {es : List Expr} {is : List Nat} (hN : X.N.Nodup) (hi : X.N[i]? = some x) (hx : Loc X.env.scope x) (t : Nms X es is)
   (hf : X.fn x = true \/ X.env.scope.names.lookup x = some .local := by first | exact .inl rfl | exact .inr rfl | assumption)
   (hs : (my1 (.Name x pos :: es) X.env).map (·.2) = assign (.Name x pos) X.env :: (my1 es X.env).map (·.2) := by rfl) : Nms X (.Name x pos :: es) (i :: is)
def gNms : List Nat -> TGs
 | [] => gNil
 | i :: is => zR7 (zn2 i) (gNms is)
theorem Nms.pgs : ∀ {es : List Expr} {is : List Nat}, Nms X es is -> PGs X es (gNms is)
 | _, _, .nil => zY3
 | _, _, .cons hN hi hx t hf hs => zN7 (zt9 hN hi hx hf) t.pgs hs
def zs0 (S : Sl) : List Nat -> List El -> Sl
 | i :: is, e :: es => zs0 (S.set i (some e)) is es
 | _, _ => S
def setAllσ (σ : St) : List Nat -> List V -> St
 | i :: is, e :: es => setAllσ (σ.set i (some e)) is es
 | _, _ => σ
theorem zA4 : ∀ {is : List Nat} {vs : List V} {σ : St} {H : Hp} {Q : St -> Hp -> Prop}, is.length = vs.length -> Q (setAllσ σ is vs) H -> gNms is vs σ H Q
 | [], [], σ, H, Q, _, q => ⟨rfl, q⟩
 | [], _ :: _, _, _, _, h, _ => by simp at h
 | _ :: _, [], _, _, _, h, _ => by simp at h
 | i :: is, v :: vs, σ, H, Q, h, q => ⟨v, vs, rfl, zA4 (is := is) (by simpa using h) q⟩
theorem SR.zs0 {K : ay5} {F : Hp} {A : List Addr} : ∀ {is : List Nat} {es : List El} {vs : List V} {S : Sl} {σ : St}, SR K F A S σ -> Paired (ElR K F A) es vs -> SR K F A (zs0 S is es) (setAllσ σ is vs)
 | [], _, _, _, _, r, _ => r
 | _ :: _, _, _, _, _, r, .nil => r
 | i :: is, _, _, S, σ, r, .cons z t => SR.zs0 (is := is) (r.set z i) t
theorem zF9 {es : List Expr} {is : List Nat} {c : Nat} {pos : Pos} {ds : List PyData} {k : Sl -> Wl -> Prop} (hc : X.calm = true) (hm : Nms X es is) (hl : is.length = ds.length) (h : k (zs0 S is (zb2 ds)) W)
  (hn : (my1 es X.env).length = is.length := by rfl) (hst : (my1 es X.env).findIdx? (·.1) = none := by rfl) : BG X S W (.Tuple es c pos) (.d (.tuple ds)) k :=
 fun F A σ H v Q x0 r sr z q => by
  obtain ⟨a, vs, rfl, hs, p⟩ := Rq.zg3 z;exact ⟨_, zY4 hc hm.pgs hn hst, a, vs, rfl, r.sub.zr7 hs, by rw [<- zb1 p, hl], zA4 (by rw [hl, zb1 p]) (q F A W H _ _ .refl r (sr.zs0 (zf3 p)) h)⟩
theorem zs1 {tg e : Expr} {pos : Pos} (h : BE X S W e fun y W1 => BG X S W1 tg y D.nx) (hs : swapsWithSole [tg] e pos.line X.env = pure false := by rfl) (hw : swappedStores [tg] e X.env = pure none := by rfl)
  (h1 : (my1 [tg] X.env).map (·.2) = [assign tg X.env] := by rfl) : BS X n S W (.Assign [tg] e pos) D :=
 .of (zd28 zh8 pg_U hs hw h1) fun F A σ H E hn x0 r sr q => h.use x0.am r sr fun F1 A1 W1 H1 y vy e1 r1 z1 h1 => h1 F1 A1 σ H1 vy _ (x0.am.trans e1) r1 (sr.ext e1) z1 fun F2 A2 W2 H2 S2 σ2 e2 r2 sr2 h2 => q.nx F2 A2 W2 H2 S2 σ2 ((e1.trans e2).ex1 hn) r2 sr2 h2
def zd64 (X : Bc) : TSet := fun o i v H Q => ∃ t, PSet X t /\ t o i v H Q
theorem zd65 : PSet X (zd64 X) := fun pins s σ H o i v ov iv u Q I r1 r2 r3 ⟨t, h, q⟩ => h pins s σ H o i v ov iv u Q I r1 r2 r3 q
def SB (X : Bc) (o i v : El) (W : Wl) (k : Wl -> Prop) : Prop := ∀ F A H vo vi vv (Q : Hp -> Prop), RW X.K F A W H -> ElR X.K F A o vo -> ElR X.K F A i vi -> ElR X.K F A v vv -> (∀ F' A' W' H', Ext F A F' A' -> RW X.K F' A' W' H' -> k W' -> Q H') -> zd64 X vo vi vv H Q
theorem zG0 {o i : Expr} {pos : Pos} {e : El} {k : Sl -> Wl -> Prop} (h : BE X S W o fun x W1 => BE X S W1 i fun y W2 => SB X x y e W2 fun W3 => k S W3)
  (ha : ∀ v, assign (.Subscript o i pos) X.env v = (do
   let ov <- holding [v] (eval o X.env)
   let iv <- holding [v, ov] (eval i X.env)
   standAt pos
   holding [v, ov, iv] (setItem ov iv v)
   release [v, ov, iv] []) := by intro _; rfl) : BG X S W (.Subscript o i pos) e k :=
 fun F A σ H v Q x0 r sr z q => ⟨_, zd27 zh8 zh8 zd65 ha, h.use x0 r sr fun F1 A1 W1 H1 x vx e1 r1 z1 h1 => h1.use (x0.trans e1) r1 (sr.ext e1) fun F2 A2 W2 H2 y vy e2 r2 z2 h2 =>
  h2 F2 A2 H2 vx vy v _ r2 (z1.ext e2) z2 (z.ext (e1.trans e2)) fun F3 A3 W3 H3 e3 r3 h3 => q F3 A3 W3 H3 S σ ((e1.trans e2).trans e3) r3 (sr.ext ((e1.trans e2).trans e3)) h3⟩
theorem zd66 {j : Nat} {es : List El} {i : Int} {m : Nat} {v : El} {k : Wl -> Prop} (hj : W[j]? = some (.lst es)) (hi : ixN es.length i = some m) (h : k (W.set j (.lst (es.set m v)))) : SB X (.o j) (.d (.int i)) v W k :=
 fun F A H vo vi vv Q r zo zi zv q => by
  obtain ⟨a, ws, rfl, ha, hH, p⟩ := r.at zo hj;obtain rfl := Rq.zd7 zi;exact ⟨_, set_list, a, ws, i, m, rfl, rfl, hH, by rw [<- zb1 p]; exact hi, q F A _ _ .refl (r.put ha (o := .lst (es.set m v)) ⟨_, rfl, zc01 zv m p⟩) h⟩
def El.below (m : Nat) : El -> Prop
 | .d _ => True
 | .s _ => True
 | .x _ => True
 | .p _ => True
 | .t xs => ∀ k, .inr k ∈ xs -> k < m
 | .o k => k < m
def OD.below (m : Nat) : OD -> Prop
 | .lst es => ∀ e ∈ es, e.below m
 | .dK kvs => ∀ p ∈ kvs, p.2.below m
 | .dT kvs => ∀ p ∈ kvs, p.2.below m
 | .fT _ kvs => ∀ p ∈ kvs, p.2.below m
 | .fK _ kvs => ∀ p ∈ kvs, p.2.below m
theorem zo8 {α β : Type} {F G : α -> β -> Prop} : ∀ {l : List α} {m : List β}, Paired F l m -> (∀ a ∈ l, ∀ b, F a b -> G a b) -> Paired G l m
 | _, _, .nil, _ => .nil
 | _, _, .cons r t, h => .cons (h _ ay9 _ r) (zo8 t fun a ha => h a (by0 _ ha))
theorem ElR.drop {K : ay5} {F : Hp} {A : List Addr} {m : Nat} : ∀ {e : El} {v : V}, e.below m -> ElR K F A e v -> ElR K F (A.take m) e v
 | .d _, _, _, z => z
 | .s _, _, _, z => z
 | .x _, _, _, z => z
 | .p _, _, _, z => z
 | .t xs, _, h, ⟨a, vs, e, r, p⟩ => ⟨a, vs, e, r, zo8 p fun x hx v z => match x, h, hx, z with
  | .inl _, _, _, z => z
  | .inr k, h, hx, ⟨b, q, w⟩ => ⟨b, by rw [gy2 (h k hx)]; exact q, w⟩⟩
 | .o k, _, h, ⟨a, e, r⟩ => ⟨a, by rw [gy2 h]; exact e, r⟩
theorem OdR.drop {K : ay5} {F : Hp} {A : List Addr} {m : Nat} : ∀ {o : OD} {h : HO}, o.below m -> OdR K F A o h -> OdR K F (A.take m) o h
 | .lst es, _, hb, ⟨vs, e, p⟩ => ⟨vs, e, zo8 p fun a ha b z => z.drop (hb a ha)⟩
 | .dK es, _, hb, ⟨vs, e, p⟩ => ⟨vs, e, zo8 p fun a ha b z => ⟨z.1, z.2.drop (hb a ha)⟩⟩
 | .dT es, _, hb, ⟨vs, e, p⟩ => ⟨vs, e, zo8 p fun a ha b z => ⟨z.1, z.2.drop (hb a ha)⟩⟩
 | .fT _ es, _, hb, ⟨vs, e, p⟩ => ⟨vs, e, zo8 p fun a ha b z => ⟨z.1, z.2.drop (hb a ha)⟩⟩
 | .fK _ es, _, hb, ⟨vs, e, p⟩ => ⟨vs, e, zo8 p fun a ha b z => ⟨z.1, z.2.drop (hb a ha)⟩⟩
theorem RW.drop {K : ay5} {F : Hp} {A : List Addr} {W : Wl} {H : Hp} (r : RW K F A W H) {m : Nat} (h : ∀ o ∈ W.take m, o.below m) : RW K F (A.take m) (W.take m) H := by
 refine ⟨r.sub, by simp [r.len], r.nd.sublist (ry9 _ _), fun a ha => r.out a (my2 ha), fun k a o hk ho => ?_⟩
 have hm : k < m := by
  have := (ay3.mp hk).1;simp at this;omega
 have ho' := ho;rw [gy2 hm] at hk ho;obtain ⟨u, e, q⟩ := r.obj k a o hk ho;exact ⟨u, e, q.drop (h o (cy5 ho'))⟩
theorem RW.freeze {K : ay5} {F : Hp} {A : List Addr} {W : Wl} {H : Hp} (r : RW K F A W H) {m : Nat} {ds : List PyData} (hm : W[m]? = some (.lst (zb2 ds))) (h : ∀ o ∈ W.take m, o.below m) :
  ∃ F' a, A[m]? = some a /\ zm6 F F' /\ RW K F' (A.take m) (W.take m) H /\ Rq K F' (.ref a) (.list ds) := by
 have hl : m < A.length := by rw [r.len]; exact (ay3.mp hm).1
 have ha : A[m]? = some A[m] := by simp [hl]
 obtain ⟨u, e, vs, rfl, p⟩ := r.obj m A[m] _ ha hm;have hF : F A[m] = none := r.out _ (qy4 hl);have sF : zm6 F (upd F A[m] (.lst vs)) := zj2 hF
 have hnot : A[m] ∉ A.take m := fun z => by
  obtain ⟨k, hk⟩ := gy1.mp z
  have hkm : k < m := by
   have := (ay3.mp hk).1;simp at this;omega
  rw [gy2 hkm] at hk;obtain ⟨l1, e1⟩ := ay3.mp hk;have := (jy9 r.nd).mp e1;omega
 have r' := r.drop h;have x : Ext F (A.take m) (upd F A[m] (.lst vs)) (A.take m) := ⟨sF, ty7 _⟩
 refine ⟨upd F A[m] (.lst vs), A[m], ha, sF, ⟨fun b o q => ?_, r'.len, r'.nd, fun a hz => ?_, fun k a o hk ho => ?_⟩, .lst (.inl zb3) (Rqs.of (zd6 (fun _ _ t => Rq.same sF _ t) (zk0 p)))⟩
 ·by_cases hb : b = A[m]
  ·subst hb; rw [zb3] at q; cases q; exact e
  ·rw [za5 hb] at q; exact r.sub _ _ q
 ·rw [za5 (fun z => hnot (by rw [<- z]; exact hz))]; exact r'.out a hz
 ·obtain ⟨u, e, q⟩ := r'.obj k a o hk ho;exact ⟨u, e, q.ext x⟩
theorem Ex1.drop {n m : Nat} {F : Hp} {A : List Addr} (hn : n <= A.length) (hm : n <= m) : Ex1 n F A F (A.take m) := ⟨.refl _, by
 rw [show A.take n = (A.take m).take n by rw [List.take_take, py7 hm]]
 exact wy5 _ _, by rw [dy2]; omega⟩
theorem zK4 {e : Expr} {pos : Pos} (m : Nat) (hm : n <= m) (h : BE X S W e fun y W1 => y.below m /\ (∀ o ∈ W1.take m, o.below m) /\ D.rt y (W1.take m)) : BS X n S W (.Return (some e) pos) D :=
 .of (zY2 zh8) fun F A σ H E hn x0 r sr q => h.use x0.am r sr fun F1 A1 W1 H1 x vx e1 r1 z1 zR => by
  obtain ⟨h1, h2, h3⟩ := zR;have hn1 := (e1.ex1 hn).len;exact q.rt F1 _ _ H1 x vx ((e1.ex1 hn).trans hn (.drop hn1 hm)) (r1.drop h2) (z1.drop h1) h3
theorem zS9 {e : Expr} {pos : Pos} (h : BE X S W e fun y W1 => ∃ m ds, y = .o m /\ n <= m /\ W1[m]? = some (.lst (zb2 ds)) /\ (∀ o ∈ W1.take m, o.below m) /\ D.rt (.d (.list ds)) (W1.take m)) : BS X n S W (.Return (some e) pos) D :=
 .of (zY2 zh8) fun F A σ H E hn x0 r sr q => h.use x0.am r sr fun F1 A1 W1 H1 x vx e1 r1 z1 zR => by
  obtain ⟨m, ds, he, h1, h2, h3, h4⟩ := zR;subst he;obtain ⟨F', a, ha, sF, r', rq⟩ := r1.freeze h2 h3;obtain ⟨b, hb, rfl⟩ := z1;rw [ha] at hb;cases hb;have hn1 := (e1.ex1 hn).len;have y := (Ex1.drop (F := F1) hn1 h1)
  exact q.rt F' _ _ H1 _ _ ((e1.ex1 hn).trans hn ⟨sF, y.pre, y.len⟩) r' (.dd rq) h4
end
theorem Ex1.le {m n : Nat} {F F' : Hp} {A A' : List Addr} (hm : m <= n) (x : Ex1 n F A F' A') : Ex1 m F A F' A' := ⟨x.same, by
 have : A.take m = (A.take n).take m := by rw [List.take_take, py7 hm]
 rw [this]
 exact (wy5 _ _).trans x.pre, dy9 hm x.len⟩
structure Walks (K : ay5) (m : Nat) (F1 : Hp) (A1 : List Addr) (G : Wl -> Prop) (J : It) (ds : List PyData) : Prop where
 go : ∀ i F' A' W' H', i < ds.length -> Ex1 m F1 A1 F' A' -> RW K F' A' W' H' -> G W' -> J.go i H'
 yld : ∀ i F' A' W' H' x H'', i < ds.length -> Ex1 m F1 A1 F' A' -> RW K F' A' W' H' -> G W' -> J.yld i H' x H'' -> H'' = H' /\ ∃ d, ds[i]? = some d /\ Rq K F' x d
 stop : ∀ F' A' W' H', Ex1 m F1 A1 F' A' -> RW K F' A' W' H' -> G W' -> J.stop ds.length H'
def tUI (X : Bc) (tg iter : Expr) : TI := fun σ H R => ∃ t, PI X tg iter t /\ t σ H R
theorem pi_U {X : Bc} {tg iter : Expr} : PI X tg iter (tUI X tg iter) := fun pins s σ H R I ⟨t, h, q⟩ => h pins s σ H R I q
def BI (X : Bc) (S : Sl) (W : Wl) (tg iter : Expr) (k : Nat -> (Wl -> Prop) -> List PyData -> Wl -> Prop) : Prop := ∀ F A σ H (R : It -> Hp -> Prop), X.Am F A -> RW X.K F A W H -> SR X.K F A S σ ->
 (∀ m G F1 A1 W1 H1 ds J, Ext F A F1 A1 -> RW X.K F1 A1 W1 H1 -> m <= A1.length -> Walks X.K m F1 A1 G J ds -> k m G ds W1 -> R J H1) -> tUI X tg iter σ H R
abbrev GT : Wl -> Prop := fun _ => True
section
variable {X : Bc} {n : Nat} {S : Sl} {W : Wl} {D : DB} {tg : Expr} {ki : Nat -> (Wl -> Prop) -> List PyData -> Wl -> Prop}
theorem zA5 {iter : Expr} (h : BE X S W iter fun y W1 => ∃ ds, y = .d (.list ds) /\ ki 0 GT ds W1) : BI X S W tg iter ki := fun F A σ H R x0 r sr q =>
 ⟨_, zY7 zh8, h.use x0 r sr fun F1 A1 W1 H1 y vy e1 r1 z1 zR => by
  obtain ⟨ds, hy, h1⟩ := zR;subst hy;obtain ⟨a, vs, rfl, hv, z⟩ := Rq.zF4 z1;have hl : ∀ {F' A' W' H'}, Ex1 0 F1 A1 F' A' -> RW X.K F' A' W' H' -> SqL X.K H' a vs := fun x r' => .inl (r'.sub.rd (x.same.rd hv));refine ⟨a, rfl, ⟨vs, .inl (r1.sub.rd hv)⟩, q 0 GT F1 A1 W1 H1 ds _ e1 r1 (dy5 _) ⟨fun i F' A' W' H' hi x r' _ => ?_, fun i F' A' W' H' y H'' hi x r' _ hy => ?_, fun F' A' W' H' x r' _ => ?_⟩ h1⟩
  ·have hi' : i < vs.length := by rw [<- zb1 z]; exact hi
   exact ⟨vs, vs[i], hl x r', by simp [hi']⟩
  ·obtain ⟨e, hy⟩ := hy;obtain ⟨d, h1, h2⟩ := ze2 z (hy vs (hl x r'));exact ⟨e, d, h1, Rq.same x.same _ h2⟩
  ·exact ⟨vs, hl x r', by rw [<- zb1 z]; exact ay6 _⟩⟩
theorem zc10 {iter : Expr} (h : BE X S W iter fun y W1 => ∃ j ds, y = .o j /\ W1[j]? = some (.lst (zb2 ds)) /\ ki (j + 1) (fun W' => W'[j]? = some (.lst (zb2 ds))) ds W1) : BI X S W tg iter ki := fun F A σ H R x0 r sr q =>
 ⟨_, zY7 zh8, h.use x0 r sr fun F1 A1 W1 H1 y vy e1 r1 z1 zR => by
  obtain ⟨j, ds, hy, hj, h1⟩ := zR;subst hy;obtain ⟨a, ha, rfl⟩ := z1;have hja : j < A1.length := (ay3.mp ha).1
  have ha' : ∀ {F' A'}, Ex1 (j + 1) F1 A1 F' A' -> A'[j]? = some a := fun {F' A'} x => by
   have e := zm1 x.pre (by omega);have := congrArg (fun l => l[j]?) e;simp only [gy2 (my3 j)] at this;rw [this]; exact ha
  have key : ∀ {F' A' W' H'}, Ex1 (j + 1) F1 A1 F' A' -> RW X.K F' A' W' H' -> W'[j]? = some (.lst (zb2 ds)) -> ∃ vs, H' a = some (.lst vs) /\ Paired (fun d v => Rq X.K F' v d) ds vs := fun x r' hG => by
   obtain ⟨u, e, vs, rfl, p⟩ := r'.obj j a _ (ha' x) hG;exact ⟨vs, e, zk0 p⟩
  obtain ⟨v0, e0, p0⟩ := key (.refl (by omega)) r1 hj;refine ⟨a, rfl, ⟨v0, SqL.of e0⟩, q (j + 1) _ F1 A1 W1 H1 ds _ e1 r1 hja ⟨fun i F' A' W' H' hi x r' hG => ?_, fun i F' A' W' H' y H'' hi x r' hG hy => ?_, fun F' A' W' H' x r' hG => ?_⟩ h1⟩
  ·obtain ⟨vs, e, p⟩ := key x r' hG;have hi' : i < vs.length := by rw [<- zb1 p]; exact hi
   exact ⟨vs, vs[i], SqL.of e, by simp [hi']⟩
  ·obtain ⟨vs, e, p⟩ := key x r' hG;obtain ⟨e', hy⟩ := hy;obtain ⟨d, h1, h2⟩ := ze2 p (hy vs (SqL.of e));exact ⟨e', d, h1, h2⟩
  ·obtain ⟨vs, e, p⟩ := key x r' hG
   exact ⟨vs, SqL.of e, by rw [<- zb1 p]; exact ay6 _⟩⟩
theorem zv3 {iter : Expr} (h : BE X S W iter fun y W1 => ∃ ds, y = .d (.tuple ds) /\ ki 0 GT ds W1) : BI X S W tg iter ki := fun F A σ H R x0 r sr q =>
 ⟨_, zb95 zh8, h.use x0 r sr fun F1 A1 W1 H1 y vy e1 r1 z1 zR => by
  obtain ⟨ds, hy, h1⟩ := zR;subst hy;obtain ⟨a, vs, rfl, hv, z⟩ := Rq.zg3 z1;have hl : ∀ {F' A' W' H'}, Ex1 0 F1 A1 F' A' -> RW X.K F' A' W' H' -> SqT X.K H' a vs := fun x r' => r'.sub.zr7 (x.same.zr7 hv);refine ⟨a, rfl, ⟨vs, r1.sub.zr7 hv⟩, q 0 GT F1 A1 W1 H1 ds _ e1 r1 (dy5 _) ⟨fun i F' A' W' H' hi x r' _ => ?_, fun i F' A' W' H' y H'' hi x r' _ hy => ?_, fun F' A' W' H' x r' _ => ?_⟩ h1⟩
  ·have hi' : i < vs.length := by rw [<- zb1 z]; exact hi
   exact ⟨vs, vs[i], hl x r', by simp [hi']⟩
  ·obtain ⟨e, hy⟩ := hy;obtain ⟨d, h1, h2⟩ := ze2 z (hy vs (hl x r'));exact ⟨e, d, h1, Rq.same x.same _ h2⟩
  ·exact ⟨vs, hl x r', by rw [<- zb1 z]; exact ay6 _⟩⟩
def zl3 (lo : Int) (n : Nat) : List PyData := (ky2 n).map fun (i : Nat) => .int (lo + (i : Int))
theorem zT0 {lo : Int} {n i : Nat} (h : i < n) : (zl3 lo n)[i]? = some (.int (lo + i)) := by unfold zl3; simp [h]
theorem zK5 {K : ay5} {F1 : Hp} {A1 : List Addr} {lo : Int} {n : Nat} : Walks K 0 F1 A1 GT (Itr lo n) (zl3 lo n) := by
 have hl : (zl3 lo n).length = n := by unfold zl3; simp
 refine ⟨fun i F' A' W' H' hi _ _ _ => by rw [hl] at hi; exact hi, fun i F' A' W' H' y H'' hi x r' _ hy => ?_, fun F' A' W' H' x r' _ => by rw [hl]; exact ay6 _⟩;rw [hl] at hi;obtain ⟨e, rfl⟩ := hy;exact ⟨e, _, zT0 hi, .int _⟩
theorem zo9 {a : Expr} {p pos : Pos} (hg : Gl X "range") (hm : X.mg "range" = none) (h : BE X S W a fun y W1 => ∃ j : Int, y = .d (.int j) /\ -(2 ^ 62) <= j /\ j < 2 ^ 62 /\ ki 0 GT (zl3 0 j.toNat) W1) (hs : fy6 [a] X.env = [(false, eval a X.env)] := by rfl) : BI X S W tg (.Call (.Name "range" p) [a] [] pos) ki := fun F A σ H R x0 r sr q =>
 ⟨_, zY8 hg hm (zl0 zh8 zu1 hs) hs, h.use x0 r sr fun F1 A1 W1 H1 y vy e1 r1 z1 zR => by
  obtain ⟨j, hy, h2, h3, h4⟩ := zR;subst hy;obtain rfl := Rq.zd7 z1
  exact ⟨j, rfl, h2, h3, q 0 GT F1 A1 W1 H1 _ _ e1 r1 (dy5 _) zK5 h4⟩⟩
def zy2 (x : Str) : List PyData := x.cps.toList.map fun c => .str ⟨#[c]⟩
theorem zd67 {iter : Expr} (h : BE X S W iter fun y W1 => ∃ x, y = .d (.str x) /\ ki 0 GT (zy2 x) W1) : BI X S W tg iter ki := fun F A σ H R x0 r sr q =>
 ⟨_, zd51 zh8, h.use x0 r sr fun F1 A1 W1 H1 y vy e1 r1 z1 zR => by
  obtain ⟨x, hy, h1⟩ := zR;subst hy;obtain rfl := Rq.zf2 z1;have hl : (zy2 x).length = x.cps.size := by unfold zy2; simp
  refine ⟨x, rfl, q 0 GT F1 A1 W1 H1 _ _ e1 r1 (dy5 _) ⟨fun i F' A' W' H' hi _ _ _ => by rw [hl] at hi; exact hi, fun i F' A' W' H' y H'' hi _ r' _ hy => ?_, fun F' A' W' H' _ r' _ => by rw [hl]; exact ay6 _⟩ h1⟩;obtain ⟨e, c, hc, rfl⟩ := hy;refine ⟨e, _, ?_, .str _⟩;unfold zy2;rw [by3, jy6, hc]
  rfl⟩
theorem zv4 {iter : Expr} {body : List Stmt} {pos : Pos} (hp : PassesOwn (model X.prog X.w) X.A X.env X.xe) (hc : X.calm = true)
  (h : BI X S W tg iter fun m G ds W1 => ∃ (mb : Nat) (P : Nat -> Sl -> Wl -> Prop), n <= mb /\ m <= mb /\ mb <= W1.length /\ P 0 S W1 /\ (∀ i S' W', i <= ds.length -> P i S' W' -> G W') /\
   (∀ i d S' W', ds[i]? = some d -> P i S' W' -> BG X S' W' tg (.d d) fun S2 W2 => BSs X mb S2 W2 body { D with nx := P (i + 1), ct := P (i + 1), bk := D.nx }) /\ ∀ S' W', P ds.length S' W' -> D.nx S' W')
  (hs : ∀ x, ey1 iter X.env x = pure x := by intro _; rfl) : BS X n S W (.For tg iter body [] pos) D :=
 .of (zb96 hp hc pi_U pg_U zS8 hs) fun F A σ H E hn x0 r sr q => h F A σ H _ x0.am r sr fun m G F1 A1 W1 H1 ds J e1 r1 hm1 wk zR => by
  obtain ⟨mb, P, hnm, hmm, hmb, p0, hG, hs, hd⟩ := zR;have hmA : mb <= A1.length := by rw [r1.len]; exact hmb
  refine ⟨fun i μ σ' H' => μ = ds.length - i /\ i <= ds.length /\ ∃ F' A' S' W', Ex1 mb F1 A1 F' A' /\ RW X.K F' A' W' H' /\ SR X.K F' A' S' σ' /\ P i S' W', ⟨ds.length, by simp, dy5 _, F1, A1, S, W1, .refl hmA, r1, sr.ext e1, p0⟩, ?_⟩;rintro i μ σ' H' ⟨rfl, hi, F', A', S', W', x, r', sr', p⟩;have g := hG i S' W' hi p
  by_cases hlt : i < ds.length
  ·refine .inr ⟨wk.go i F' A' W' H' hlt (x.le hmm) r' g, fun σ2 H2 => ∃ F2 A2 S2 W2, Ex1 mb F1 A1 F2 A2 /\ RW X.K F2 A2 W2 H2 /\ SR X.K F2 A2 S2 σ2 /\ P (i + 1) S2 W2, fun σ2 H2 p2 => ⟨ds.length - (i + 1), by omega, rfl, hlt, p2⟩, fun v H'' hy => ?_⟩;obtain ⟨rfl, d, hd', zd⟩ := wk.yld i F' A' W' H' v H'' hlt (x.le hmm) r' g hy;refine hs i d S' W' hd' p F' A' σ' H'' v _ ((x0.ext e1).up hnm |>.ex1 hmA x).am r' sr' zd fun F2 A2 W2 H2 S2 σ2 x2 r2 sr2 h2 => ?_;have x12 : Ex1 mb F1 A1 F2 A2 := x.trans hmA (x2.ex1 x.len);have q2 := q.ext hn ((e1.ex1 hn).trans hn (x12.le hnm));have hn2 : n <= A2.length := dy9 hnm x12.len;exact h2.use x12.len (((x0.ext e1).up hnm).ex1 hmA x12) r2 sr2 ⟨fun F3 A3 W3 H3 S3 σ3 x3 r3 sr3 h3 => ⟨F3, A3, S3, W3, x12.trans hmA x3, r3, sr3, h3⟩, fun F3 A3 W3 H3 S3 σ3 x3 => q2.nx F3 A3 W3 H3 S3 σ3 (x3.le hnm), fun F3 A3 W3 H3 S3 σ3 x3 r3 sr3 h3 => ⟨F3, A3, S3, W3, x12.trans hmA x3, r3, sr3, h3⟩, fun F3 A3 W3 H3 e v x3 => q2.rt F3 A3 W3 H3 e v (x3.le hnm)⟩
  ·have hie : i = ds.length := by omega
   subst hie;exact .inl ⟨wk.stop F' A' W' H' (x.le hmm) r' g, (q.ext hn (e1.ex1 hn)).nx F' A' W' H' S' σ' (x.le hnm) r' sr' (hd S' W' p)⟩
theorem zb37 {c : Expr} {body : List Stmt} {pos : Pos} (P : Sl -> Wl -> Prop) (μ : Sl -> Wl -> Nat) (hp : PassesOwn (model X.prog X.w) X.A X.env X.xe) (h0 : P S W)
  (hs : ∀ S' W', P S' W' -> BT X S' W' c fun b W1 => if b = true then BSs X n S' W1 body { D with nx := fun S2 W2 => P S2 W2 /\ μ S2 W2 < μ S' W', ct := fun S2 W2 => P S2 W2 /\ μ S2 W2 < μ S' W', bk := D.nx } else D.nx S' W1) :
  BS X n S W (.While c body [] pos) D :=
 .of (zb18 hp pt_U zS8) fun F A σ H E hn x0 r sr q => by
  refine ⟨fun m σ' H' => ∃ F' A' S' W', Ex1 n F A F' A' /\ RW X.K F' A' W' H' /\ SR X.K F' A' S' σ' /\ P S' W' /\ m = μ S' W', ⟨_, F, A, S, W, .refl hn, r, sr, h0, rfl⟩, ?_⟩;rintro m σ' H' ⟨F', A', S', W', x, r', sr', p, rfl⟩;refine (hs S' W' p).use (x0.ex1 hn x).am r' sr' fun F1 A1 W1 H1 b e1 r1 h1 => ?_;have x1 : Ex1 n F A F1 A1 := x.trans hn (e1.ex1 x.len);cases b with
  | true =>
   rw [if_pos rfl] at h1 ⊢;refine ⟨fun σ2 H2 => ∃ F2 A2 S2 W2, Ex1 n F A F2 A2 /\ RW X.K F2 A2 W2 H2 /\ SR X.K F2 A2 S2 σ2 /\ P S2 W2 /\ μ S2 W2 < μ S' W', fun σ2 H2 ⟨F2, A2, S2, W2, y, r2, sr2, p2, l⟩ => ⟨_, l, F2, A2, S2, W2, y, r2, sr2, p2, rfl⟩, ?_⟩;have q1 := q.ext hn x1;exact h1.use x1.len (x0.ex1 hn x1) r1 (sr'.ext e1) ⟨fun F3 A3 W3 H3 S3 σ3 x3 r3 sr3 h3 => ⟨F3, A3, S3, W3, x1.trans hn x3, r3, sr3, h3.1, h3.2⟩, q1.nx, fun F3 A3 W3 H3 S3 σ3 x3 r3 sr3 h3 => ⟨F3, A3, S3, W3, x1.trans hn x3, r3, sr3, h3.1, h3.2⟩, q1.rt⟩
  | false =>
   rw [if_neg (by decide)] at h1 ⊢;exact (q.ext hn x1).nx F1 A1 W1 H1 S' σ' (.refl x1.len) r1 (sr'.ext e1) h1
end
section
variable {X : Bc} {n : Nat} {S : Sl} {W : Wl} {D : DB} {k : KB} {tg iter elt : Expr} {ifs : List Expr} {O Fv : List Str} {cap : List Nat} {scope : Scope} {pos : Pos}
abbrev cxB (X : Bc) (N : List Str) (scope : Scope) (cl : List (Str × Addr)) (C : Addr) (ex : List Addr) (s : Shared) (H : Hp) : Bc := { X with toCx := zb8 X.toCx N scope cl C ex s H }
def zT1 (X : Bc) (N : List Str) (scope : Scope) (m : Nat) (tg : Expr) : TG := fun v σ H Q => ∃ t, (∀ cl C ex s H, PG (zb8 X N scope cl C ex s H) tg t) /\ Own m t /\ t v σ H Q
def tUTc (X : Bc) (N : List Str) (scope : Scope) (ifs : List Expr) : TT := fun σ H Q => ∃ t, (∀ cl C ex s H, PTs (zb8 X N scope cl C ex s H) ifs t) /\ t σ H Q
def zG1 (X : Bc) (N : List Str) (scope : Scope) (e : Expr) : TE := fun σ H Q => ∃ t, (∀ cl C ex s H, PE (zb8 X N scope cl C ex s H) e t) /\ t σ H Q
theorem zT2 {N : List Str} {m : Nat} : Own m (zT1 X N scope m tg) := fun x σ H Q ⟨t, h, o, q⟩ => ⟨t, h, o, o x σ H Q q⟩
def BEc (X : Bc) (N : List Str) (scope : Scope) (S : Sl) (W : Wl) (e : Expr) (k : KB) : Prop := ∀ cl C ex s H, BE (cxB X N scope cl C ex s H) S W e k
def BTc (X : Bc) (N : List Str) (scope : Scope) (S : Sl) (W : Wl) (ifs : List Expr) (k : TB) : Prop := ∀ F A σ H (Q : Bool -> Hp -> Prop), X.Am F A -> RW X.K F A W H -> SR X.K F A S σ -> (∀ F' A' W' H' b, Ext F A F' A' -> RW X.K F' A' W' H' -> k b W' -> Q b H') -> tUTc X N scope ifs σ H Q
def BGc (X : Bc) (N : List Str) (scope : Scope) (m : Nat) (S : Sl) (W : Wl) (tg : Expr) (e : El) (k : Sl -> Wl -> Prop) : Prop := ∀ F A σ H v (Q : St -> Hp -> Prop), RW X.K F A W H -> SR X.K F A S σ -> ElR X.K F A e v ->
 (∀ S' σ', SR X.K F A S' σ' -> k S' W -> Q σ' H) -> zT1 X N scope m tg v σ H Q
theorem za23 {N : List Str} {k : TB} (h : k true W) : BTc X N scope S W [] k := fun F A σ H Q x0 r sr q => ⟨_, fun _ _ _ _ _ => zc45, q F A W H true .refl r h⟩
theorem za24 {N : List Str} {c : Expr} {k : TB} (h : ∀ cl C ex s H, BT (cxB X N scope cl C ex s H) S W c k) : BTc X N scope S W [c] k := fun F A σ H Q x0 r sr q => ⟨tDT X S W k, fun cl C ex s H => zc46 (show PT _ c (tDT X S W k) from h cl C ex s H), F, A, x0, r, sr, q⟩
theorem zf0 {N : List Str} {m i : Nat} {x : Str} {p : Pos} {e : El} {k : Sl -> Wl -> Prop} (hN : N.Nodup) (hi : N[i]? = some x) (hm : i < m) (hx : ∀ cl C ex s H, Loc (zb8 X N scope cl C ex s H).env.scope x)
  (hf : ∀ cl C ex s H, (zb8 X N scope cl C ex s H).env.scope.names.lookup x = some .local) (h : k (S.set i (some e)) W) : BGc X N scope m S W (.Name x p) e k := fun F A σ H v Q r sr z q =>
 ⟨zn2 i, fun cl C ex s H => zt9 hN hi (hx cl C ex s H) (.inr (hf cl C ex s H)), zb27 hm, q _ _ (sr.set z i) h⟩
theorem za25 {m : Nat} : ∀ {is : List Nat}, (∀ i ∈ is, i < m) -> OwnS m (gNms is) /\ ∀ x σ H (Q Q' : St -> Hp -> Prop), (∀ σ H, Q σ H -> Q' σ H) -> gNms is x σ H Q -> gNms is x σ H Q'
 | [], _ => ⟨zc47, zb29⟩
 | i :: is, h => by
  obtain ⟨a, b⟩ := za25 (is := is) fun j hj => h j (by0 _ hj);exact ⟨zb28 (h i ay9) a b, za06 b⟩
theorem zc60 {N : List Str} {m : Nat} {es : List Expr} {is : List Nat} {c : Nat} {p : Pos} {ds : List PyData} {k : Sl -> Wl -> Prop} (hc : X.calm = true) (hm : ∀ cl C ex s H, Nms (cxB X N scope cl C ex s H) es is) (hi : ∀ i ∈ is, i < m) (hl : is.length = ds.length) (h : k (zs0 S is (zb2 ds)) W)
  (hn : ∀ cl C ex s H, (my1 es (zb8 X N scope cl C ex s H).env).length = is.length := by intro _ _ _ _ _; rfl) (hst : ∀ cl C ex s H, (my1 es (zb8 X N scope cl C ex s H).env).findIdx? (·.1) = none := by intro _ _ _ _ _; rfl) : BGc X N scope m S W (.Tuple es c p) (.d (.tuple ds)) k := fun F A σ H v Q r sr z q => by
  obtain ⟨a, vs, rfl, hs, pp⟩ := Rq.zg3 z;exact ⟨gTup X.K is.length (gNms is), fun cl C ex s H => zY4 hc (hm cl C ex s H).pgs (hn cl C ex s H) (hst cl C ex s H), zc48 (za25 hi).1, a, vs, rfl, r.sub.zr7 hs, by rw [<- zb1 pp, hl], zA4 (by rw [hl, zb1 pp]) (q _ _ (sr.zs0 (zf3 pp)) h)⟩
def zK6 (O : List Str) (cap : List Nat) (S : Sl) : Sl := O.map (fun _ => none) ++ cap.map (fun j => (S[j]?).getD none)
theorem SR.cmp {K : ay5} {F : Hp} {A : List Addr} {σ : St} (r : SR K F A S σ) : SR K F A (zK6 O cap S) (zc0 O cap σ) := by
 refine ⟨by simp [zK6, zc0], fun i e h => ?_⟩;unfold zK6 at h;unfold zc0
 by_cases hi : i < O.length
 ·rw [ay8 (by simpa using hi)] at h;simp [hi] at h
 ·rw [cy9 (by simpa using hi)] at h;rw [cy9 (by simpa using hi)];simp only [ay4, by3] at h ⊢;cases hj : cap[i - O.length]? with
  | none => rw [hj] at h; cases h
  | some j =>
   rw [hj] at h;simp only [xy3, Option.some.injEq] at h;cases hs : S[j]? with
   | none => rw [hs] at h; cases h
   | some o =>
    rw [hs] at h;simp only [Option.getD_some] at h;subst h;obtain ⟨v, h1, h2⟩ := r.get j e hs;exact ⟨v, by simp [h1], h2⟩
abbrev KC (X : Bc) (O Fv : List Str) (cap : List Nat) (scope : Scope) (S : Sl) (tg elt : Expr) (ifs : List Expr) (k : List PyData -> Wl -> Prop) : Nat -> (Wl -> Prop) -> List PyData -> Wl -> Prop := fun m G ds W1 => ∃ P : Nat -> List PyData -> Wl -> Prop,
 P 0 [] W1 /\ (∀ i ys W', i <= ds.length -> P i ys W' -> G W' /\ ys.length <= by2) /\
  (∀ i d ys W', ds[i]? = some d -> P i ys W' -> BGc X (O ++ Fv) scope O.length (zK6 O cap S) W' tg (.d d) fun S2 W2 => BTc X (O ++ Fv) scope S2 W2 ifs fun b W3 =>
   if b = true then BEc X (O ++ Fv) scope S2 W3 elt fun y W4 => ∃ dy, y = .d dy /\ P (i + 1) (ys ++ [dy]) W4 else P (i + 1) ys W3) /\
  ∀ ys W', P ds.length ys W' -> k ys W'
theorem zG2 {F : Hp} {A : List Addr} {σ : St} {H : Hp} {Q : VK} {k : List PyData -> Wl -> Prop} (h : BI X S W tg iter (KC X O Fv cap scope S tg elt ifs k)) (x0 : X.Am F A) (r : RW X.K F A W H) (sr : SR X.K F A S σ)
  (q : ∀ F' A' W' H' ys vs p, Ext F A F' A' -> RW X.K F' A' W' H' -> Paired (fun d v => Rq X.K F' v d) ys vs -> H' p = none -> k ys W' -> Q (.ref p) (upd H' p (.lst vs))) :
  zS4 (tUI X tg iter) O cap (zT1 X (O ++ Fv) scope O.length tg) (tUTc X (O ++ Fv) scope ifs) (zG1 X (O ++ Fv) scope elt) σ H Q :=
 h F A σ H _ x0 r sr fun m G F1 A1 W1 H1 ds J e1 r1 hm1 wk zR => by
  obtain ⟨P, p0, hG, hs, hd⟩ := zR;refine ⟨fun i μ ys H' => μ = ds.length - i /\ i <= ds.length /\ ∃ F' A' W' yd, Ext F1 A1 F' A' /\ RW X.K F' A' W' H' /\ Paired (fun d v => Rq X.K F' v d) yd ys /\ P i yd W', ⟨ds.length, by simp, dy5 _, F1, A1, W1, [], .refl, r1, .nil, p0⟩, ?_⟩;rintro i μ ys H' ⟨rfl, hi, F', A', W', yd, x, r', z', p⟩;obtain ⟨g, hz⟩ := hG i yd W' hi p;refine ⟨by rw [<- zb1 z']; exact hz, ?_⟩
  by_cases hlt : i < ds.length
  ·refine .inr ⟨wk.go i F' A' W' H' hlt (x.ex1 hm1) r' g, fun ys2 H2 => ∃ F2 A2 W2 yd2, Ext F1 A1 F2 A2 /\ RW X.K F2 A2 W2 H2 /\ Paired (fun d v => Rq X.K F2 v d) yd2 ys2 /\ P (i + 1) yd2 W2, fun ys2 H2 p2 => ⟨ds.length - (i + 1), by omega, rfl, hlt, p2⟩, fun v H'' hy => ?_⟩;obtain ⟨rfl, d, hd', zd⟩ := wk.yld i F' A' W' H' v H'' hlt (x.ex1 hm1) r' g hy;have srx := sr.ext (e1.trans x);refine hs i d yd W' hd' p F' A' (zc0 O cap σ) H'' v _ r' srx.cmp zd fun S2 σ2 sr2 h2 => ?_;refine h2 F' A' σ2 H'' _ (x0.trans (e1.trans x)) r' sr2 fun F3 A3 W3 H3 b e3 r3 h3 => ?_;cases b with
   | true =>
    rw [if_pos rfl] at h3 ⊢;refine ⟨tD X S2 W3 _, fun cl C ex s H => h3 cl C ex s H, F3, A3, (x0.trans (e1.trans x)).trans e3, r3, sr2.ext e3, fun F4 A4 W4 H4 y vy e4 r4 z4 ⟨dy, hy, h4⟩ => ?_⟩;subst hy;exact ⟨F4, A4, W4, yd ++ [dy], (x.trans e3).trans e4, r4, zo5 (zd6 (fun _ _ t => Rq.same (e3.trans e4).same _ t) z') (.cons z4 .nil), h4⟩
   | false =>
    rw [if_neg (by decide)] at h3 ⊢;exact ⟨F3, A3, W3, yd, x.trans e3, r3, zd6 (fun _ _ t => Rq.same e3.same _ t) z', h3⟩
  ·have hie : i = ds.length := by omega
   subst hie;exact .inl ⟨wk.stop F' A' W' H' (x.ex1 hm1) r' g, fun l hl => q F' A' W' H' yd ys l (e1.trans x) r' z' hl (hd yd W' p)⟩
theorem zO1 {m : Nat} {G : Wl -> Prop} {ds : List PyData} {W1 : Wl} {k : List PyData -> Wl -> Prop} (f : PyData -> PyData) (hG : G W1) (hl : ds.length <= by2)
  (h : ∀ d ∈ ds, BGc X (O ++ Fv) scope O.length (zK6 O cap S) W1 tg (.d d) fun S2 W2 => BEc X (O ++ Fv) scope S2 W2 elt fun y W4 => y = .d (f d) /\ W4 = W1) (hk : k (ds.map f) W1) : KC X O Fv cap scope S tg elt [] k m G ds W1 := by
 refine ⟨fun i ys W' => W' = W1 /\ ys = (ds.take i).map f, ⟨rfl, rfl⟩, fun i ys W' hi p => ?_, fun i d ys W' hd p => ?_, fun ys W' p => ?_⟩
 ·rw [p.1, p.2];exact ⟨hG, by rw [ay4, dy2]; omega⟩
 ·obtain ⟨rfl, rfl⟩ := p;refine fun F A σ H v Q r sr z q => h d (cy5 hd) F A σ H v Q r sr z fun S' σ' sr' hh => q S' σ' sr' (za23 ?_);rw [if_pos rfl];refine fun cl C ex s H => (hh cl C ex s H).mono fun y W4 hy => ⟨f d, hy.1, hy.2, ?_⟩
  rw [ey8, hd];simp
 ·rw [p.1, p.2, gy7];exact hk
theorem zl4 {m : Nat} {G : Wl -> Prop} {ds : List PyData} {W1 : Wl} {k : List PyData -> Wl -> Prop} {c : Expr} (p : PyData -> Bool) (f : PyData -> PyData) (hG : G W1) (hl : ds.length <= by2)
  (h : ∀ d ∈ ds, BGc X (O ++ Fv) scope O.length (zK6 O cap S) W1 tg (.d d) fun S2 W2 => (∀ cl C ex s H, BT (cxB X (O ++ Fv) scope cl C ex s H) S2 W2 c fun b W3 => b = p d /\ W3 = W1) /\ (p d = true -> BEc X (O ++ Fv) scope S2 W2 elt fun y W4 => y = .d (f d) /\ W4 = W1)) (hk : k ((ds.filter p).map f) W1) : KC X O Fv cap scope S tg elt [c] k m G ds W1 := by
 refine ⟨fun i ys W' => W' = W1 /\ ys = ((ds.take i).filter p).map f, ⟨rfl, rfl⟩, fun i ys W' hi q => ?_, fun i d ys W' hd q => ?_, fun ys W' q => ?_⟩
 ·rw [q.1, q.2];refine ⟨hG, ?_⟩;rw [ay4];have := ny6 p (ds.take i);rw [dy2] at this;omega
 ·obtain ⟨rfl, rfl⟩ := q;refine fun F A σ H v Q r sr z q => h d (cy5 hd) F A σ H v Q r sr z fun S' σ' sr' hh => q S' σ' sr' (za24 fun cl C ex s H => ?_);refine BT.mono (hh.1 cl C ex s H) fun b W3 hb => ?_;obtain ⟨rfl, rfl⟩ := hb
  by_cases e : p d = true
  ·rw [if_pos e];refine fun cl C ex s H => (hh.2 e cl C ex s H).mono fun y W4 hy => ⟨f d, hy.1, hy.2, ?_⟩
   rw [ey8, hd, qy6, fy3];simp [e]
  ·rw [if_neg e];refine ⟨rfl, ?_⟩;rw [ey8, hd, qy6, fy3];simp [e]
 ·rw [q.1, q.2, gy7];exact hk
theorem zn4 (hc : X.calm = true) (cs : zb4 X.N X.env.scope O Fv cap scope) (h : BI X S W tg iter (KC X O Fv cap scope S tg elt ifs fun ys W' => k (.d (.list ys)) W'))
  (hs : ∀ x, ey1 iter X.env x = pure x := by intro _; rfl) : BE X S W (.ListComp elt [⟨tg, iter, ifs, 0⟩] scope pos) k :=
 .of (zK0 (g := zT1 X (O ++ Fv) scope O.length tg) (tt := tUTc X (O ++ Fv) scope ifs) (te := zG1 X (O ++ Fv) scope elt) hc cs pi_U (fun cl C ex s H => fun pins s' σ' H' v u Q I r ⟨t, h, _, q⟩ => h cl C ex s H pins s' σ' H' v u Q I r q) (fun cl C ex s H => fun pins s' σ' H' Q I ⟨t, h, q⟩ => h cl C ex s H pins s' σ' H' Q I q)
  (fun cl C ex s H => fun pins s' σ' H' Q I ⟨t, h, q⟩ => h cl C ex s H pins s' σ' H' Q I q) zT2 hs) fun F A σ H Q x0 r sr q => zG2 h x0 r sr fun F' A' W' H' ys vs p x r' z hp hk => (q.ext x).newL r' hp z hk
theorem za26 {i : Nat} {x : Str} {pos' spos : Pos} (hN : X.N.Nodup) (hix : X.N[i]? = some x) (hx : Loc X.env.scope x) (hc : X.calm = true) (cs : zb4 X.N X.env.scope O Fv cap scope) (h : BI X S W tg iter (KC X O Fv cap scope S tg elt ifs fun ys W' => D.nx (S.set i (some (.d (.list ys)))) W'))
  (hsw : swapsWith (.ListComp elt [⟨tg, iter, ifs, 0⟩] scope pos) (some (.Name x pos')) spos.line X.env = pure true := by rfl) (hs : ∀ x, ey1 iter X.env x = pure x := by intro _; rfl)
  (hf : X.fn x = true \/ X.env.scope.names.lookup x = some .local := by first | exact .inl rfl | exact .inr rfl | assumption) : BS X n S W (.Assign [.Name x pos'] (.ListComp elt [⟨tg, iter, ifs, 0⟩] scope pos) spos) D :=
 .of (zc49 (g := zT1 X (O ++ Fv) scope O.length tg) (tt := tUTc X (O ++ Fv) scope ifs) (te := zG1 X (O ++ Fv) scope elt) hN hix hx hc cs pi_U (fun cl C ex s H => fun pins s' σ' H' v u Q I r ⟨t, h, _, q⟩ => h cl C ex s H pins s' σ' H' v u Q I r q) (fun cl C ex s H => fun pins s' σ' H' Q I ⟨t, h, q⟩ => h cl C ex s H pins s' σ' H' Q I q)
  (fun cl C ex s H => fun pins s' σ' H' Q I ⟨t, h, q⟩ => h cl C ex s H pins s' σ' H' Q I q) zT2 hsw hs hf) fun F A σ H E hn x0 r sr q => zG2 h x0.am r sr fun F' A' W' H' ys vs p x r' z hp hk => by
   obtain ⟨r2, y⟩ := r'.newF hp (.lst vs);exact q.nx _ _ _ _ _ _ ((x.trans y).ex1 hn) r2 ((sr.ext (x.trans y)).set (.dd (Rq.lst (.inl zb3) (Rqs.of (zd6 (fun _ _ t => Rq.same y.same _ t) z)))) i) hk
end
def zG3 (N : List Str) (es : List El) : Sl := es.map some ++ List.replicate (N.length - es.length) none
theorem SR.start {K : ay5} {F : Hp} {A : List Addr} {N : List Str} {es : List El} {vs : List V} (p : Paired (ElR K F A) es vs) : SR K F A (zG3 N es) (start N vs) := by
 have hl := zb1 p;refine ⟨by simp [zG3, L2.start, hl], fun i e h => ?_⟩;unfold zG3 at h;unfold L2.start
 by_cases hi : i < es.length
 ·rw [ay8 (by simpa using hi), by3] at h;rw [ay8 (by rw [ay4, <- hl]; exact hi), by3];cases q : es[i]? with
  | none => rw [q] at h; cases h
  | some e' =>
   rw [q] at h;cases h;obtain ⟨v, h1, h2⟩ := zh3 p q;exact ⟨v, by rw [h1]; rfl, h2⟩
 ·rw [cy9 (by simpa using hi), List.getElem?_replicate] at h
  split at h <;> cases h
def closed (W : Wl) : Prop := ∀ o ∈ W, o.below W.length
theorem RW.closed {K : ay5} {F : Hp} {A : List Addr} {W : Wl} {H : Hp} (r : RW K F A W H) : closed W := fun o ho => by
 have el : ∀ {e : El} {v : V}, ElR K F A e v -> e.below W.length := fun {e v} z => by
  cases e with
  | d x => trivial
  | s ns => trivial
  | x C => trivial
  | p ks => trivial
  | t xs =>
   obtain ⟨a, vs, _, _, p⟩ := z;intro k hk;obtain ⟨i, hi⟩ := gy1.mp hk;obtain ⟨v, _, b, hb, _⟩ := zh3 p hi;rw [<- r.len];exact (ay3.mp hb).1
  | o k =>
   obtain ⟨a, ha, _⟩ := z;show k < W.length;rw [<- r.len];exact (ay3.mp ha).1
 obtain ⟨k, hk⟩ := gy1.mp ho;have hl : k < A.length := by rw [r.len]; exact (ay3.mp hk).1
 obtain ⟨u, _, q⟩ := r.obj k A[k] o (by simp [hl]) hk;cases o with
 | lst es =>
  obtain ⟨vs, _, p⟩ := q;intro e he;obtain ⟨i, hi⟩ := gy1.mp he;obtain ⟨v, _, z⟩ := zh3 p hi;exact el z
 | dK es =>
  obtain ⟨vs, _, p⟩ := q;intro e he;obtain ⟨i, hi⟩ := gy1.mp he;obtain ⟨v, _, z⟩ := zh3 p hi;exact el z.2
 | dT es =>
  obtain ⟨vs, _, p⟩ := q;intro e he;obtain ⟨i, hi⟩ := gy1.mp he;obtain ⟨v, _, z⟩ := zh3 p hi;exact el z.2
 | fT _ es =>
  obtain ⟨vs, _, p⟩ := q;intro e he;obtain ⟨i, hi⟩ := gy1.mp he;obtain ⟨v, _, z⟩ := zh3 p hi;exact el z.2
 | fK _ es =>
  obtain ⟨vs, _, p⟩ := q;intro e he;obtain ⟨i, hi⟩ := gy1.mp he;obtain ⟨v, _, z⟩ := zh3 p hi;exact el z.2
theorem closed.take {W V : Wl} (h : closed W) : ∀ o ∈ (W ++ V).take W.length, o.below W.length := by
 rw [List.take_left];exact h
theorem closed.set {W : Wl} (h : closed W) (j : Nat) {o : OD} (ho : o.below W.length) : closed (W.set j o) := fun u hu => by
 rw [gy9];rcases List.mem_or_eq_of_mem_set hu with hu | rfl
 ·exact h u hu
 ·exact ho
section
variable {X : Bc} {n : Nat} {S : Sl} {W : Wl} {D : DB}
theorem zh4 {e : Expr} {pos : Pos} (h : BE X S W e fun y W2 => ∃ d W0 V, y = .d d /\ W2 = W0 ++ V /\ n = W0.length /\ closed W0 /\ D.rt (.d d) W0) : BS X n S W (.Return (some e) pos) D :=
 zK4 n (ay6 _) (h.mono fun y W2 zR => by
  obtain ⟨d, W0, V, e1, e2, e3, hc, hk⟩ := zR;subst e1 e2 e3
  exact ⟨trivial, hc.take, by rw [List.take_left]; exact hk⟩)
theorem zb38 {e : Expr} {pos : Pos} (h : BE X S W e fun y W2 => ∃ ds W0 V, y = .o W0.length /\ W2 = W0 ++ .lst (zb2 ds) :: V /\ n = W0.length /\ closed W0 /\ D.rt (.d (.list ds)) W0) : BS X n S W (.Return (some e) pos) D :=
 zS9 (h.mono fun y W2 zR => by
  obtain ⟨ds, W0, V, e1, e2, e3, hc, hk⟩ := zR;subst e1 e2 e3
  exact ⟨_, ds, rfl, ay6 _, by simp, hc.take, by rw [List.take_left]; exact hk⟩)
end
theorem zs5 {P : cy8} {w : World} {K : ay5} {mg : Str -> Option Value} {base : Heap} {x qual : Str} {st : Stmt} {f : Addr} {fd : fy7} {N ps : List Str} {j : Nat} {R : RB} (F : Fun K x qual st f fd) (S : zc1 N ps (za0 st)) (len : ∀ es W k, R es W k -> es.length = ps.length)
  (hbody : ∀ (cdv : Value) (A : Around) (outer : List Env) (s : Shared) (H : Hp) (E : XK), zz2 j (A.deeper (envOfC qual (za0 st) s.heap.objs.size f cdv)) -> ∀ (F0 : Hp) (A0 : List Addr) es W k, closed W -> R es W k ->
   BSs ⟨(cxOf CX0 P w K mg base N qual (za0 st) f cdv A outer s H E).nox, F0, A0, fun _ _ _ => False⟩ W.length (zG3 N es) W (za8 st) { nx := fun _ W' => k (.d .none) W', rt := k }) : zj9 P w K mg base CX0 (j + 1) f fd ps (spB K R) :=
 F.ok S (fun vs H Q E ⟨Fh, A, W, es, k, r, p, h, q⟩ => by rw [<- zb1 p]; exact len es W k h) fun cdv A outer s H vs Q E hr zR => by
  obtain ⟨Fh, Ad, W, es, k, r, p, h, q⟩ := zR;refine ⟨_, hbody cdv A outer s H E hr Fh Ad es W k r.closed h, Fh, Ad, by rw [r.len]; exact ay6 _, ⟨.refl, by rw [r.len]; exact ay6 _⟩, r, .start p, ?_⟩;have ext : ∀ {F' A'}, Ex1 W.length Fh Ad F' A' -> Ext Fh Ad F' A' := fun y => ⟨y.same, by have := y.pre; rw [<- r.len, gy7] at this; exact this⟩
  exact ⟨fun F' A' W' H' S' σ' y r' sr' h' => q F' A' W' H' _ _ (ext y) r' (.dd Rq.non) h', fun _ _ _ _ _ _ _ _ _ h => h.elim, fun _ _ _ _ _ _ _ _ _ h => h.elim, fun F' A' W' H' e v y r' z h' => q F' A' W' H' e v (ext y) r' z h'⟩
section
variable {X : Bc} {n : Nat} {S : Sl} {W : Wl} {k : KB} {D : DB}
theorem bv (i : Nat) {x : Str} {pos : Pos} {e : El} (hs : S[i]? = some (some e)) (h : k e W) (hN : X.N[i]? = some x := by rfl) (hv : Vis X.env.scope x := by first | exact Or.inl rfl | exact Or.inr (Or.inl rfl) | exact Or.inr (Or.inr rfl)) (hd : (x == ("__debug__" : Str)) = false := by decide)
  (hcd : (x == ("__classdict__" : Str)) = false := by decide) : BE X S W (.Name x pos) k := zd54 hN hv hs h hd hcd
theorem gS {x c : Str} {t : Tok} {pos : Pos} (hm : X.mg x = some (.str c t)) (h : k (.d (.str c)) W) (hg : Gl X x := by rfl) (hd : (x == ("__debug__" : Str)) = false := by decide) : BE X S W (.Name x pos) k := zK1 (v := .str c) hg hm ⟨t, rfl⟩ (fun _ => .str c) h hd
theorem gI {x : Str} {c : Int} {t : Tok} {pos : Pos} (hm : X.mg x = some (.int c t)) (h : k (.d (.int c)) W) (hg : Gl X x := by rfl) (hd : (x == ("__debug__" : Str)) = false := by decide) : BE X S W (.Name x pos) k := zK1 (v := .int c) hg hm ⟨t, rfl⟩ (fun _ => .int c) h hd
theorem zb39 {a b c : Expr} {op op' : CmpOp} {pos : Pos} {k : TB}
  (h : BE X S W a fun x W1 => BE X S W1 b fun y W2 => OB X (hy5 op) x y W2 fun z W3 => ∃ t, z = .d (.bool t) /\ if t = true then BE X S W3 c fun u W4 => OB X (hy5 op') y u W4 fun z W5 => ∃ t, z = .d (.bool t) /\ k t W5 else k false W3)
  (hm : lastMarks [op, op'] [b, c] = false := by with_unfolding_all rfl) : BT X S W (.Compare a [op, op'] [b, c] pos) k :=
 .of (zb20 op_U op_U zh8 zh8 zh8 hm) fun F A σ H Q x0 r sr q =>
  h.use x0 r sr fun F1 A1 W1 H1 x vx e1 r1 z1 h1 => h1.use (x0.trans e1) r1 (sr.ext e1) fun F2 A2 W2 H2 y vy e2 r2 z2 h2 => h2 F2 A2 H2 _ vx vy r2 (z1.ext e2) z2 fun F3 A3 W3 H3 z vz e3 r3 z3 zR => by
   obtain ⟨t, ht, h3⟩ := zR;subst ht;obtain rfl := Rq.zz9 z3;refine ⟨t, rfl, ?_⟩;have x3 := (e1.trans e2).trans e3;cases t with
   | true =>
    rw [if_pos rfl] at h3 ⊢
    exact h3.use (x0.trans x3) r3 (sr.ext x3) fun F4 A4 W4 H4 u vu e4 r4 z4 h4 => h4 F4 A4 H4 _ vy vu r4 (z2.ext (e3.trans e4)) z4 fun F5 A5 W5 H5 z vz e5 r5 z5 zR => by
     obtain ⟨t, ht, h5⟩ := zR;subst ht;obtain rfl := Rq.zz9 z5;exact ⟨t, rfl, q F5 A5 W5 H5 t ((x3.trans e4).trans e5) r5 h5⟩
   | false =>
    rw [if_neg (by decide)] at h3 ⊢;exact ⟨false, rfl, q F3 A3 W3 H3 false x3 r3 h3⟩
def truD : PyData -> Bool
 | .none => false | .bool b => b | .int i => i != 0 | .str y => (y.length : Int) != 0 | .list xs => !xs.isEmpty | .tuple xs => !xs.isEmpty | .dict xs => !xs.isEmpty
theorem zc12 {e : Expr} {k : TB} (h : BE X S W e fun x W1 => ∃ d, dat W1 x d /\ (∀ y, d = .str y -> y.length <= by2) /\ k (truD d) W1) (he : ∀ whole, isTrue e X.env whole = (do let v <- whole; standAt e.pos; holding [v] (truthy v)) := by intro _; rfl) : BT X S W e k :=
 .of (zb21 zh8 he) fun F A σ H Q x0 r sr q => h.use x0 r sr fun F1 A1 W1 H1 x vx e1 r1 z1 zR => by
  obtain ⟨d, hd, hy, h1⟩ := zR;refine ⟨truD d, ?_, q F1 A1 W1 H1 _ e1 r1 h1⟩;have z := r1.dat z1 hd;cases z with
  | non => rfl
  | bl b => rfl
  | int i => rfl
  | str y => exact ⟨hy y rfl, rfl⟩
  | @lst a vs ds hs t => exact .inl ⟨vs, .inl hs, by have := zb1 t.pd; cases vs <;> cases ds <;> simp_all [truD]⟩
  | @tup a vs ds hs t => exact .inr (.inl ⟨vs, hs, by have := zb1 t.pd; cases vs <;> cases ds <;> simp_all [truD]⟩)
  | dct hs => exact .inr (.inr ⟨[], hs, rfl⟩)
theorem zO2 {K : ay5} {F : Hp} : ∀ {xs : List Int}, Paired (fun d v => Rq K F v d) (xs.map PyData.int) (xs.map V.int)
 | [] => .nil
 | x :: xs => .cons (Rq.int x) zO2
theorem za27 {ns : List Int} {lo hi : Option Int} (h : k (.d (.list ((zm7 ns lo hi).map .int))) W) : LB X (.s ns) lo hi W k := .of zJ7 fun F A H Q vx r zx q => by
 obtain ⟨a, rfl, hs⟩ := zx;have e : zJ6 (ns.map V.int) lo hi = (zm7 ns lo hi).map V.int := by unfold zJ6 zm7; rw [ay4, vy7, List.map_drop]
 refine ⟨a, _, rfl, r.sub.seq hs, fun p hp => ?_⟩;rw [e];exact q.newL r hp zO2 h
end
end L2
namespace L2
end L2
namespace L2
open PySem PySem.Spec PyProof.Rows
theorem zb6.at {P : cy8} {w : World} {H : Hp} {h : Heap} {a : Addr} {o : HO} (x : zb6 P w H h a o) : ∃ ob, h.get? a = some ob := by
 cases o with
 | lst xs => obtain ⟨_, _, _, _, e⟩ := x; exact ⟨_, e⟩
 | tup xs => obtain ⟨_, _, _, o, e, _⟩ := x; exact ⟨_, e⟩
 | dK kvs => obtain ⟨_, _, _, _, o, _, _, e, _⟩ := x; exact ⟨_, e⟩
 | dT kvs => obtain ⟨_, _, _, _, o, _, _, e, _⟩ := x; exact ⟨_, e⟩
 | set S n => obtain ⟨o, _, _, _, e, _⟩ := x; exact ⟨_, e⟩
 | ins C dx fs => obtain ⟨_, _, _, e, _⟩ := x; exact ⟨_, e⟩
 | own y => obtain ⟨_, e⟩ := x; exact ⟨_, e⟩
 | xd fs => obtain ⟨_, ⟨_, _, _, e, _⟩, _⟩ := x; exact ⟨_, e⟩
 | rng lo hi => obtain ⟨_, _, _, e⟩ := x; exact ⟨_, e⟩
 | frz ob u => obtain ⟨e, _⟩ := x; exact ⟨_, e⟩
 | tbl ps => exact ⟨_, show h.get? a = some _ from x⟩
 | met f y => exact ⟨_, show h.get? a = some _ from x⟩
 | ext φ => obtain ⟨_, ⟨_, e⟩, _⟩ := x; exact ⟨_, e⟩
section
variable {P : cy8} {w : World} {B h0 h h'' : Heap} {fr : List Addr} {H H' : Hp}
end
section
variable {M : Model} {A : Around} {E : Value -> Shared -> Prop} {s : Shared} {B : Heap} {env : Env} {outer : List Env} {L e : Addr} {cls : Value} {Q : Unit -> Shared -> Prop}
end
section
variable {X : Cx} {C : Addr} {H' : Hp} {σ : St} {e : Value} {s' : Shared}
end
section
variable {X : Bc} {n : Nat} {S : Sl} {W : Wl} {k : KB} {D : DB}
end
section
variable {X : Cx} {pins : List (Addr × Obj)} {σ : St} {H : Hp} {s : Shared} {xe : Value -> Shared -> Prop} {ea : Addr}
end
section
variable {X : Bc} {n : Nat} {S : Sl} {W : Wl} {D : DB}
end
end L2
namespace K1
open PySem L2
def LET : Str := "abcdefghijklmnopqrstuvwxyz"
def isNm (x : Str) : Bool := (decide (1 <= x.length) && decide (x.length <= 8)) && x.cps.toList.all fun c => decide (97 <= c) && decide (c <= 122)
theorem zK7 : LET.length = 26 := by decide +kernel
theorem zA6 (i : Nat) (h : i < 26) : LET.cps[i]? = some (97 + i) := by
 have : ∀ j : Fin 26, LET.cps[j.1]? = some (97 + j.1) := by decide +kernel
 exact this ⟨i, h⟩
theorem zd68 (c : Nat) : (!(xy1 LET ⟨#[c]⟩ 0 LET.length 1).isEmpty) = (decide (97 <= c) && decide (c <= 122)) := by
 have sub1 : ∀ i, Builtin.Str.subAt LET ⟨#[c]⟩ i = true ↔ LET.cps[i]? = some c := fun i => by
  unfold Builtin.Str.subAt;show (LET.cps.extract i (i + 1) == #[c]) = true ↔ _;rw [beq_iff_eq];have hs : LET.cps.size = 26 := zK7
  by_cases hi : i < 26
  ·rw [zA6 i hi]
   have : LET.cps.extract i (i + 1) = #[97 + i] := by
    apply Array.ext
    ·simp [hs]; omega
    ·intro j h1 h2;have hj : j = 0 := by simp at h2; omega
     subst hj;have := zA6 i hi;rw [Array.getElem_extract];simp;rw [ry3 (by omega)] at this;simpa using this
   rw [this];simp
  ·constructor
   ·intro e;have := congrArg Array.size e;simp [hs] at this;omega
   ·intro e;rw [my6 (by omega)] at e;cases e
 rcases PySem.StrLaws.occ_head LET ⟨#[c]⟩ 1 (ay6 _) with ⟨h0, hn⟩ | ⟨i, r, h0, hi, _⟩
 ·rw [h0]
  by_cases hc : 97 <= c /\ c <= 122
  ·exfalso;refine hn (c - 97) ⟨?_, (sub1 _).mpr ?_⟩
   ·rw [zK7]; show c - 97 + 1 <= 26; omega
   ·rw [zA6 _ (by omega)]; congr 1; omega
  ·have : (decide (97 <= c) && decide (c <= 122)) = false := by
    by_cases h1 : 97 <= c
    ·have : ¬ c <= 122 := fun h2 => hc ⟨h1, h2⟩;simp [this]
    ·simp [h1]
   rw [this];rfl
 ·rw [h0];have e := (sub1 i).mp hi.2
  have hlt : i < 26 := by
   have := hi.1;rw [zK7] at this;have : i + 1 <= 26 := this;omega
  rw [zA6 i hlt] at e;have e : 97 + i = c := jy2 e;have h1 : 97 <= c := by omega
  have h2 : c <= 122 := by omega
  simp [h1, h2]
abbrev cs (x : Str) : List Nat := x.cps.toList
theorem zc13 (x : Str) : (cs x).length = x.length := iy4
theorem zc14 {x : Str} : isNm x = true ↔ 1 <= (cs x).length /\ (cs x).length <= 8 /\ ∀ c ∈ cs x, 97 <= c /\ c <= 122 := by
 unfold isNm;rw [<- zc13];show ((decide (1 <= (cs x).length) && decide ((cs x).length <= 8)) && (cs x).all fun c => decide (97 <= c) && decide (c <= 122)) = true ↔ _;generalize cs x = l;simp [and_assoc]
structure za6 where
 tk : Bool
 x : Str
 y : Str
 w : Str
 deriving DecidableEq
def za6.kd (d : za6) : Str := if d.tk then "take" else "send"
structure za6.Ok (d : za6) : Prop where
 x : isNm d.x = true
 y : isNm d.y = true
 w : isNm d.w = true
 ne : d.x ≠ d.y
theorem kd_len (d : za6) : d.kd.length = 4 := by
 unfold za6.kd
 split <;> decide
theorem zd69 (d : za6) : d.kd = "send" \/ d.kd = "take" := by
 unfold za6.kd
 split
 ·exact .inr rfl
 ·exact .inl rfl
theorem zd70 {d e : za6} (h : d.kd = e.kd) : d.tk = e.tk := by
 unfold za6.kd at h;have : ("take" : Str) ≠ "send" := by decide +kernel
 cases hd : d.tk <;> cases he : e.tk <;> simp only [hd, he] at h ⊢ <;> first | rfl | exact absurd h this | exact absurd h.symm this
def dP (d : za6) : PyData := .tuple [.str d.kd, .str d.x, .str d.y, .str d.w]
def rP (ds : List za6) : PyData := .tuple (ds.map dP)
theorem za28 {x : Str} (h : isNm x = true) : x.length <= 8 := by
 obtain ⟨_, h2, _⟩ := zc14.mp h;rw [zc13] at h2;exact h2
theorem zi5 {x : Str} (h : isNm x = true) : uy9 x = true := by
 have h3 := (zc14.mp h).2.2;show x.cps.all (· < 0x110000) = true;rw [Array.all_eq_true_iff_forall_mem];intro c hc;have := h3 c (by simpa using hc);simp;omega
theorem zb40 (d : za6) : uy9 d.kd = true := by
 rcases zd69 d with h | h <;> rw [h] <;> decide +kernel
theorem ze61 {d : za6} (h : d.Ok) : (dP d).canLay0 = true /\ (dP d).depth <= 2 := by
 constructor
 ·simp [dP, ry2, py3, zi5 h.x, zi5 h.y, zi5 h.w, zb40]
 ·simp [dP, PyData.depth, sy1]
theorem za29 : ∀ {ds : List za6}, (∀ d ∈ ds, d.Ok) -> py3 (ds.map dP) = true /\ sy1 (ds.map dP) <= 2
 | [], _ => ⟨rfl, by simp [sy1]⟩
 | d :: ds, h => by
  obtain ⟨h1, h2⟩ := ze61 (h d ay9);obtain ⟨h3, h4⟩ := za29 fun e he => h e (by0 _ he);constructor
  ·simp [py3, h1, h3]
  ·simp only [ey6, sy1];omega
theorem zT3 {ds : List za6} (h : ∀ d ∈ ds, d.Ok) : Dat (rP ds) := by
 obtain ⟨h1, h2⟩ := za29 h;constructor
 ·simp [rP, ry2, h1]
 ·simp only [rP, PyData.depth];omega
theorem ze62 (d e : za6) : py4 (dP d) (dP e) = decide (d = e) := by
 obtain ⟨dt, dx, dy, dw⟩ := d;obtain ⟨et, ex, ey, ew⟩ := e;simp only [dP, py4, ny4, Bool.and_true];rw [ry8];simp only [ty6, beq_iff_eq, decide_eq_true_eq, za6.mk.injEq];constructor
 ·rintro ⟨h1, h2, h3, h4⟩;exact ⟨zd70 (d := ⟨dt, dx, dy, dw⟩) (e := ⟨et, ex, ey, ew⟩) h1, h2, h3, h4⟩
 ·rintro ⟨rfl, rfl, rfl, rfl⟩;exact ⟨rfl, rfl, rfl, rfl⟩
theorem zc15 : ∀ (ds es : List za6), ny4 (ds.map dP) (es.map dP) = decide (ds = es)
 | [], [] => by simp [ny4]
 | [], _ :: _ => by simp [ny4]
 | _ :: _, [] => by simp [ny4]
 | d :: ds, e :: es => by
  simp only [ey6, ny4, ze62, zc15 ds es];rw [ry8];simp
theorem ze63 (ds es : List za6) : py4 (rP ds) (rP es) = decide (ds = es) := by
 simp only [rP, py4, zc15]
theorem zt1 {α : Type} (xs : List α) (k : Nat) : zm7 xs (some (k : Int)) none = xs.drop k := by
 unfold zm7;have e1 : HT.sIx xs.length 0 (some (k : Int)) = min k xs.length := HT.zZ7 xs.length 0 k;have e2 : HT.sIx xs.length xs.length none = xs.length := rfl;rw [e1, e2]
 by_cases h : k <= xs.length
 ·rw [py7 h, my7 (by rw [List.length_drop]; exact ay6 _)]
 ·rw [List.drop_eq_nil_of_le (show xs.length <= k by omega), List.drop_eq_nil_of_le (by omega)];simp
theorem zp0 {α : Type} (xs : List α) (k : Nat) : zm7 xs none (some (k : Int)) = xs.take k := by
 unfold zm7;have e1 : HT.sIx xs.length 0 none = 0 := rfl;have e2 : HT.sIx xs.length xs.length (some (k : Int)) = min k xs.length := HT.zZ7 xs.length xs.length k;rw [e1, e2, List.drop_zero, Nat.sub_zero]
 by_cases h : k <= xs.length
 ·rw [py7 h]
 ·rw [my7 (by omega), my7 (by omega)]
theorem zh5 {α : Type} {xs : List α} {k : Nat} {x : α} (h : xs[k]? = some x) : atI xs (k : Int) = some x := by
 have hk := (ay3.mp h).1;unfold atI ixN;rw [if_pos (by omega), if_pos (by omega)];simpa using h
theorem zT4 {hs : List Str} {x : Str} (hl : 2 <= hs.length) (hn : hs.Nodup) : 0 < (hs.filter fun z => decide (z ≠ x)).length := by
 match hs, hl with
 | a :: b :: r, _ =>
  apply List.length_pos_of_mem (a := if a = x then b else a);rw [gy5]
  by_cases e : a = x
  ·rw [if_pos e];refine ⟨by simp, ?_⟩
   have : b ≠ x := by
    rintro rfl;subst e;simp at hn
   simpa using this
  ·rw [if_neg e];exact ⟨by simp, by simpa using e⟩
theorem zA7 : ∀ (a b : List Str), ny4 (a.map .str) (b.map .str) = decide (a = b)
 | [], [] => by simp [ny4]
 | [], _ :: _ => by simp [ny4]
 | _ :: _, [] => by simp [ny4]
 | d :: ds, e :: es => by
  simp only [ey6, ny4, zA7 ds es, py4];rw [ry8];simp
theorem zO3 (a b : List Str) : py4 (.list (a.map .str)) (.list (b.map .str)) = decide (a = b) := by
 simp only [py4, zA7]
theorem zO4 : ∀ {ns : List Str}, (∀ x ∈ ns, uy9 x = true) -> py3 (ns.map .str) = true /\ sy1 (ns.map .str) <= 1
 | [], _ => ⟨rfl, by simp [sy1]⟩
 | x :: r, h => by
  obtain ⟨h1, h2⟩ := zO4 fun y hy => h y (by0 _ hy);refine ⟨by simp [py3, ry2, h1, h x ay9], ?_⟩;simp only [ey6, sy1, PyData.depth];omega
theorem zm2 {ns : List Str} (h : ∀ x ∈ ns, uy9 x = true) : Dat (.list (ns.map .str)) := by
 obtain ⟨h1, h2⟩ := zO4 h;exact ⟨by simp [ry2, h1], by simp only [PyData.depth]; omega⟩
theorem za30 {ns : List Str} (h : ∀ x ∈ ns, isNm x = true) : ∀ x ∈ ns, uy9 x = true := fun x hx => zi5 (h x hx)
end K1
namespace L2
open PySem PySem.Spec PyProof.Rows
section
variable {X : Cx} {C ea : Addr} {H' : Hp} {σ : St} {s' : Shared}
end
section
variable {X : Bc} {n : Nat} {S : Sl} {W : Wl} {D : DB}
end
section
variable {κ : Type} [DecidableEq κ]
def zx4 (kvs : List (κ × V)) (k : κ) : Option V := (kvs.find? fun kv => decide (kv.1 = k)).map (·.2)
def putK (kvs : List (κ × V)) (k : κ) (v : V) : List (κ × V) :=
 if (kvs.any fun kv => decide (kv.1 = k)) = true then kvs.map (fun kv => if kv.1 = k then (kv.1, v) else kv) else kvs ++ [(k, v)]
theorem zp1 {p : κ × V} {r : List (κ × V)} {k : κ} (e : p.1 = k) : zx4 (p :: r) k = some p.2 := by simp [zx4, iy7, e]
theorem zm3 {p : κ × V} {r : List (κ × V)} {k : κ} (e : ¬ p.1 = k) : zx4 (p :: r) k = zx4 r k := by simp [zx4, iy7, e]
theorem zA8 (k : κ) : ∀ kvs : List (κ × V), (kvs.any fun kv => decide (kv.1 = k)) = (zx4 kvs k).isSome
 | [] => rfl
 | p :: r => by
  rw [ty0]
  by_cases e : p.1 = k
  ·simp only [zp1 e, decide_eq_true e, Bool.true_or, Option.isSome_some]
  ·rw [zm3 e, decide_eq_false e, Bool.false_or]; exact zA8 k r
theorem zk1 (kvs : List (κ × V)) (k : κ) (v : V) : (putK kvs k v).length <= kvs.length + 1 := by
 unfold putK
 split
 ·rw [ay4]; omega
 ·rw [cy1, oy4, List.length_nil]; omega
theorem zO5 {kvs : List (κ × V)} {k : κ} (v : V) (h : zx4 kvs k = none) : putK kvs k v = kvs ++ [(k, v)] := by
 unfold putK;rw [zA8, h];exact if_neg (by decide)
theorem zz0.za31 {o : Option V} {u : Option Value} (r : zz0 o u) : o.isSome = u.isSome := by
 cases o with
 | none => cases u with
  | none => rfl
  | some _ => exact (show False from r).elim
 | some _ => cases u with
  | none => exact (show False from r).elim
  | some _ => rfl
theorem zz0.getD {o : Option V} {u : Option Value} {d : V} {d' : Value} (r : zz0 o u) (rd : RelV d d') : RelV (o.getD d) (u.getD d') := by
 cases o with
 | none => cases u with
  | none => exact rd
  | some _ => exact (show False from r).elim
 | some _ => cases u with
  | none => exact (show False from r).elim
  | some _ => exact r
theorem KV.val {kvs : List (κ × V)} {vs : List (κ × Value)} (r : KV kvs vs) (k : κ) : zz0 (zx4 kvs k) (valueAt vs k) := by
 unfold KV at r
 induction r with
 | nil => exact vy6
 | @cons p q ps qs h t ih =>
  obtain ⟨h1, h2⟩ := h
  by_cases e : p.1 = k
  ·have e' : q.1 = k := h1.symm.trans e;have b : valueAt (q :: qs) k = some q.2 := by simp [valueAt, iy7, e']
   rw [zp1 e, b]; exact h2
  ·have e' : ¬ q.1 = k := fun z => e (h1.trans z);have b : valueAt (q :: qs) k = valueAt qs k := by simp [valueAt, iy7, e']
   rw [zm3 e, b]; exact ih
theorem KV.any {kvs : List (κ × V)} {vs : List (κ × Value)} (r : KV kvs vs) (k : κ) : (kvs.any fun kv => decide (kv.1 = k)) = vs.any fun kv => decide (kv.1 = k) := by
 unfold KV at r
 induction r with
 | nil => rfl
 | cons h t ih => rw [ty0, ty0, ih, h.1]
theorem KV.repl {kvs : List (κ × V)} {vs : List (κ × Value)} (r : KV kvs vs) (k : κ) {y : V} {u : Value} (ry : RelV y u) :
  KV (kvs.map fun kv => if kv.1 = k then (kv.1, y) else kv) (vs.map fun kv => if kv.1 = k then (kv.1, u) else kv) := by
 unfold KV at r ⊢
 induction r with
 | nil => exact .nil
 | @cons p q ps qs h t ih =>
  rw [ey6, ey6];refine .cons ?_ ih;obtain ⟨h1, h2⟩ := h
  by_cases e : p.1 = k
  ·rw [if_pos e, if_pos (h1.symm.trans e)]; exact ⟨h1, ry⟩
  ·rw [if_neg e, if_neg (fun z => e (h1.trans z))]; exact ⟨h1, h2⟩
theorem KV.put {kvs : List (κ × V)} {vs : List (κ × Value)} (r : KV kvs vs) (k : κ) {y : V} {u : Value} (ry : RelV y u) : KV (putK kvs k y) (stored vs k u) := by
 unfold putK stored;rw [r.any k]
 by_cases e : (vs.any fun kv => decide (kv.1 = k)) = true
 ·rw [if_pos e, if_pos e]; exact r.repl k ry
 ·rw [if_neg e, if_neg e]; exact Paired.snoc r ⟨rfl, ry⟩
theorem KV.length {kvs : List (κ × V)} {vs : List (κ × Value)} (r : KV kvs vs) : kvs.length = vs.length := Paired.length r
end
theorem za32 {P : cy8} {w : World} {k : Key} {u : Value} (r : RelV (kV k) u) : (zb5 P w).is k u = true := by
 cases k with
 | inl i => obtain ⟨t, e⟩ := (show ∃ t, u = Value.int i t from r); subst e; exact zJ2 P w i t
 | inr x => obtain ⟨t, e⟩ := (show ∃ t, u = Value.str x t from r); subst e; exact zt7 P w x t
theorem zv5 {P : cy8} {w : World} : ∀ {ks : List Key} {us : List Value}, Vals (ks.map kV) us -> ItemsAre (zb5 P w) ks us
 | [], _, r => by rw [List.map_nil] at r; cases r; exact .nil
 | k :: ks, _, r => by
  rw [ey6] at r;cases r with
  | cons h t => exact .cons (za32 h) (zv5 t)
abbrev KT (H : Hp) : List (List Key × V) -> List (List Key × Addr × Value) -> Prop := Paired fun p q => p.1 = q.1 /\ H q.2.1 = some (.tup (p.1.map kV)) /\ RelV p.2 q.2.2
theorem KT.val {H : Hp} {kvs : List (List Key × V)} {xs : List (List Key × Addr × Value)} (r : KT H kvs xs) (k : List Key) : zz0 (zx4 kvs k) ((atKey xs k).map (·.2)) := by
 induction r with
 | nil => exact vy6
 | @cons p q ps qs h t ih =>
  obtain ⟨h1, _, h2⟩ := h
  by_cases e : p.1 = k
  ·have e' : q.1 = k := h1.symm.trans e;have b : atKey (q :: qs) k = some q.2 := by simp [atKey, iy7, e']
   rw [zp1 e, b]; exact h2
  ·have e' : ¬ q.1 = k := fun z => e (h1.trans z);have b : atKey (q :: qs) k = atKey qs k := by simp [atKey, iy7, e']
   rw [zm3 e, b]; exact ih
theorem KT.repl {H : Hp} {kvs : List (List Key × V)} {xs : List (List Key × Addr × Value)} (r : KT H kvs xs) (k : List Key) {y : V} {u : Value} (ry : RelV y u) :
  KT H (kvs.map fun kv => if kv.1 = k then (kv.1, y) else kv) (xs.map (putAt k u)) := by
 induction r with
 | nil => exact .nil
 | @cons p q ps qs h t ih =>
  rw [ey6, ey6];refine .cons ?_ ih;obtain ⟨h1, h2, h3⟩ := h;unfold putAt
  by_cases e : p.1 = k
  ·rw [if_pos e, if_pos (h1.symm.trans e)]; exact ⟨h1, h2, ry⟩
  ·rw [if_neg e, if_neg (fun z => e (h1.trans z))]; exact ⟨h1, h2, h3⟩
theorem KT.put {H : Hp} {kvs : List (List Key × V)} {xs : List (List Key × Addr × Value)} (r : KT H kvs xs) (k : List Key) {b : Addr} {y : V} {u : Value} (hb : H b = some (.tup (k.map kV))) (ry : RelV y u) :
  KT H (putK kvs k y) (storedH xs k b u) := by
 have e : (kvs.any fun kv => decide (kv.1 = k)) = (atKey xs k).isSome := by
  rw [zA8, (r.val k).za31, Option.isSome_map]
 unfold putK storedH;rw [e]
 by_cases q : (atKey xs k).isSome = true
 ·rw [if_pos q, if_pos q]; exact r.repl k ry
 ·rw [if_neg q, if_neg q]; exact Paired.snoc r ⟨rfl, hb, ry⟩
theorem KT.keeps {H H' : Hp} {kvs : List (List Key × V)} {xs : List (List Key × Addr × Value)} (r : KT H kvs xs) (ht : ∀ b ys, H b = some (.tup ys) -> H' b = some (.tup ys)) : KT H' kvs xs :=
 Paired.mapP r fun _ _ z => ⟨z.1, ht _ _ z.2.1, z.2.2⟩
section
variable {P : cy8} {w : World} {H : Hp} {h : Heap} {a : Addr}
theorem zd71 {u : HO} (ok : HOk P w H h) (e : Rd H a u) : zb6 P w H h a u := e.ok ok
theorem zd72 {kvs : List (Key × V)} (ok : HOk P w H h) (e : Rd H a (.dK kvs)) : kvs.length <= by2 /\ (a == ly9) = false /\ ∃ vs, KV kvs vs /\ h.DictOf (zb5 P w) a vs :=
 show zb6 P w H h a (.dK kvs) from zd71 ok e
theorem zd73 {kvs : List (Key × V)} (ok : HOk P w H h) (e : H a = some (.dK kvs)) : kvs.length <= by2 /\ (a == ly9) = false /\ ∃ vs, KV kvs vs /\ h.DictOf (zb5 P w) a vs := zd72 ok (.inl e)
theorem za33 {ks : List Key} (ok : HOk P w H h) (e : H a = some (.tup (ks.map kV))) : (tupleKind (zb5 P w)).is h ks a := by
 obtain ⟨_, its, r, o, h1, h2, n, h3⟩ := (show zb6 P w H h a (.tup (ks.map kV)) from ok a _ e)
 exact ⟨o, its.toArray, n, h1, h2, h3, by simpa using zv5 r⟩
theorem ze65 {kvs : List (List Key × V)} (ok : HOk P w H h) (e : Rd H a (.dT kvs)) : kvs.length <= by2 /\ (a == ly9) = false /\
  ∃ xs, KT H kvs xs /\ h.DictOfH (tupleKind (zb5 P w)) a xs := by
 obtain ⟨z, y, xs, r, o, es, ep, h1, h2, h3, h4, h5⟩ := (show zb6 P w H h a (.dT kvs) from zd71 ok e)
 refine ⟨z, y, xs, r, o, es, ep, h1, h2, h3, h4, fun x hx => ?_, h5⟩
 have all : ∀ {l : List (List Key × V)} {m : List (List Key × Addr × Value)}, KT H l m -> ∀ x ∈ m, (tupleKind (zb5 P w)).is h x.1 x.2.1 := by
  intro l m q
  induction q with
  | nil => intro x hx; exact nomatch hx
  | @cons p q ps qs hq t ih =>
   intro x hx;rcases by7.mp hx with e | hx
   ·subst e;exact za33 ok (by rw [<- hq.1]; exact hq.2.1)
   ·exact ih x hx
 exact all r x hx
theorem zb41 {kvs : List (List Key × V)} (ok : HOk P w H h) (e : H a = some (.dT kvs)) : kvs.length <= by2 /\ (a == ly9) = false /\
  ∃ xs, KT H kvs xs /\ h.DictOfH (tupleKind (zb5 P w)) a xs := ze65 ok (.inl e)
end
def DPut (H : Hp) (a : Addr) (y v : V) (H' : Hp) : Prop :=
 (∃ kvs k, H a = some (.dK kvs) /\ y = kV k /\ kvs.length < by2 /\ H' = upd H a (.dK (putK kvs k v))) \/
 ∃ kvs k b, H a = some (.dT kvs) /\ y = .ref b /\ H b = some (.tup (k.map kV)) /\ kvs.length < by2 /\ H' = upd H a (.dT (putK kvs k v))
theorem DPut.t {H : Hp} {a b : Addr} {kvs : List (List Key × V)} {k : List Key} {v : V} (e : H a = some (.dT kvs)) (eb : H b = some (.tup (k.map kV))) (hl : kvs.length < by2) :
  DPut H a (.ref b) v (upd H a (.dT (putK kvs k v))) := .inr ⟨kvs, k, b, e, rfl, eb, hl, rfl⟩
section
variable {X : Cx} {pins : List (Addr × Obj)} {σ : St} {H : Hp} {s : Shared} {a : Addr} {y v : V} {u r : Value} {o : Option V} {A : Around} {E : Value -> Shared -> Prop}
theorem zK8 {h' : Heap} {t' : Nat} {ob : HO} (I : Inv X pins σ H s) (mu : Mut (H a)) (hs : fy5 a s.heap h') (he : ∃ q, h'.get? a = some q) (new : zb6 X.prog X.w (upd H a ob) h' a ob) :
  Inv X pins σ (upd H a ob) { s with heap := h', toks := t' } :=
 I.write (x := a) (e := a) mu (.inl rfl) (fun b q hb z => (hs.2 b hb).trans z) he new
theorem zc16 {P : cy8} {w : World} {H' : Hp} {h' : Heap} {kvs : List (Key × V)} {vs : List (Key × Value)} (z : kvs.length <= by2) (hd : (a == ly9) = false) (rel : KV kvs vs) (dd : h'.DictOf (zb5 P w) a vs) :
  zb6 P w H' h' a (.dK kvs) := ⟨z, hd, vs, rel, dd⟩
theorem za34 {H' : Hp} {Q : Unit -> Shared -> Prop} (hu : A.units + 1 < cLine) (I : Inv X pins σ H s) (g : DPut H a y v H') (ry : RelV y u) (rv : RelV v r) (h : ∀ s', Inv X pins σ H' s' -> Q () s') :
  wpAny (model X.prog X.w) A (setItem (.ref a) u r) Q E s := by
 rcases g with ⟨kvs, k, e, ey, l, eH⟩ | ⟨kvs, k, b, e, ey, eb, l, eH⟩
 ·subst ey eH;obtain ⟨z, hd, vs, rel, dd⟩ := zd73 I.hok e;have hz : vs.length <= by2 := by rw [<- rel.length]; exact z
  have hl : (putK kvs k v).length <= by2 := by have := zk1 kvs k v; omega
  refine wpAny_setItem_pairs (hsz := hz) (za32 ry) dd fun h' dd' hs => h _ ?_;have he : ∃ q, h'.get? a = some q := let ⟨q, _, _, hq, _⟩ := dd'; ⟨q, hq⟩;exact zK8 I (by rw [e]; exact vy6) hs he (zc16 hl hd (rel.put k rv) dd')
 ·subst ey eH;cases (show u = cy7 b from ry);obtain ⟨z, hd, xs, rel, dd⟩ := zb41 I.hok e;have hz : xs.length <= by2 := by rw [<- Paired.length rel]; exact z
  have hl : (putK kvs k v).length <= by2 := by have := zk1 kvs k v; omega
  refine wpAny_setItem_heap (hsz := hz) (tupleKind_room_in1 hu) (za33 I.hok eb) dd fun h' dd' hs => h _ ?_;obtain ⟨q, es, ep, hq, h2, h3, h4, _, h5⟩ := dd';refine zK8 I (by rw [e]; exact vy6) hs ⟨q, hq⟩ ⟨hl, hd, _, (rel.put k eb rv).keeps fun c ys ec => ?_, q, es, ep, hq, h2, h3, h4, h5⟩;rw [za5 (zJ3 ec e (fun z => nomatch z))];exact ec
end
section
variable {X : Cx} {pins : List (Addr × Obj)} {σ : St} {H : Hp} {s : Shared} {a : Addr} {kvs : List (Key × V)} {k : Key} {u : Value} {A : Around} {E : Value -> Shared -> Prop}
end
section
variable {X : Cx} {o i e value : Expr} {pos pos' tpos : Pos} {td ty tv : TE}
end
theorem zb42 {P : cy8} {w : World} {H : Hp} (h : Heap) (hb : ly9 < h.objs.size) : zb6 P w H (h.push { cls := .type "dict", data := .dict #[] }) h.objs.size (.dT []) :=
 ⟨dy5 _, beq_eq_false_iff_ne.mpr (fy4 (by6 hb)), [], .nil, _, #[], 0, ay7 _ rfl, ⟨rfl, rfl, rfl⟩, rfl, rfl, List.nodup_nil⟩
def zd75 : TE := fun _ H Q => ∀ p, H p = none -> Q (.ref p) (upd H p (.dT []))
section
variable {X : Cx} {pos : Pos}
theorem zb43 : PE X (.Dict [] [] pos) zd75 := fun pins s σ H Q I h =>
 wpAny_Dict_empty ⟨.ref s.heap.objs.size, _, I.laid (a := s.heap.objs.size) (o := .dT []) (t' := s.toks) (fun _ _ q => ay1 _ q) (ay6 _) (zb42 s.heap I.big), rfl, h _ (I.hok.fresh (ay6 _))⟩
end
section
variable {X : Cx} {pins : List (Addr × Obj)} {σ : St} {H : Hp} {s : Shared} {a : Addr} {y d : V} {u r : Value} {o : Option V} {A : Around} {E : Value -> Shared -> Prop}
end
section
variable {X : Cx} {o e f : Expr} {apos cpos : Pos} {td ty tx : TE}
end
section
variable {X : Cx} {pins : List (Addr × Obj)} {σ : St} {H : Hp} {s : Shared} {a : Addr} {kvs : List (Key × V)} {A : Around} {E : Value -> Shared -> Prop}
end
section
variable {X : Cx} {pins : List (Addr × Obj)} {σ : St} {H : Hp} {s : Shared} {a : Addr} {y : V} {u : Value} {A : Around} {E : Value -> Shared -> Prop}
end
theorem zv6 {α : Type} {l : List α} {k : α} (h : l.Nodup) (hk : k ∉ l) : (l ++ [k]).Nodup := List.nodup_append.mpr ⟨h, by simp, fun x hx y hy e => hk (by cases ey7.mp hy; exact e ▸ hx)⟩
section
variable {prog : cy8} {w : World} {K : Type} [DecidableEq K] {knd : HeapKind prog w K} {A : Around} {E : Value -> Shared -> Prop} {s : Shared}
theorem zT5 {h : Heap} {d a : Addr} {xs : List (K × Addr × Value)} {k : K} {v : Value} (hm : h.DictOfH knd d xs) (hkey : knd.is h k a) (hk : atKey xs k = none) (hk' : k ∉ xs.map (·.1)) :
  (h.update d (Obj.mapDictKeys (·.push ⟨knd.hash k, .ref a, v⟩))).DictOfH knd d (storedH xs k a v) := by
 obtain ⟨ob, ents, n, g1, g2, g3, g4, g5, g6⟩ := hm;have all : ∀ x ∈ xs ++ [(k, a, v)], knd.is h x.1 x.2.1 := fun x hx => (ey0.mp hx).elim (g5 x) fun z => by cases ey7.mp z; exact hkey
 rw [storedH_new hk];refine ⟨_, _, n + 1, fy8 _ g1 (Obj.isFreed_of_dict (Obj.data_mapDictKeys g3 _)), g2.mapDictKeys _, Obj.data_mapDictKeys g3 _, by simp [g4, entryOfKey], fun x hx => knd.keeps (all x hx) g1 g3 (hy4 ..), ?_⟩;rw [fy3];exact zv6 g6 hk'
theorem zn5 {d a : Addr} {xs : List (K × Addr × Value)} {k : K} {v : Value} {Q : Value -> Shared -> Prop} (hu : knd.room A) (hkey : knd.is s.heap k a) (hm : s.heap.DictOfH knd d xs) (hsz : xs.length <= by2)
  (h1 : ∀ p, atKey xs k = some p -> Q p.2 { s with toks := s.toks + knd.draws k })
  (h2 : atKey xs k = none -> ∀ h', h'.DictOfH knd d (storedH xs k a v) -> fy5 d s.heap h' -> Q v { s with heap := h', toks := s.toks + knd.draws k }) :
  wpAny (model prog w) A (dictSetDefault d (.ref a) v) Q E s := by
 have hm0 := hm;obtain ⟨ob, ents, n, g1, g2, g3, g4, g5, g6⟩ := hm
 let s1 : Shared := { s with toks := s.toks + knd.draws k }
 unfold dictSetDefault;refine ey5 (ay0 (knd.pyHash hu hkey (ay0 (wpAny_dictFind_heap (s := s1) hu hkey g1 g3 g4 g5 g6 (fun no => ?_) fun j p hj => ?_))))
 ·have none_ := atKey_none_of_get no;have few : ents.size <= by2 := by have := size_of_entries g4; omega
  exact ay0 (my9 (ay0 (wpAny_updateDictKeys (hz := few) (s := s1) g1 g3 (ay2 (h2 none_ _ (zT5 hm0 hkey none_ (not_mem_keys_of_get no)) (hy4 ..))))))
 ·refine ay0 (ky4 (s := s1) g1 g3 ?_);rw [entry_at g4 j, hj];exact ay0 (my9 (ay2 (h1 p (atKey_of_get g6 hj))))
theorem zq7 (knd : HeapKind prog w K) (d a : Addr) (hd : (d == ly9) = false) (dflt : Value) :
  MeetsIn prog w (oy6.«dict.setdefault» ⟨[.ref d, .ref a, dflt], []⟩) (fun A R s => knd.room A.in1 /\ ∃ k xs, knd.is s.heap k a /\ s.heap.DictOfH knd d xs /\ xs.length <= by2 /\
   (∀ p, atKey xs k = some p -> R (.ok (.ret p.2)) { s with toks := s.toks + knd.draws k }) /\
   (atKey xs k = none -> ∀ h', h'.DictOfH knd d (storedH xs k a dflt) -> fy5 d s.heap h' -> R (.ok (.ret dflt)) { s with heap := h', toks := s.toks + knd.draws k })) :=
 .of_wp fun A R s zR => by
  obtain ⟨hu, k, xs, hkey, hm, hz, h1, h2⟩ := zR;unfold Builtin.«dict.setdefault»;refine ay0 ?_;unfold Builtin.Dict.keyAndDefault;refine ay0 (ny7 hm.typeIs ?_);show wpAny _ _ (pure (d, cy7 a, some dflt)) _ _ s;refine ay2 ?_;show wpAny _ _ (if (d == ly9) = true then _ else (dictSetDefault d (.ref a) dflt >>= _)) _ _ s;rw [if_neg (by rw [hd]; exact by9)];exact ay0 (zn5 hu hkey hm hz (fun p hp => ay2 ⟨p.2, rfl, h1 p hp⟩) fun hn h' hm' hs' => ay2 ⟨dflt, rfl, h2 hn h' hm' hs'⟩)
end
section
variable {X : Cx}
theorem zc17 {pins : List (Addr × Obj)} {σ : St} {H : Hp} {s : Shared} {b : Addr} {ks : List Key} (I : Inv X pins σ H s) (e : SqT X.K H b (ks.map kV)) : (tupleKind (zb5 X.prog X.w)).is s.heap ks b := by
 obtain ⟨its, r, ⟨o, h1, h2, n, h3⟩, _⟩ := I.tuple e;exact ⟨o, its.toArray, n, h1, h2, h3, by simpa using zv5 r⟩
theorem zb44 (hu : X.A.units + 1 < cLine) : MtR X "dict.get" (fun x ys H Q => ∃ a kvs k b d, x = .ref a /\ ys = [.ref b, d] /\ H a = some (.dT kvs) /\ SqT X.K H b (k.map kV) /\ Q ((zx4 kvs k).getD d) H) := by
 intro pins s σ H x ys v us Q I rx rs h;obtain ⟨a, kvs, k, b, d, rfl, rfl, e, eb, q⟩ := h;obtain ⟨u, r, rfl, ru, rd⟩ := rs.two;cases (show v = cy7 a from rx);cases (show u = cy7 b from ru);obtain ⟨z, hd, xs, rel, dd⟩ := zb41 I.hok e;exact call_meetsIn qy7 dd.typeIs PySem.F.entry_dict_get (PySem.F.args_dict_get_3 _ _ _) (meetsH_dict_get_default (tupleKind (zb5 X.prog X.w)) a b hd r) ⟨tupleKind_room_in1 hu, k, xs, zc17 I eb, dd, _, H, I.tok _, (rel.val k).getD rd, q⟩
theorem zT6 (hu : X.A.units + 1 < cLine) : MtR X "dict.setdefault" (fun x ys H Q => ∃ a kvs k b d, x = .ref a /\ ys = [.ref b, d] /\ H a = some (.dT kvs) /\ H b = some (.tup (k.map kV)) /\
  (∀ v, zx4 kvs k = some v -> Q v H) /\ (zx4 kvs k = none -> kvs.length < by2 /\ Q d (upd H a (.dT (putK kvs k d))))) := by
 intro pins s σ H x ys v us Q I rx rs h;obtain ⟨a, kvs, k, b, d, rfl, rfl, e, eb, q1, q2⟩ := h;obtain ⟨u, r, rfl, ru, rd⟩ := rs.two;cases (show v = cy7 a from rx);cases (show u = cy7 b from ru);obtain ⟨z, hd, xs, rel, dd⟩ := zb41 I.hok e;have hz : xs.length <= by2 := by rw [<- Paired.length rel]; exact z
 refine call_meetsIn PySem.F.slot_dict_setdefault dd.typeIs PySem.F.entry_dict_setdefault (PySem.F.args_dict_setdefault_3 _ _ _) (zq7 (tupleKind (zb5 X.prog X.w)) a b hd r) ⟨tupleKind_room_in1 hu, k, xs, za33 I.hok eb, dd, hz, fun p hp => ?_, fun hn h' dd' hs => ?_⟩
 ·have rv := rel.val k;rw [hp] at rv;cases hv : zx4 kvs k with
  | none =>
   rw [hv] at rv;cases zz0.none_of rv
  | some v =>
   rw [hv] at rv;obtain ⟨w', hw, rw'⟩ := zz0.some_of rv;cases hw;exact ⟨v, H, I.tok _, rw', q1 v hv⟩
 ·have hnv : zx4 kvs k = none := by
   have rv := rel.val k;rw [hn] at rv;cases hv : zx4 kvs k with
   | none => rfl
   | some v =>
    rw [hv] at rv;obtain ⟨w', hw, _⟩ := zz0.some_of rv;cases hw
  obtain ⟨hl, q⟩ := q2 hnv;have hl' : (putK kvs k d).length <= by2 := by have := zk1 kvs k d; omega
  refine ⟨d, _, ?_, rd, q⟩;obtain ⟨q', es, ep, hq, h2, h3, h4, _, h5⟩ := dd';refine zK8 I (by rw [e]; exact vy6) hs ⟨q', hq⟩ ⟨hl', hd, _, (rel.put k eb rd).keeps fun c ys ec => ?_, q', es, ep, hq, h2, h3, h4, h5⟩;rw [za5 (zJ3 ec e (fun z => nomatch z))];exact ec
theorem ze66 (hu : X.A.units + 1 < cLine) : IxR X (fun x y H Q => ∃ a kvs k b v, x = .ref a /\ y = .ref b /\ H a = some (.dT kvs) /\ SqT X.K H b (k.map kV) /\ zx4 kvs k = some v /\ Q v H) := by
 intro value slice pins s σ H x y v u Q I rx ry h hs;obtain ⟨a, kvs, k, b, z, rfl, rfl, e, eb, hv, q⟩ := h;cases (show v = cy7 a from rx);cases (show u = cy7 b from ry);obtain ⟨_, hd, xs, rel, dd⟩ := zb41 I.hok e;obtain ⟨w', hw, rw'⟩ := zz0.some_of (v := z) (o := (atKey xs k).map (·.2)) (by rw [<- hv]; exact rel.val k);obtain ⟨p, hp, hp2⟩ := gy4.mp hw;exact qy1 (x := w') dd.typeIs wy3.lookup (wpAny_getItem_heap (Q := fun r s' => r = w' /\ EP X pins σ Q r s') (tupleKind_room_in1 hu) (zc17 I eb) dd hp ⟨hp2, z, H, I.tok _, hp2 ▸ rw', q⟩) hs
end
def zD8 : Key -> PyData
 | .inl i => .int i
 | .inr x => .str x
abbrev tupK (ks : List Key) : PyData := .tuple (ks.map zD8)
theorem zA9 {K : ay5} {F : Hp} : ∀ {ks : List Key} {vs : List V}, Paired (fun d v => Rq K F v d) (ks.map zD8) vs -> vs = ks.map kV
 | [], _, .nil => rfl
 | .inl i :: ks, _, .cons h t => by rw [Rq.zd7 h, zA9 t]; rfl
 | .inr x :: ks, _, .cons h t => by rw [Rq.zf2 h, zA9 t]; rfl
theorem zB0 {K : ay5} {F : Hp} : ∀ {ks : List Key}, Paired (fun d v => Rq K F v d) (ks.map zD8) (ks.map kV)
 | [] => .nil
 | .inl i :: ks => .cons (Rq.int i) zB0
 | .inr x :: ks => .cons (Rq.str x) zB0
theorem Rq.zc18 {K : ay5} {F : Hp} {ks : List Key} {v : V} (r : Rq K F v (tupK ks)) : ∃ b, v = .ref b /\ SqT K F b (ks.map kV) := by
 obtain ⟨b, vs, rfl, h, p⟩ := Rq.zg3 r;cases zA9 p;exact ⟨b, rfl, h⟩
def zm9 (kvs : List (List Key × El)) (k : List Key) : Option El := (kvs.find? fun kv => decide (kv.1 = k)).map (·.2)
abbrev PKV (K : ay5) (F : Hp) (A : List Addr) : List (List Key × El) -> List (List Key × V) -> Prop := Paired fun p q => p.1 = q.1 /\ ElR K F A p.2 q.2
section
variable {K : ay5} {F : Hp} {A : List Addr}
theorem zv7 {k : List Key} : ∀ {kvs : List (List Key × El)} {vs : List (List Key × V)}, PKV K F A kvs vs -> (zm9 kvs k = none /\ zx4 vs k = none) \/ ∃ e v, zm9 kvs k = some e /\ zx4 vs k = some v /\ ElR K F A e v
 | [], _, .nil => .inl ⟨rfl, rfl⟩
 | (a, e) :: kvs, _, .cons (b := (b, v)) ⟨hk, he⟩ t => by
  have hk : a = b := hk;subst hk
  by_cases h : a = k
  ·refine .inr ⟨e, v, ?_, ?_, he⟩
   ·simp [zm9, h]
   ·exact zp1 h
  ·have e1 : zm9 ((a, e) :: kvs) k = zm9 kvs k := by simp [zm9, h]
   rw [e1, zm3 (show ¬ (a, v).1 = k from h)];exact zv7 t
theorem zb45 {kvs : List (List Key × El)} {vs : List (List Key × V)} (h : PKV K F A kvs vs) (k : List Key) {e : El} {v : V} (he : ElR K F A e v) : PKV K F A (kvs ++ [(k, e)]) (vs ++ [(k, v)]) := zo5 h (.cons ⟨rfl, he⟩ .nil)
end
section
variable {X : Bc} {S : Sl} {W : Wl} {k : KB}
theorem RW.atT {F : Hp} {A : List Addr} {H : Hp} (r : RW X.K F A W H) {j : Nat} {v : V} (z : ElR X.K F A (.o j) v) {kvs : List (List Key × El)} (hj : W[j]? = some (.dT kvs)) : ∃ a vs, v = .ref a /\ A[j]? = some a /\ H a = some (.dT vs) /\ PKV X.K F A kvs vs := by
 obtain ⟨a, ha, rfl⟩ := z;obtain ⟨h, e, vs, rfl, p⟩ := r.obj j a _ ha hj;exact ⟨a, vs, rfl, ha, e, p⟩
theorem zO6 {e : Expr} (h : BE X S W e fun x W1 => ∃ ks, x = .p ks /\ k (.d (tupK ks)) W1) : BE X S W e k :=
 .of zh8 fun F A σ H Q x0 r sr q => h.use x0 r sr fun F1 A1 W1 H1 x vx e1 r1 z1 zR => by
  obtain ⟨ks, hx, h1⟩ := zR;subst hx;obtain ⟨b, rfl, hb⟩ := z1;exact (q.ext e1).same r1 (.dd (Rq.tup (SqT.of hb) (Rqs.of zB0))) h1
theorem zK9 {es : List Expr} {x1} {pos : Pos} (h : BA X S W es fun as W1 => ∃ ks, as = zb2 (ks.map zD8) /\ ks.length <= by2 /\ k (.p ks) W1) : BE X S W (.Tuple es x1 pos) k :=
 .of (zZ5 pa_U) fun F A σ H Q x0 r sr q => h.use x0 r sr fun F1 A1 W1 H1 as vs e1 r1 z1 zR => by
  obtain ⟨ks, hd, hl, h1⟩ := zR;subst hd;cases zA9 (zk0 z1);refine ⟨by rw [ay4]; exact hl, fun p hp => ?_⟩;obtain ⟨r', x⟩ := r1.newF hp (.tup (ks.map kV));exact (q.ext e1) _ _ _ _ (.p ks) _ x r' ⟨p, rfl, zb3⟩ h1
theorem zB1 {pos : Pos} (h : k (.o W.length) (W ++ [.dT []])) : BE X S W (.Dict [] [] pos) k :=
 .of zb43 fun F A σ H Q x0 r sr q => fun p hp => q.zN9 r hp (o := .dT []) ⟨[], rfl, .nil⟩ h
theorem zt2 {j : Nat} {kvs : List (List Key × El)} {ks : List Key} {y : El} (hu : X.A.units + 64 < cLine) (hj : W[j]? = some (.dT kvs)) (h : k ((zm9 kvs ks).getD y) W) : MB X "dict" "dict.get" (.o j) [.d (tupK ks), y] W k := .of (zb44 (by omega)) fun F A H Q v vs r zx z q => by
 obtain ⟨a, ws, rfl, ha, hH, p⟩ := r.atT zx hj;obtain ⟨u, u', rfl, zu, zu'⟩ := za20 z;obtain ⟨b, rfl, hb⟩ := Rq.zc18 zu;refine ⟨a, ws, ks, b, u', rfl, rfl, hH, r.sub.zr7 hb, ?_⟩;rcases zv7 (k := ks) p with ⟨e1, e2⟩ | ⟨e, v, e1, e2, he⟩
 ·rw [e1] at h;rw [e2];exact q.same r zu' h
 ·rw [e1] at h;rw [e2];exact q.same r he h
theorem zb46 {j : Nat} {kvs : List (List Key × El)} {ks : List Key} {e : El} (hu : X.A.units + 64 < cLine) (hj : W[j]? = some (.dT kvs)) (he : zm9 kvs ks = some e) (h : k e W) : IB X (.o j) (.d (tupK ks)) W k := .of (ze66 (by omega)) fun F A H Q vx vy r zx zy q => by
 obtain ⟨a, ws, rfl, ha, hH, p⟩ := r.atT zx hj;obtain ⟨b, rfl, hb⟩ := Rq.zc18 zy;rcases zv7 (k := ks) p with ⟨e1, e2⟩ | ⟨e', v, e1, e2, he'⟩
 ·rw [he] at e1;cases e1
 ·rw [he] at e1;cases e1;exact ⟨a, ws, ks, b, v, rfl, rfl, hH, r.sub.zr7 hb, e2, q.same r he' h⟩
theorem zT7 {j : Nat} {kvs : List (List Key × El)} {ks : List Key} {y : El} (hu : X.A.units + 64 < cLine) (hj : W[j]? = some (.dT kvs)) (h1 : ∀ e, zm9 kvs ks = some e -> k e W) (h2 : zm9 kvs ks = none -> kvs.length < by2 /\ k y (W.set j (.dT (kvs ++ [(ks, y)])))) :
  MB X "dict" "dict.setdefault" (.o j) [.p ks, y] W k := .of (zT6 (by omega)) fun F A H Q v vs r zx z q => by
 obtain ⟨a, ws, rfl, ha, hH, p⟩ := r.atT zx hj;obtain ⟨u, u', rfl, zu, zu'⟩ := za20 z;obtain ⟨b, rfl, hb⟩ := zu;refine ⟨a, ws, ks, b, u', rfl, rfl, hH, r.sub _ _ hb, fun v hv => ?_, fun hv => ?_⟩
 ·rcases zv7 (k := ks) p with ⟨e1, e2⟩ | ⟨e, v', e1, e2, he⟩
  ·rw [hv] at e2;cases e2
  ·rw [hv] at e2;cases e2;exact q.same r he (h1 e e1)
 ·rcases zv7 (k := ks) p with ⟨e1, e2⟩ | ⟨e, v', e1, e2, he⟩
  ·obtain ⟨hl, hk⟩ := h2 e1;refine ⟨by rw [<- zb1 p]; exact hl, ?_⟩;rw [zO5 u' e2];exact q.put r ha (o := .dT (kvs ++ [(ks, y)])) ⟨_, rfl, zb45 p ks zu'⟩ zu' hk
  ·rw [hv] at e2;cases e2
end
def tUGs (X : Bc) (es : List Expr) : TGs := fun vs σ H Q => ∃ t, PGs X es t /\ t vs σ H Q
section
variable {X : Bc} {S : Sl} {W : Wl} {k : KB}
theorem zd76 {es : List Expr} : PGs X es (tUGs X es) := fun pins s σ H vs us Q I r ⟨t, h, q⟩ => h pins s σ H vs us Q I r q
def BGs (X : Bc) (S : Sl) (W : Wl) (es : List Expr) (xs : List El) (k : Sl -> Wl -> Prop) : Prop := ∀ F A σ H vs (Q : St -> Hp -> Prop), X.Am F A -> RW X.K F A W H -> SR X.K F A S σ -> Paired (ElR X.K F A) xs vs ->
 (∀ F' A' W' H' S' σ', Ext F A F' A' -> RW X.K F' A' W' H' -> SR X.K F' A' S' σ' -> k S' W' -> Q σ' H') -> tUGs X es vs σ H Q
theorem zc61 {k : Sl -> Wl -> Prop} (h : k S W) : BGs X S W [] [] k := fun F A σ H vs Q x0 r sr z q => by
 cases z;exact ⟨gNil, zY3, rfl, q F A W H S σ .refl r sr h⟩
theorem zO7 {t : Expr} {ts : List Expr} {e : El} {xs : List El} {k : Sl -> Wl -> Prop} (h : BG X S W t e fun S' W' => BGs X S' W' ts xs k)
  (hs : (my1 (t :: ts) X.env).map (·.2) = assign t X.env :: (my1 ts X.env).map (·.2) := by rfl) : BGs X S W (t :: ts) (e :: xs) k := fun F A σ H vs Q x0 r sr z q => by
 cases z with
 | @cons _ v _ vs z zs =>
  exact ⟨zR7 (tUG X t) (tUGs X ts), zN7 pg_U zd76 hs, v, vs, rfl, h F A σ H v _ x0 r sr z fun F' A' W' H' S' σ' e1 r' sr' h' =>
   h' F' A' σ' H' vs Q (x0.trans e1) r' sr' (zd6 (fun _ _ y => y.ext e1) zs) fun F2 A2 W2 H2 S2 σ2 e2 r2 sr2 h2 => q F2 A2 W2 H2 S2 σ2 (e1.trans e2) r2 sr2 h2⟩
theorem zc62 {es : List Expr} {c : Nat} {pos : Pos} {ds : List PyData} {k : Sl -> Wl -> Prop} (hc : X.calm = true) (h : BGs X S W es (zb2 ds) k)
  (hn : (my1 es X.env).length = ds.length := by rfl) (hst : (my1 es X.env).findIdx? (·.1) = none := by rfl) : BG X S W (.Tuple es c pos) (.d (.tuple ds)) k :=
 fun F A σ H v Q x0 r sr z q => by
  obtain ⟨a, vs, rfl, hs, p⟩ := Rq.zg3 z;exact ⟨_, zY4 hc zd76 hn hst, a, vs, rfl, r.sub.zr7 hs, (zb1 p).symm, h F A σ H vs Q x0 r sr (zf3 p) q⟩
end
section
variable {prog : cy8} {w : World} {A : Around} {E : Value -> Shared -> Prop} {s : Shared}
theorem zT8 {it t : Addr} {i : Nat} {xs : Array Value} {x : Value} {Q : Value -> Shared -> Prop} (st : s.heap.IsTupleIter it t i) (tp : s.heap.IsTuple t xs) (hx : xs[i]? = some x)
  (q : ∀ g, g.IsTupleIter it t (i + 1) -> fy5 it s.heap g -> Q x { s with heap := g }) : wpAny (model prog w) A (ry4 (.ref it)) Q E s := by
 have ty := st.typeIs;obtain ⟨oi, gi, ci, di⟩ := st;obtain ⟨ot, gt, ct, nt, dt⟩ := tp;unfold Builtin.SmallTypes.nextOf;refine ay0 (fy0 (name := ly1 "__next__") ty my4 (dy3 my4 ty PySem.F.entry_tuple_iterator_next ?_ (PySem.F.args_tuple_iterator_next_1 _)));show wpAny _ _ (field (.ref it) 0 >>= _) _ _ s;refine ay0 (jy5 gi di (x := .ref t) rfl ?_);show wpAny _ _ (if (cy7 t == dy4) = true then _ else _) _ _ s;rw [if_neg (show ¬ ((cy7 t == dy4) = true) by simp)];show wpAny _ _ (field (.ref it) 1 >>= _) _ _ s;refine ay0 (jy5 gi di (x := .int i 0) rfl ?_);show wpAny _ _ (seqItems? (.ref t) >>= _) _ _ s;refine ay0 (ry5 gt dt ?_);simp only [ky3, hx]
 exact ay0 (ky0 gi di (by simp) (ay2 ⟨x, rfl, ay2 (q _ ⟨_, fy8 _ gi (ly2 (gy8 di _)), (sy2 ..).trans ci, by
  rw [gy8 di]; simp [rawInt]⟩ (hy4 ..))⟩))
theorem zT9 {e it t : Addr} {i : Nat} {xs : Array Value} {x old : Value} {Q : Option Value -> Shared -> Prop} (he : IsEnum s.heap e it i old) (st : s.heap.IsTupleIter it t i) (tp : s.heap.IsTuple t xs) (hx : xs[i]? = some x) (hne : e ≠ it)
  (q : ∀ g, IsEnumOut g e it ((i : Int) + 1) x s.heap.objs.size -> g.IsTupleIter it t (i + 1) -> g.get? s.heap.objs.size = some { cls := .type "tuple", data := .seq #[.int i s.toks, x] } ->
   (∀ b o, b ≠ e -> b ≠ it -> s.heap.get? b = some o -> g.get? b = some o) -> Q (some (.ref s.heap.objs.size)) { s with heap := g, toks := s.toks + 1 }) : wpAny (model prog w) A (pyNext (.ref e)) Q E s := by
 obtain ⟨hp, gn, dw, tk, os⟩ := s;have ty : qy8 ⟨hp, gn, dw, tk, os⟩ (.ref e) "enumerate" := ⟨_, he, rfl⟩
 have hel : e < hp.objs.size := by1 he;unfold pyNext;refine ay0 (py1 (fy0 (name := ly1 "__next__") ty py8 (dy3 py8 ty PySem.F.entry_enumerate_next ?_ (PySem.F.args_enumerate_next_1 _))));show wpAny _ _ (field (.ref e) 2 >>= _) _ _ _;refine ay0 (jy5 he rfl (x := .ref it) rfl (ay0 (zT8 st tp hx fun g1 st1 sb1 => ?_)));have sb1 : fy5 it hp g1 := sb1;have e1 : IsEnum g1 e it i old := (sb1.2 e hne).trans he;show wpAny _ _ (field (.ref e) 3 >>= _) _ _ ⟨g1, gn, dw, tk, os⟩;refine ay0 (jy5 e1 rfl (x := rawInt i) rfl ?_);show wpAny _ _ (field (.ref e) 4 >>= _) _ _ ⟨g1, gn, dw, tk, os⟩;refine ay0 (jy5 e1 rfl (x := .none) rfl ?_);show wpAny _ _ (mkInt i >>= _) _ _ ⟨g1, gn, dw, tk, os⟩;refine ay0 (wpAny_mkInt ?_);show wpAny _ _ (uy3 (.ref e) 3 (rawInt ((i : Int) + 1)) >>= _) _ _ ⟨g1, gn, dw, tk + 1, os⟩;refine ay0 (jy0 e1 (by simp) fun g2 (e2 : IsEnum g2 e it ((i : Int) + 1) old) (sb2 : fy5 e g1 g2) => ?_);show wpAny _ _ (uy3 (.ref e) 4 .none >>= _) _ _ ⟨g2, gn, dw, tk + 1, os⟩;refine ay0 (jy0 e2 (by simp) fun g3 (e3 : IsEnum g3 e it ((i : Int) + 1) old) (sb3 : fy5 e g2 g3) => ?_);show wpAny _ _ (newTuple [.int i tk, x] >>= _) _ _ ⟨g3, gn, dw, tk + 1, os⟩;refine ay0 (wpAny_newTuple ?_);have z3 : g3.objs.size = hp.objs.size := by rw [sb3.1, sb2.1, sb1.1]
 let tO : Obj := { cls := .type "tuple", data := .seq #[.int i tk, x] }
 have e4 : IsEnum (g3.push tO) e it ((i : Int) + 1) old := ay1 _ e3;have t4 : (g3.push tO).get? hp.objs.size = some tO := by rw [<- z3]; exact ay7 _ rfl
 have k4 : ∀ b o, b ≠ e -> b ≠ it -> hp.get? b = some o -> (g3.push tO).get? b = some o := fun b o be bi hb => ay1 _ ((sb3.2 b be).trans ((sb2.2 b be).trans ((sb1.2 b bi).trans hb)))
 have s4 : (g3.push tO).IsTupleIter it t (i + 1) := by
  obtain ⟨o, g, r⟩ := st1;exact ⟨o, ay1 _ ((sb3.2 it (fy4 hne)).trans ((sb2.2 it (fy4 hne)).trans g)), r⟩
 show wpAny _ _ (wy8 (.ref e) >>= _) _ _ ⟨g3.push tO, gn, dw, tk + 1, os⟩;rw [z3];generalize g3.push tO = g4 at e4 t4 k4 s4;have ft : ∀ {g g' : Heap}, fy5 e g g' -> ∀ b o, b ≠ e -> g.get? b = some o -> g'.get? b = some o := fun sb b o be hb => (sb.2 b be).trans hb;refine ay0 ?_;unfold Builtin.SmallTypes.ownedTupleIsFree;refine ay0 (jy5 e4 rfl (x := .none) rfl (ay2 ?_));simp only [if_true];refine ay0 (my9 (ay0 (jy5 e4 rfl (x := old) rfl (ay0 (jy0 e4 (by simp) fun g5 (e5 : IsEnum g5 e it ((i : Int) + 1) x) (sb5 : fy5 e g4 g5) => ?_)))));show wpAny _ _ (wy4 (.ref e) (.ref hp.objs.size) >>= _) _ _ ⟨g5, gn, dw, tk + 1, os⟩;refine ay0 ?_;unfold Builtin.SmallTypes.ownedTupleHandOut;refine ay0 (jy0 e5 (by simp) fun g6 (e6 : IsEnumOut g6 e it ((i : Int) + 1) x hp.objs.size) (sb6 : fy5 e g5 g6) => ?_);refine jy0 e6 (by simp) fun g7 (e7 : IsEnumOut g7 e it ((i : Int) + 1) x hp.objs.size) (sb7 : fy5 e g6 g7) => ?_;have all : ∀ b o, b ≠ e -> g4.get? b = some o -> g7.get? b = some o := fun b o be hb => ft sb7 b o be (ft sb6 b o be (ft sb5 b o be hb));refine ay0 (wpAny_letGo (ay2 ⟨_, rfl, ay2 (q g7 e7 ?_ (all _ _ (ky5 hel) t4) fun b o be bi hb => all b o be (k4 b o be bi hb))⟩));obtain ⟨o, g, r⟩ := s4;exact ⟨o, all it o (fy4 hne) g, r⟩
theorem zB2 {it t : Addr} {i : Nat} {xs : Array Value} {Q : Value -> Shared -> Prop} (hh : A.handled = none) (st : s.heap.IsTupleIter it t i) (tp : s.heap.IsTuple t xs) (hx : xs[i]? = none)
  (q : ∀ g x, Heap.ExtBut it s.heap g -> (∃ o, g.get? x = some o /\ o.cls = .type "StopIteration") -> E (.ref x) { s with heap := g }) : wpAny (model prog w) A (ry4 (.ref it)) Q E s := by
 have ty := st.typeIs;obtain ⟨oi, gi, ci, di⟩ := st;obtain ⟨ot, gt, ct, nt, dt⟩ := tp;unfold Builtin.SmallTypes.nextOf;refine ay0 (fy0 (name := ly1 "__next__") ty my4 (dy3 my4 ty PySem.F.entry_tuple_iterator_next ?_ (PySem.F.args_tuple_iterator_next_1 _)));show wpAny _ _ (field (.ref it) 0 >>= _) _ _ s;refine ay0 (jy5 gi di (x := .ref t) rfl ?_);show wpAny _ _ (if (cy7 t == dy4) = true then _ else _) _ _ s;rw [if_neg (show ¬ ((cy7 t == dy4) = true) by simp)];show wpAny _ _ (field (.ref it) 1 >>= _) _ _ s;refine ay0 (jy5 gi di (x := .int i 0) rfl ?_);show wpAny _ _ (seqItems? (.ref t) >>= _) _ _ s;refine ay0 (ry5 gt dt ?_);simp only [ky3, hx];refine ay0 (my9 (ay0 (ky0 gi di (by simp) ?_)));show wpAny _ _ (newExc (.type "StopIteration") [] >>= _) _ _ _;refine ay0 ?_;simp only [newExc, newTuple];refine ay0 (dy8 (ay0 (m := firstArgMember _ _) (wpAny_of_eq (a := dy4) (by first | rfl | (simp only [firstArgMember]; rfl)) (dy8 ?_ (by size_fits)))) (by size_fits));simp only [raiseNew];refine ay0 (wpAny_handled ?_)
 first | rw [show A.in1.handled = none from hh] | rw [hh]
 exact ay0 (ay2 (wpAny_throw (q _ _ (((hy4 ..).extBut.push _).push _) ⟨_, ay7 _ rfl, rfl⟩)))
theorem za35 {e it t : Addr} {i : Nat} {xs : Array Value} {old : Value} {Q : Option Value -> Shared -> Prop} (hh : A.handled = none) (he : IsEnum s.heap e it i old) (st : s.heap.IsTupleIter it t i) (tp : s.heap.IsTuple t xs) (hx : xs[i]? = none)
  (q : ∀ g, Heap.ExtBut it s.heap g -> Q none { s with heap := g }) : wpAny (model prog w) A (pyNext (.ref e)) Q E s := by
 have ty : s.TypeIs (.ref e) "enumerate" := ⟨_, he, rfl⟩
 unfold pyNext;refine ay0 (py1 (fy0 (name := ly1 "__next__") ty py8 (dy3 py8 ty PySem.F.entry_enumerate_next ?_ (PySem.F.args_enumerate_next_1 _))));show wpAny _ _ (field (.ref e) 2 >>= _) _ _ _;refine ay0 (jy5 he rfl (x := .ref it) rfl (ay0 (zB2 hh st tp hx fun g x eb ⟨o, ho, hc⟩ => ?_)));exact ay0 (ky8 (T := "StopIteration") (b := true) ⟨o, ho, hc⟩ isSubtype_stop (ay2 (q _ eb)))
end
open AutoSeq1 (wpAny_loadPart') in
theorem zL0 (t : Addr) (o : Obj) (xs : Array Value) (n : Nat) (hc : o.cls = .type "tuple") (hd : o.data = .seq xs n) :
  Meets (oy6.«enumerate.__new__» ⟨[.type "enumerate", .ref t], []⟩) (fun _ R s => s.heap.get? t = some o /\
   R (.ok (.ret (.ref (s.heap.push { cls := .type "tuple_iterator", data := .fields #[.ref t, .int 0 0] }).objs.size)))
    { s with heap := (s.heap.push { cls := .type "tuple_iterator", data := .fields #[.ref t, .int 0 0] }).push { cls := .type "enumerate", data := .fields #[.none, .bool false, .ref s.heap.objs.size, rawInt 0, .none, .none] } }) :=
 .of_wp fun prog w A R s h => by
  obtain ⟨hp, g, d, tk, os⟩ := s;obtain ⟨ht, h⟩ := h;have hsub := sub_enumerate;have tp : Heap.IsTuple (Shared.heap ⟨hp, g, d, tk, os⟩) t xs := ⟨o, ht, hc, n, hd⟩
  wp_walk using uy7 ht
  refine wpAny_stack_any fun st => ay2 ?_
  split
  ·rename_i c _ _ _ _ _
   cases (c == qy3 "enumerate")
   ·wp_walk using uy7 ht, wpAny_pyIter_tuple tp
    exact ⟨_, rfl, h⟩
   ·wp_walk using uy7 ht, wpAny_pyIter_tuple tp
    exact ⟨_, rfl, h⟩
  ·wp_walk using uy7 ht, wpAny_pyIter_tuple tp
   exact ⟨_, rfl, h⟩
section
end
section
variable {prog : cy8} {w : World} {A : Around} {E : Value -> Shared -> Prop} {s : Shared}
abbrev itO (t : Addr) : Obj := { cls := .type "tuple_iterator", data := .fields #[.ref t, .int 0 0] }
abbrev enO (it : Addr) : Obj := { cls := .type "enumerate", data := .fields #[.none, .bool false, .ref it, rawInt 0, .none, .none] }
theorem zU0 {t : Addr} {xs : Array Value} {Q : Value -> Shared -> Prop} (tp : s.heap.IsTuple t xs)
  (h : IsEnum ((s.heap.push (itO t)).push (enO s.heap.objs.size)) (s.heap.objs.size + 1) s.heap.objs.size 0 .none -> Q (.ref (s.heap.objs.size + 1)) { s with heap := (s.heap.push (itO t)).push (enO s.heap.objs.size) }) :
  wpAny (model prog w) A (call (.type "enumerate") [.ref t]) Q E s := by
 obtain ⟨o, ht, hc, n, hd⟩ := tp;have z : (s.heap.push (itO t)).objs.size = s.heap.objs.size + 1 := ny3 ..;have made := ay7 (s.heap.push (itO t)) (o := enO s.heap.objs.size) rfl;rw [z] at made;refine callType_new PySem.F.called_enumerate (by decide) (PySem.F.typeCall_enumerate_1 _) (PySem.F.newCall_enumerate_1 _) (fun obj => PySem.F.args_object_init_2 obj _) PySem.F.entry_enumerate_new (zL0 t o xs n hc hd) ⟨ht, ?_⟩;show _ /\ _;rw [z];exact ⟨⟨_, made, rfl⟩, h made⟩
end
def Ite (K : ay5) (a : Addr) : It :=
 ⟨fun i H => ∃ xs x, SqT K H a xs /\ xs[i]? = some x, fun i H y H' => ∃ p x, y = .ref p /\ H p = none /\ H' = upd H p (.tup [.int i, x]) /\ ∀ xs, SqT K H a xs -> xs[i]? = some x, fun i H => ∃ xs, SqT K H a xs /\ xs.length <= i⟩
theorem zU1 {P : cy8} {w : World} {K : ay5} {elts : List Expr} {c : Nat} {tp : Pos} (a e it : Addr) (hne : e ≠ it) :
  Turn P w K (.Tuple elts c tp) (Ite K a) [e, it] e (fun i h => (∃ old, IsEnum h e it i old) /\ h.IsTupleIter it a i) where
 mem := by simp
 obj := fun i h ⟨⟨old, he⟩, o, g, _, d⟩ b hb => by
  rcases by7.mp hb with rfl | hb
  ·exact ⟨_, he, fun v z => by cases z⟩
  ·cases ey7.mp hb;exact ⟨o, g, fun v z => by rw [d] at z; cases z⟩
 keep := fun i h h' ⟨⟨old, he⟩, o, g, r⟩ k => ⟨⟨old, k e (by simp) _ he⟩, o, k it (by simp) o g, r⟩
 item := by
  intro X hP hw hK hc i pins s σ H E I hf ⟨⟨old, he⟩, st⟩ hg;subst hP hw hK;obtain ⟨xs, x, hq, hx⟩ := hg;obtain ⟨its, rv, p, hz⟩ := I.tuple hq;obtain ⟨u, hu, ru⟩ := rv.get hx;have fe := hf e (by simp);have fi := hf it (by simp);have nn : H s.heap.objs.size = none := I.hok.fresh (ay6 _);refine zT9 he st (show s.heap.IsTuple a its.toArray from p) (x := u) (by simpa using hu) hne fun g eo st' t' kp => ?_;refine ⟨_, rfl, wpAny_letOwnedTupleGo_enum eo fun g2 e2 sb => ?_⟩;have sb : fy5 e g g2 := sb;have hel : s.heap.objs.size ≠ e := ky5 (by1 he);have k2 : ∀ b o, b ≠ e -> b ≠ it -> s.heap.get? b = some o -> g2.get? b = some o := fun b o be bi hb => (sb.2 b be).trans (kp b o be bi hb);have tracked : ∀ b u, H b = some u -> b ≠ e /\ b ≠ it := fun b u hb => ⟨za3 hb fe.1, za3 hb fi.1⟩
  have t2 : g2.get? s.heap.objs.size = some { cls := .type "tuple", data := .seq #[.int i s.toks, u] } := (sb.2 _ hel).trans t'
  have st2 : g2.IsTupleIter it a (i + 1) := by
   obtain ⟨o, go, r⟩ := st';exact ⟨o, (sb.2 it (fy4 hne)).trans go, r⟩
  refine ⟨.ref s.heap.objs.size, upd H s.heap.objs.size (.tup [.int i, x]), I.zb14 (ch := [e, it]) rfl ⟨fun b o q n hb hx => ?_, fun b o q n hb hx => ?_, fun b o q n hx => ?_, fun b o q hx => ?_, fun b ys q => ?_, fun b o v q => ?_, fun b ps q => ?_⟩ (fun b v q => ?_) I.bare (fun b hb => ?_), rfl, ⟨_, x, rfl, nn, rfl, fun ys hy => by rw [I.zE1 hy hq]; exact hx⟩, ⟨⟨u, e2⟩, st2⟩, fun b hb => ?_⟩
  ·exact k2 b o (fun z => hx (by simp [z])) (fun z => hx (by simp [z])) q
  ·exact ⟨o.slots, k2 b o (fun z => hx (by simp [z])) (fun z => hx (by simp [z])) q⟩
  ·rw [za5 (by6 (by1 q))];exact n
  ·exact ⟨o, k2 b o (fun z => hx (by simp [z])) (fun z => hx (by simp [z])) q⟩
  ·rw [za5 (za3 q nn)]; exact q
  ·rw [za5 (za3 q nn)]; exact q
  ·exact ⟨#[], by rw [za5 (za3 q nn), Array.append_empty]; exact q⟩
  ·by_cases hb : b = s.heap.objs.size
   ·subst hb;rw [zb3] at q;cases q;exact ⟨by show 2 <= by2; decide, [.int i s.toks, u], .cons ⟨_, rfl⟩ (.cons ru .nil), _, t2, rfl, _, rfl⟩
   ·rw [za5 hb] at q;refine (I.hok b v q).zR6 (fun c w' hc z => ?_) (fun c z => by rw [za5 (za3 z nn)]; exact z) fun c ys z => by rw [za5 (za3 z nn)]; exact z
    rcases hc with rfl | hc
    ·exact k2 c w' (tracked c v q).1 (tracked c v q).2 z
    ·exact k2 c w' (tracked c _ hc).1 (tracked c _ hc).2 z
  ·rcases by7.mp hb with rfl | hb
   ·exact ⟨fe.2.2.2.1, fe.2.1, fe.2.2.2.2⟩
   ·cases ey7.mp hb;exact ⟨fi.2.2.2.1, fi.2.1, fi.2.2.2.2⟩
  ·have hb1 := (hf b hb).1
   have : b ≠ s.heap.objs.size := by
    rcases by7.mp hb with rfl | hb
    ·exact fy4 hel
    ·cases ey7.mp hb;obtain ⟨o, go, _⟩ := st;exact by6 (by1 go)
   rw [za5 this];exact hb1
 done := by
  intro X hP hw hK hc i pins s σ H E I hf ⟨⟨old, he⟩, st⟩ hg;subst hP hw hK;obtain ⟨xs, hq, hx⟩ := hg;obtain ⟨its, rv, p, hz⟩ := I.tuple hq;obtain ⟨f0, f1, f2, f3, f4, f5⟩ := hf it (by simp);have hl := rv.length;exact za35 (I.ok.hd hc) he st (show s.heap.IsTuple a its.toArray from p) (by simp; omega) fun g eb => ⟨rfl, I.turned (t' := s.toks) (fun b o hb e => eb b o hb e) f0 f1 f3 f4 f5⟩
 self := fun _ _ _ _ _ ⟨⟨old, he⟩, _⟩ h => wpAny_pyIter_enum he h
section
variable {X : Cx}
def zd77 (K : ay5) (ta : TA) : TI := fun σ H R => ta σ H fun vs H1 => ∃ a xs, vs = [.ref a] /\ SqT K H1 a xs /\ R (Ite K a) H1
theorem zb47 {elts : List Expr} {c : Nat} {tp : Pos} {a : Expr} {ta : TA} {p pos : Pos} (hg : Gl X "enumerate") (hm : X.mg "enumerate" = none) (ha : PA X [a] ta) (hs : fy6 [a] X.env = [(false, eval a X.env)] := by rfl) : PI X (.Tuple elts c tp) (.Call (.Name "enumerate" p) [a] [] pos) (zd77 X.K ta) := by
 intro pins s σ H R I h;refine Call_ (zE0 I hg hm boot_enumerate (uy5 (thn (ha pos pins s σ H _ I h) fun us s1 ⟨vs, H1, I1, r1, q1⟩ => ?_) hs rfl));obtain ⟨b, xs, rfl, hq, q⟩ := q1;cases r1 with
 | cons r rr =>
  cases rr;cases r;obtain ⟨its, rv, tp, hz⟩ := I1.tuple hq;refine zU0 (show s1.heap.IsTuple b its.toArray from tp) fun he => ?_;refine wpAny_pyIter_enum he ?_;have kp : ∀ c o, s1.heap.get? c = some o -> ((s1.heap.push (itO b)).push (enO s1.heap.objs.size)).get? c = some o := fun c o z => ay1 _ (ay1 _ z);refine ⟨s1.heap.objs.size + 1, [s1.heap.objs.size + 1, s1.heap.objs.size], _, _, H1, rfl, I1.kept (t' := s1.toks) kp, zU1 b _ _ (Nat.succ_ne_self _), ⟨⟨.none, he⟩, _, ay1 _ (ay7 _ rfl), rfl, rfl⟩, fun c hc => ?_, q⟩
  have hc : s1.heap.objs.size <= c := by
   rcases by7.mp hc with z | z
   ·rw [z]; exact ry1 _
   ·rw [ey7.mp z]; exact ay6 _
  exact I1.zY5 hc (I1.hok.fresh hc)
end
section
variable {X : Bc} {n : Nat} {S : Sl} {W : Wl} {D : DB}
theorem zc63 {elts : List Expr} {c : Nat} {tp : Pos} {a : Expr} {p ipos : Pos} {body : List Stmt} {pos : Pos} (hp : PassesOwn (model X.prog X.w) X.A X.env X.xe) (hc : X.calm = true) (hg : Gl X "enumerate") (hm : X.mg "enumerate" = none)
  (h : BA X S W [a] fun as W1 => ∃ (ds : List PyData) (mb : Nat) (P : Nat -> Sl -> Wl -> Prop), as = [.d (.tuple ds)] /\ n <= mb /\ mb <= W1.length /\ P 0 S W1 /\
   (∀ i d S' W', ds[i]? = some d -> P i S' W' -> BG X S' W' (.Tuple elts c tp) (.d (.tuple [.int i, d])) fun S2 W2 => BSs X mb S2 W2 body { D with nx := P (i + 1), ct := P (i + 1), bk := D.nx }) /\ ∀ S' W', P ds.length S' W' -> D.nx S' W')
  (hst : fy6 [a] X.env = [(false, eval a X.env)] := by rfl)
  (hs : ∀ x, ey1 (.Call (.Name "enumerate" p) [a] [] ipos) X.env x = pure x := by intro _; rfl) : BS X n S W (.For (.Tuple elts c tp) (.Call (.Name "enumerate" p) [a] [] ipos) body [] pos) D :=
 .of (zb96 hp hc (zb47 hg hm pa_U hst) pg_U zS8 hs) fun F A σ H E hn x0 r sr q => h.use x0.am r sr fun F1 A1 W1 H1 as vs e1 r1 z1 zR => by
  obtain ⟨ds, mb, P, hd, hnm, hmb, p0, hstep, hdone⟩ := zR;subst hd;obtain ⟨v, rfl, zv⟩ := zg5 z1;obtain ⟨b, ws, rfl, hv, z⟩ := Rq.zg3 zv;have hl : ∀ {F' A' W' H'}, Ex1 mb F1 A1 F' A' -> RW X.K F' A' W' H' -> SqT X.K H' b ws := fun x r' => r'.sub.zr7 (x.same.zr7 hv);have hmA : mb <= A1.length := by rw [r1.len]; exact hmb
  refine ⟨b, ws, rfl, r1.sub.zr7 hv, fun i μ σ' H' => μ = ds.length - i /\ i <= ds.length /\ ∃ F' A' S' W', Ex1 mb F1 A1 F' A' /\ RW X.K F' A' W' H' /\ SR X.K F' A' S' σ' /\ P i S' W', ⟨ds.length, by simp, dy5 _, F1, A1, S, W1, .refl hmA, r1, sr.ext e1, p0⟩, ?_⟩;rintro i μ σ' H' ⟨rfl, hi, F', A', S', W', x, r', sr', pp⟩;have hwl : ds.length = ws.length := zb1 z
  by_cases hlt : i < ds.length
  ·refine .inr ⟨⟨ws, ws[i], hl x r', by simp⟩, fun σ2 H2 => ∃ F2 A2 S2 W2, Ex1 mb F1 A1 F2 A2 /\ RW X.K F2 A2 W2 H2 /\ SR X.K F2 A2 S2 σ2 /\ P (i + 1) S2 W2, fun σ2 H2 p2 => ⟨ds.length - (i + 1), by omega, rfl, hlt, p2⟩, fun v H'' hy => ?_⟩;obtain ⟨t, y, rfl, hn', rfl, hget⟩ := hy;obtain ⟨d, hd', zd⟩ := ze2 z (hget ws (hl x r'));obtain ⟨r2, e2⟩ := r'.newF hn' (.tup [.int i, y]);have zt : ElR X.K (upd F' t (.tup [.int i, y])) A' (.d (.tuple [.int i, d])) (.ref t) := .dd (Rq.tup (SqT.of zb3) (.cons (Rq.int i) (.cons (Rq.same e2.same _ (Rq.same x.same _ zd)) .nil)));have x2 : Ex1 mb F1 A1 (upd F' t (.tup [.int i, y])) A' := x.trans hmA (e2.ex1 x.len);refine hstep i d S' W' hd' pp _ A' σ' _ _ _ ((x0.ext e1).up hnm |>.ex1 hmA x2).am r2 (sr'.ext e2) zt fun F3 A3 W3 H3 S3 σ3 x3 r3 sr3 h3 => ?_;have x13 : Ex1 mb F1 A1 F3 A3 := x2.trans hmA (x3.ex1 x2.len);have q2 := q.ext hn ((e1.ex1 hn).trans hn (x13.le hnm));exact h3.use x13.len (((x0.ext e1).up hnm).ex1 hmA x13) r3 sr3 ⟨fun F4 A4 W4 H4 S4 σ4 x4 r4 sr4 h4 => ⟨F4, A4, S4, W4, x13.trans hmA x4, r4, sr4, h4⟩, fun F4 A4 W4 H4 S4 σ4 x4 => q2.nx F4 A4 W4 H4 S4 σ4 (x4.le hnm), fun F4 A4 W4 H4 S4 σ4 x4 r4 sr4 h4 => ⟨F4, A4, S4, W4, x13.trans hmA x4, r4, sr4, h4⟩, fun F4 A4 W4 H4 e v x4 => q2.rt F4 A4 W4 H4 e v (x4.le hnm)⟩
  ·have hie : i = ds.length := by omega
   subst hie;exact .inl ⟨⟨ws, hl x r', by omega⟩, (q.ext hn (e1.ex1 hn)).nx F' A' W' H' S' σ' (x.le hnm) r' sr' (hdone S' W' pp)⟩
end
end L2
namespace L2
open PySem PySem.Spec PyProof.Rows PySem.SeqAt PySem.MeetsSeq
section
variable {X : Bc} {S : Sl} {W : Wl} {k : KB}
end
end L2
namespace L2
open PySem PySem.Spec PyProof.Rows
theorem zc64 : ∀ {ns : List Int} {us : List Value}, Vals (ns.map V.int) us -> ∃ l : List (Int × Tok), us = l.map (fun p => Value.int p.1 p.2) /\ l.map (·.1) = ns := by
 intro ns
 induction ns with
 | nil => intro us r; rw [List.map_nil] at r; cases r; exact ⟨[], rfl, rfl⟩
 | cons b bs ih =>
  intro us r;rw [ey6] at r;cases r with
  | cons r1 r2 =>
   obtain ⟨t, rfl⟩ := r1;obtain ⟨l, rfl, e⟩ := ih r2;exact ⟨(b, t) :: l, rfl, by rw [ey6, e]⟩
section
variable {X : Cx}
theorem zb48 (hc : X.calm = true) : zj0 X (.builtin "sum") (fun xs H Q => ∃ (p : Addr) (ns : List Int), xs = [.ref p] /\ SqL X.K H p (ns.map V.int) /\ Q (.int ns.sum) H) := by
 intro pins s σ H xs us Q I r h;obtain ⟨p, ns, rfl, hq, q⟩ := h;cases r with
 | cons r rr =>
  cases rr;cases r;obtain ⟨its, rv, pl, hz⟩ := I.list hq;obtain ⟨l, rfl, e⟩ := zc64 rv;refine sum_intListG (xs := l.toArray) (I.ok.hd hc) ?_ fun h' tk t' hk => ?_
  ·have := pl.isList;simpa [intItems] using this
  ·have e2 : preSum (numAt l.toArray) l.toArray.size = ns.sum := by
    rw [preSum_eq, my7 (by simp), <- e]
   rw [e2];exact ⟨.int ns.sum, H, I.kept hk, ⟨_, rfl⟩, q⟩
end
section
variable {X : Bc} {W : Wl} {k : KB}
theorem zd78 {x : El} {ns : List Int} (hc : X.calm = true) (hx : zS6 W x (ns.map .int)) (h : k (.d (.int ns.sum)) W) : CB X (.builtin "sum") [x] W k := .of (zb48 hc) fun F A H Q vs r zs q => by
 obtain ⟨v, rfl, z⟩ := zg5 zs;obtain ⟨a, vs, rfl, hs, z⟩ := r.lst z hx;obtain rfl := za19 z;exact ⟨a, ns, rfl, .inl hs, q.same r (.dd (Rq.int _)) h⟩
end
theorem zO8 : ∀ {vs : List Value} {ss : List Str}, StrsAre vs ss -> Vals (ss.map V.str) vs
 | _, _, .nil => .nil
 | _, _, .cons y t h => .cons ⟨t, rfl⟩ (zO8 h)
section
variable {X : Cx}
end
section
variable {X : Bc} {W : Wl} {k : KB}
end
def leS (a b : Str) : Prop := ¬ b.cps.toList < a.cps.toList
theorem zb49 {a b : Str} (h1 : leS a b) (h2 : leS b a) : a = b := by
 have h3 : a.cps.toList <= b.cps.toList := List.not_lt.mp h1;have h4 : b.cps.toList <= a.cps.toList := List.not_lt.mp h2;have e := List.le_antisymm h3 h4;cases a; cases b;simp at e;simp [e]
def zo2 (P : cy8) (w : World) (h : Heap) (a : Addr) (ks : List Str) : Prop :=
 ∃ o es ep t, h.get? a = some o /\ o.ExactSet /\ o.data = .set es ep t /\ ElemsOf (hy3 P w) es.toList /\ es.size < sy3 /\ t.fits es.size = true /\ (es.size ≠ 0 -> t.plain = false) /\
  (es.toList.map fun e => strOf e.2).Perm ks /\ ks.Nodup
theorem zG4 {t : SetTable} {es : Array (Int × Value)} {h : Int} {x : Value} (e : (layNew t es h x).2.1.plain = true) : t.plain = true := by
 unfold layNew at e
 split at e
 ·simp only [SetTable.orStandIn] at e
  split at e
  ·exact e
  ·simp [SetTable.standIn] at e
 ·simp [SetTable.standIn] at e
theorem zU2 {m f mv : Nat} {l p : Bool} {hs : Array Int} {t' : SetTable} {o : Array Nat} (e : SetTable.laid m f mv l p hs = some (t', o)) : t'.plain = p := by
 unfold SetTable.laid at e;cases q : SetTable.layClean m hs with
 | none => rw [q] at e; simp at e
 | some ow =>
  rw [q] at e;simp at e;rw [<- e.1]
theorem zL1 {t : SetTable} {es : Array (Int × Value)} {n : Nat} (e : (relayAll t es n).2.1.plain = true) : t.plain = true := by
 unfold relayAll at e
 split at e
 ·rename_i t' o q
  simp only at e
  split at e
  ·simp only at e;rw [zU2 q] at e;exact e
  ·simp [SetTable.standIn] at e
 ·simp [SetTable.standIn] at e
section
variable {P : cy8} {w : World} {A : Around} {E : Value -> Shared -> Prop} {s : Shared}
theorem za36 {es : List (Int × Value)} (h : ElemsOf (hy3 P w) es) {e : Int × Value} (he : e ∈ es) (k : Str) : (hy3 P w).is k e.2 = true ↔ strOf e.2 = k := by
 obtain ⟨⟨k', hk, _⟩, _⟩ := h e he;obtain ⟨t, q⟩ := wy7 hk;rw [q];constructor
 ·intro z;obtain ⟨t', q'⟩ := wy7 (x := k) (show Value.isStrOf k (.str k' t) = true from z);cases q';rfl
 ·intro z;cases z;exact PySem.strKind_is P w _ t
theorem zO9 {h : Heap} {a : Addr} {o : Obj} {es es' : Array (Int × Value)} {ep : Nat} {t t' : SetTable} {ks : List Str} (c1 : h.get? a = some o) (c2 : o.ExactSet) (c3 : o.data = .set es ep t)
  (c4 : ElemsOf (hy3 P w) es'.toList) (c5 : es'.size < sy3) (c6 : t'.fits es'.size = true) (c7 : t'.plain = false) (c8 : (es'.toList.map fun e => strOf e.2).Perm ks) (c9 : ks.Nodup) :
  zo2 P w (h.update a (Obj.putSet es' t')) a ks /\ (h.update a (Obj.putSet es' t')).get? a = some { o with data := .set es' (ep + 1) t' } := by
 have c := (SetOf_store (knd := hy3 P w) (S' := fun k => es'.toList.any fun e => (hy3 P w).is k e.2) c1 c2 c3 c4 (fun k => by rw [wy6]) c5 c6).1;exact ⟨⟨_, es', ep + 1, t', c, c2, rfl, c4, c5, c6, fun _ => c7, c8, c9⟩, c⟩
theorem zP0 {a : Addr} {ks : List Str} {k : Str} {tk : Tok} {Q : Bool -> Shared -> Prop} (hS : zo2 P w s.heap a ks) (hr : ks.length + 1 < sy3)
  (h : ∀ b h', fy5 a s.heap h' -> zo2 P w h' a (if k ∈ ks then ks else ks ++ [k]) -> Q b { s with heap := h' }) :
  wpAny (model P w) A (setAddHashed a (.str k tk) ((hy3 P w).hash k)) Q E s := by
 obtain ⟨o, es, ep, t, g1, g2, g3, g4, g5, g6, g7, g8, g9⟩ := hS;have hn : es.size = ks.length := by have := g8.length_eq; simpa using this
 have hk : (hy3 P w).is k (.str k tk) = true := PySem.strKind_is P w k tk;have hsc : (Value.str k tk).scannable = true := rfl
 have mem : k ∈ ks ↔ ∃ e ∈ es.toList, (hy3 P w).is k e.2 = true := by
  rw [<- g8.mem_iff, cy4];exact ⟨fun ⟨e, he, q⟩ => ⟨e, he, (za36 g4 he k).mpr q⟩, fun ⟨e, he, q⟩ => ⟨e, he, (za36 g4 he k).mp q⟩⟩
 unfold setAddHashed setAddHashedIn;refine ey5 (ay0 (wpAny_setState_of g1 g3 g6 ?_));dsimp only;rw [byScan_of hsc g5 g4, if_pos rfl];unfold setAddByScan;refine ay0 (ay0 (my9 (ay0 (wpAny_setScan_of hk g1 g3 g6 g4 ?_))));cases hf : es.toList.findIdx? (fun e => (hy3 P w).is k e.2) with
 | some j =>
  obtain ⟨hj, hp, _⟩ := List.findIdx?_eq_some_iff_getElem.mp hf;have hm : k ∈ ks := mem.mpr ⟨es.toList[j], qy4 hj, hp⟩;dsimp only;refine ay2 (ay2 ?_);exact h _ s.heap (Heap.SameBut.refl a s.heap) (by rw [if_pos hm]; exact ⟨o, es, ep, t, g1, g2, g3, g4, g5, g6, g7, g8, g9⟩)
 | none =>
  have hm : k ∉ ks := fun z => by
   obtain ⟨e, he, q⟩ := mem.mp z;have := List.findIdx?_eq_none_iff.mp hf e he;rw [q] at this;cases this
  rw [if_neg hm] at h;dsimp only
  have give : ∀ (b : Bool) {s1 : Shared} {R : Unit -> Shared -> Prop}, R () s1 -> wpAny (model P w) A (match b with | true => rule "set.scan.the-table-gave-way" | false => pure ()) R E s1 := fun b s1 R q => by
   cases b
   ·exact ay2 q
   ·exact my9 q
  have lp := layNew_perm t es ((hy3 P w).hash k) (.str k tk);have lf := layNew_fits t es ((hy3 P w).hash k) (.str k tk);have lq := @zG4 t es ((hy3 P w).hash k) (.str k tk);generalize layNew t es ((hy3 P w).hash k) (.str k tk) = L at lp lf lq ⊢;obtain ⟨e1, t1, was, gave⟩ := L;dsimp only at lp lf lq ⊢;rw [Array.toList_push] at lp;have d4 : ElemsOf (hy3 P w) e1.toList := (g4.push hk hsc).perm lp
  have dl : e1.size = ks.length + 1 := by
   have := lp.length_eq;simp at this;omega
  have d5 : e1.size < sy3 := by omega
  have d8 : (e1.toList.map fun e => strOf e.2).Perm (ks ++ [k]) := by
   refine (lp.map _).trans ?_;rw [fy3];exact g8.append (xy7 _)
  have d9 : (ks ++ [k]).Nodup := zv6 g9 hm;refine ay0 (give _ ?_)
  have go : ∀ t2 : SetTable, t2.fits e1.size = true -> t2.plain = false -> wpAny (model P w) A (do
    storeSet a e1 t2
    if (!was && t2.tooFull) = true then do
      (match (relayAll t2 e1 (ty9 e1.size)).2.2 with | true => rule "set.scan.the-table-gave-way" | false => pure ())
      storeSet a (relayAll t2 e1 (ty9 e1.size)).1 (relayAll t2 e1 (ty9 e1.size)).2.1
      pure (some true)
     else pure (some true)) (fun r s' => wpAny (model P w) A (match r with | some added => pure added | none => setAddHashedIn a (.str k tk) ((hy3 P w).hash k) 99999) Q E s') E s := by
   intro t2 f2 p2;obtain ⟨S2, gg⟩ := zO9 (P := P) (w := w) (es' := e1) (t' := t2) g1 g2 g3 d4 d5 f2 p2 d8 d9;have sb := hy4 s.heap a (Obj.putSet e1 t2);refine ay0 (wpAny_storeSet_of g1 g3 ?_ (fits_of_scanBound d5))
   split
   ·have rp := relayAll_perm t2 e1 (ty9 e1.size);have rf := relayAll_fits t2 e1 (ty9 e1.size);have rq := @zL1 t2 e1 (ty9 e1.size);generalize relayAll t2 e1 (ty9 e1.size) = R at rp rf rq ⊢;obtain ⟨e2, t3, g⟩ := R;dsimp only at rp rf rq ⊢;have z : e2.size = e1.size := by have := rp.length_eq; simpa using this
    have p3 : t3.plain = false := by
     cases q : t3.plain with
     | false => rfl
     | true => rw [rq q] at p2; cases p2
    refine ay0 (give _ (ay0 (wpAny_storeSet_of gg rfl ?_ (fits_of_scanBound (by rw [z]; exact d5)))));obtain ⟨S3, _⟩ := zO9 (P := P) (w := w) (es' := e2) (t' := t3) (ks := ks ++ [k]) gg g2 rfl (d4.perm rp) (by rw [z]; exact d5) rf p3 ((rp.map _).trans d8) d9;exact ay2 (ay2 (h _ _ (sb.trans (hy4 _ a _)) S3))
   ·exact ay2 (ay2 (h _ _ sb S2))
  by_cases hp : t1.plain = true
  ·rw [if_pos hp, hashByValue_scannable 8 hsc];refine ay0 (ay2 ?_);exact go { t1 with plain := false } (SetTable.fits_plain_off lf) rfl
  ·rw [if_neg hp];refine ay0 (ay2 ?_);exact go t1 lf (by simpa using hp)
end
def zv8 (ks : List Str) (k : Str) : List Str := if k ∈ ks then ks else ks ++ [k]
def zc7 (xs : List Str) : List Str := xs.foldl zv8 []
theorem za37 (ks : List Str) (k : Str) : (zv8 ks k).length <= ks.length + 1 := by unfold zv8; split <;> simp
theorem zG5 : ∀ (xs ks : List Str), (xs.foldl zv8 ks).length <= ks.length + xs.length
 | [], _ => by simp
 | x :: xs, ks => by
  have a := zG5 xs (zv8 ks x);have b := za37 ks x;simp only [xy4, oy4];omega
theorem zG6 (xs : List Str) : (zc7 xs).length <= xs.length := by have := zG5 xs []; simpa [zc7] using this
theorem zG7 (z : Str) : ∀ (xs ks : List Str), z ∈ xs.foldl zv8 ks ↔ z ∈ ks \/ z ∈ xs
 | [], _ => by simp
 | x :: xs, ks => by
  rw [xy4, zG7 z xs];unfold zv8
  split
  ·rename_i h
   constructor
   ·rintro (a | a)
    ·exact .inl a
    ·exact .inr (.tail _ a)
   ·rintro (a | a)
    ·exact .inl a
    ·rcases by7.mp a with rfl | a
     ·exact .inl h
     ·exact .inr a
  ·simp [or_assoc]
theorem zg7 {z : Str} {xs : List Str} : z ∈ zc7 xs ↔ z ∈ xs := by rw [zc7, zG7]; simp
theorem zP1 : ∀ (xs ks : List Str), ks.Nodup -> (xs.foldl zv8 ks).Nodup
 | [], _, h => h
 | x :: xs, ks, h => by
  rw [xy4];refine zP1 xs _ ?_;unfold zv8
  split
  ·exact h
  ·rename_i q; exact zv6 h q
theorem zp2 (xs : List Str) : (zc7 xs).Nodup := zP1 xs [] List.nodup_nil
theorem zy3 (xs : List Str) (x : Str) : zc7 (xs ++ [x]) = zv8 (zc7 xs) x := by simp [zc7]
section
variable {P : cy8} {w : World} {A : Around} {R : Result -> Shared -> Prop} {I : Addr} {fp wr : List Addr} {G : Array GenState -> Array GenState -> Prop} {St : Nat -> Shared -> Prop} {xs : List Str}
theorem zo2.move {h h' : Heap} {a : Addr} {ks : List Str} (x : zo2 P w h a ks) (k : ∀ o, h.get? a = some o -> h'.get? a = some o) : zo2 P w h' a ks := by
 obtain ⟨o, es, ep, t, g1, r⟩ := x;exact ⟨o, es, ep, t, k o g1, r⟩
theorem zG8 {n : Nat} {P1 P2 : Nat -> Value -> Prop} (W : WalksS P w A I fp wr G n P1 St) (h : ∀ i v, P1 i v -> P2 i v) : WalksS P w A I fp wr G n P2 St :=
 ⟨W.sub, W.grefl, W.gtrans, W.frame, fun i s' Q' E' hi st q => W.item i s' Q' E' hi st fun v s2 hv => q v s2 (h i v hv), W.done, W.self⟩
theorem zb50 (W : WalksS P w A.in1 I fp wr G xs.length (fun i v => ∃ x t, xs[i]? = some x /\ v = .str x t) St) {T : Addr} (hT : T ∉ fp) (few : xs.length + 1 < sy3) :
  ∀ (j i : Nat) (s : Shared), xs.length - i = j -> i <= xs.length -> St i s -> zo2 P w s.heap T (zc7 (xs.take i)) ->
   (∀ s', Moved (T :: wr) G s s' -> zo2 P w s'.heap T (zc7 xs) -> R (.ok (.ret .none)) s') -> ly4 (model P w) A (.builtin "set.update.loop" ⟨[.ref T, .ref I], []⟩) R s := by
 have nw : T ∉ wr := fun z => hT (W.sub _ z);have sub : ∀ b ∈ wr, b ∈ T :: wr := fun b z => by0 _ z;intro j
 induction j with
 | zero =>
  intro i s hj hi st hs q;obtain rfl : i = xs.length := by omega
  refine hy1 F.entry_set_update_loop ?_;rw [fy1 F.plain_set_update_loop _];refine ay0 (W.done s _ _ st fun s' mv => ?_);rw [gy7] at hs;exact ay2 (q s' (mv.mono sub) (hs.move fun o e => mv.heap T o nw e))
 | succ j ih =>
  intro i s hj hi st hs q;have lt : i < xs.length := by omega
  refine hy1 F.entry_set_update_loop ?_;rw [fy1 F.plain_set_update_loop _];refine ay0 (W.item i s _ _ lt st fun v s' hv st' mv => ?_);obtain ⟨x, t, hx, rfl⟩ := hv;have hs1 : zo2 P w s'.heap T (zc7 (xs.take i)) := hs.move fun o e => mv.heap T o nw e;refine ay0 (ey5 ?_);unfold setAdd;refine ey5 (ay0 ((hy3 P w).pyHash (k := x) (PySem.strKind_is P w x t) ?_))
  have room : (zc7 (xs.take i)).length + 1 < sy3 := by
   have a := zG6 (xs.take i);rw [dy2] at a;omega
  refine zP0 (s := { s' with toks := s'.toks + 1 }) hs1 room fun b h' sb hs2 => ?_
  have nxt : zo2 P w h' T (zc7 (xs.take (i + 1))) := by
   have e : xs.take (i + 1) = xs.take i ++ [x] := by rw [ey8, hx]; rfl
   rw [e, zy3];exact hs2
  refine ay2 ⟨iy5 F.plain_set_update_loop _, ih (i + 1) _ (by omega) lt (W.frame _ s' _ _ st' (ry1 _) fun b hb o e => ?_) nxt fun s2 m2 h2 => ?_⟩
  ·rw [sb.2 b fun z => hT (by rw [<- z]; exact hb)]; exact e
  ·refine q s2 (Moved.trans W.gtrans ((mv.mono sub).then_heap (ry1 _) fun b o hb e => ?_) m2) h2;rw [sb.2 b fun z => hb (by rw [z]; exact ay9)]; exact e
theorem za38 : ∀ {vs : List Value} {ss : List Str}, StrsAre vs ss -> ∀ {i : Nat} {v : Value}, vs[i]? = some v -> ∃ x t, ss[i]? = some x /\ v = .str x t
 | _, _, .nil, i, v, e => by simp at e
 | _, _, .cons y t h, 0, v, e => by simp at e; exact ⟨y, t, rfl, e.symm⟩
 | _, _, .cons y t h, i + 1, v, e => by
  obtain ⟨x, u, a, b⟩ := za38 h (i := i) (v := v) (by simpa using e);exact ⟨x, u, by simpa using a, b⟩
theorem zb51 {vs : List Value} {ss : List Str} (h : StrsAre vs ss) : vs.length = ss.length := by rw [<- h.strs, ay4]
set_option maxHeartbeats 3200000 in
theorem za39 {E : Value -> Shared -> Prop} {s : Shared} {l : Addr} {its : Array Value} {ss : List Str} {Q : Value -> Shared -> Prop}
  (hh : A.handled = none) (hl : s.heap.IsList l its) (hi : StrsAre its.toList ss) (few : ss.length + 1 < sy3)
  (h : ∀ (h' : Heap) (tk : Nat), zo2 P w h' s.heap.objs.size (zc7 ss) -> (∀ b o, s.heap.get? b = some o -> h'.get? b = some o) -> Q (.ref s.heap.objs.size) { s with heap := h', toks := tk }) :
  wpAny (model P w) A (call (.type "set") [.ref l]) Q E s := by
 have hsz : its.size = ss.length := by rw [<- zb51 hi, iy4]
 obtain ⟨c, tl, hmro⟩ := vy0.mro;have made := vy0.made;have subt := vy0.sub;refine wpAny_call (codeAny_of_tree ?_);show wpAny _ _ (callAny (.type "set") _) _ _ _;refine ay2 ⟨Code.quiet_builtin _ (by decide +kernel), hy1 F.entry_type_call ?_⟩;rw [Around.under_plain (weight_type_call_type "set" [.ref l] []) rfl];have n1 := vy0.notType;have n2 := vy0.canCreate;have n3 := F.typeCall_set_1 (.ref l)
 repeat any_goals first | assumption | wp_step
 refine uy6 (code_set_new_1 (.ref l) (E := E) (Q₁ := fun ob s1 => ∃ led : Bool, ob = .ref s.heap.objs.size /\ s1 = { s with heap := s.heap.push { cls := .type "set", dict := none, data := .set #[] 0 (.fresh 0 0 led) } }) fun led => ⟨led, rfl, rfl⟩) fun r s1 hr => ?_;cases r with
 | error e => exact hr
 | ok fl =>
  cases fl with
  | ret ob =>
   obtain ⟨led, rfl, rfl⟩ := hr;have hS : (s.heap.push { cls := .type "set", dict := none, data := .set #[] 0 (.fresh 0 0 led) }).get? s.heap.objs.size = some { cls := .type "set", dict := none, data := .set #[] 0 (.fresh 0 0 led) } := ay7 _ rfl;have hT : qy8 { s with heap := s.heap.push { cls := .type "set", dict := none, data := .set #[] 0 (.fresh 0 0 led) } } (.ref s.heap.objs.size) "set" := ⟨_, hS, rfl⟩
   have ili := vy0.init.lookup;have ibi := vy0.init.bind (.ref s.heap.objs.size)
   repeat any_goals first | assumption | wp_step
   refine uy6 (codeAny_call_builtin (R := wants (fun r s2 => r = .none /\ ∃ h' tk, s2 = { s with heap := h', toks := tk } /\ zo2 P w h' s.heap.objs.size (zc7 ss) /\ (∀ b o, s.heap.get? b = some o -> h'.get? b = some o)) E) vy0.init.plain F.entry_set_init (check_set_init_1 hT ?_)) fun r2 s2 hr2 => ?_
   ·obtain ⟨ol, hol, hcl, nl, hdl⟩ := hl;obtain ⟨ocls, odict, odata, oslots⟩ := ol;simp only at hcl hdl;subst hcl; subst hdl;have hol' : (s.heap.push { cls := .type "set", dict := none, data := .set #[] 0 (.fresh 0 0 led) }).get? l = some { cls := .type "list", dict := odict, data := .seq its nl, slots := oslots } := ay1 _ hol;have s1 := F.sub_list_set;have s2 := F.sub_list_frozenset;have s3 : (qy3 "list" == qy3 "dict") = false := by decide
    have hl1 : (s.heap.push { cls := .type "set", dict := none, data := .set #[] 0 (.fresh 0 0 led) }).IsList l its := ⟨_, hol', rfl, nl, rfl⟩
    unfold Builtin.«set.__init__» noKeywords Builtin.Frozenset.updateFrom;generalize hPI : pyIter = PI
    wp_walk
    subst hPI;refine vy5 hl1 (ay0 (wpAny_runValue ?_));have lS : l < s.heap.objs.size := by1 hol;have h3 : A.in1.in1.in1.handled = none := by simp [hh]
    have nI : l ≠ (s.heap.push { cls := .type "set", dict := none, data := .set #[] 0 (.fresh 0 0 led) }).objs.size := by
     rw [ny3]; exact by6 (ny0 lS)
    have nS : s.heap.objs.size ∉ [(s.heap.push { cls := .type "set", dict := none, data := .set #[] 0 (.fresh 0 0 led) }).objs.size, l] := by
     rw [ny3];simp only [by7, ky1, or_false, not_or];exact ⟨by6 (my3 _), ky5 lS⟩
    have W0 := (Walks.list (prog := P) (w := w) h3 _ l nI its).toS;have W1 := zG8 W0 (P2 := fun i v => ∃ x t, ss[i]? = some x /\ v = Value.str x t) fun i v hv => za38 hi (by rw [jy6]; exact hv);rw [hsz] at W1;refine zb50 W1 nS few (ss.length - 0) 0 _ (by omega) (dy5 _) ⟨⟨_, ay7 _ rfl, rfl, rfl⟩, (hl1.push _)⟩ ?hS0 ?hR
    case hS0 =>
     exact ⟨_, #[], 0, _, ay1 _ hS, ⟨rfl, rfl, rfl⟩, rfl, fun e he => by simp at he, by decide, rfl, fun z => absurd rfl z, by simp [zc7], by simp [zc7]⟩
    case hR =>
     intro s' hm hS';obtain ⟨h', g', d', tk', os'⟩ := s';have eg : g' = s.gens := hm.gens;have ed : d' = s.drawn := hm.drawn;have eo : os' = s.os := hm.os;subst eg ed eo;refine ay2 (ay2 ⟨rfl, h', tk', rfl, hS', fun b o e => ?_⟩);have hb := by1 e;refine hm.heap b o ?_ (ay1 _ (ay1 _ e));rw [ny3];simp only [by7, ky1, or_false, not_or];exact ⟨by6 hb, by6 (ny0 hb)⟩
   ·cases r2 with
    | error e => exact hr2
    | ok f2 =>
     cases f2 with
     | ret r =>
      obtain ⟨rfl, h', tk, rfl, hS', hk'⟩ := hr2
      repeat any_goals first | assumption | wp_step
      exact h _ _ hS' hk'
     | _ => exact hr2.elim
  | _ => exact hr.elim
end
section
variable {α : Type}
theorem zq8 : ∀ {l : List α} {i : Nat} (h : i < l.length), (l[i] :: l.eraseIdx i).Perm l
 | x :: l, 0, h => xy7 _
 | x :: l, i + 1, h => by
  have a := zq8 (l := l) (i := i) (by simpa using h);rw [List.eraseIdx_cons_succ];exact (List.Perm.swap x _ _).trans (a.cons x)
theorem za40 (f : Nat -> Nat) : ∀ (n k : Nat) (left : List α) (out : Array α), left.length = n -> (pickOrder.go f n k left out).toList.Perm (out.toList ++ left)
 | 0, k, left, out, e => by
  have : left = [] := List.eq_nil_of_length_eq_zero e;subst this;simp [pickOrder.go]
 | n + 1, k, left, out, e => by
  unfold pickOrder.go;have hlt : f k % left.length < left.length := Nat.mod_lt _ (by omega);rw [by5 hlt];dsimp only;refine (za40 f n (k + 1) _ _ (by rw [List.length_eraseIdx_of_lt hlt]; omega)).trans ?_;rw [Array.toList_push, iy0];refine (xy7 out.toList).append ?_;exact (zq8 hlt)
theorem zv9 (f : Nat -> Nat) (xs : Array α) : (pickOrder f xs).toList.Perm xs.toList := by
 have := za40 f xs.size 0 xs.toList #[] (by simp);simpa [pickOrder] using this
end
section
variable {P : cy8} {w : World} {A : Around} {E : Value -> Shared -> Prop} {s : Shared} {α : Type}
theorem zU3 {M : Model} {src : Source} {n : Nat} {Q : Nat -> Shared -> Prop} (hn : n ≠ 0) (h : ∀ i d, i < n -> Q i { s with drawn := d }) : wpAny M A (choose src n) Q E s :=
 fun Γ p _ => ⟨hn, h _ _ (Nat.mod_lt _ (Nat.pos_of_ne_zero hn))⟩
theorem zp3 {M : Model} : ∀ (n : Nat) (xs : List α) (s : Shared) (Q : List α -> Shared -> Prop), xs.length = n -> (∀ ys d, ys.Perm xs -> Q ys { s with drawn := d }) -> wpAny M A (drawOrder n xs) Q E s
 | 0, xs, s, Q, e, h => by
  have : xs = [] := List.eq_nil_of_length_eq_zero e;subst this;exact ay2 (h [] s.drawn (xy7 _))
 | n + 1, [], s, Q, e, h => by simp at e
 | n + 1, x :: xs, s, Q, e, h => by
  unfold drawOrder;refine ay0 (zU3 (by simp) fun i d hi => ?_);rw [by5 hi];dsimp only;refine ay0 (zp3 n _ _ _ (by rw [List.length_eraseIdx_of_lt hi]; simp at e ⊢; omega) fun ys d' hp => ay2 ?_);exact h _ d' ((hp.cons _).trans (zq8 hi))
end
theorem slot_set_iter : Slot "set" "__iter__" "set.__iter__" :=
 .of (owner := "set") (n := "__iter__") (by rw [vy1, ny8]; kernel_rfl) (by decide +kernel) (by decide +kernel) (by decide +kernel) (by first | exact .inl (by decide +kernel) | exact .inr (by decide +kernel)) (by rw [isSubtype_type]; kernel_rfl)
theorem zx5 : entryFor table "set.__iter__" = some oy6.«frozenset.__iter__» := entryFor_alias (id' := "frozenset.__iter__") (by kernel_rfl) rfl (by decide +kernel) (by kernel_rfl)
theorem zB3 (a : Value) : argsOk "set.__iter__" ⟨[a], []⟩ := by unfold argsOk; kernel_rfl
theorem zd9 : Slot "set_iterator" "__next__" "set_iterator.__next__" :=
 .of (owner := "set_iterator") (n := "__next__") (by rw [vy1, ny8]; kernel_rfl) (by decide +kernel) (by decide +kernel) (by decide +kernel) (by first | exact .inl (by decide +kernel) | exact .inr (by decide +kernel)) (by rw [isSubtype_type]; kernel_rfl)
theorem zs6 : entryFor table "set_iterator.__next__" = some oy6.«set_iterator.__next__» := entryFor_of_tree (by kernel_rfl)
theorem zw0 (a : Value) : argsOk "set_iterator.__next__" ⟨[a], []⟩ := by unfold argsOk; kernel_rfl
theorem zl5 : Slot "set_iterator" "__iter__" "set_iterator.__iter__" :=
 .of (owner := "set_iterator") (n := "__iter__") (by rw [vy1, ny8]; kernel_rfl) (by decide +kernel) (by decide +kernel) (by decide +kernel) (by first | exact .inl (by decide +kernel) | exact .inr (by decide +kernel)) (by rw [isSubtype_type]; kernel_rfl)
theorem zG9 : typeLookup (.type "set") "__len__" = pure (some (.builtin "set.__len__")) := by rw [vy1, ny8]; kernel_rfl
abbrev zn6 (n : Nat) : Value := .int n 0
def zi1 (it a : Addr) (first : Value) (i n ep : Nat) (h : Heap) : Prop := ∃ o, h.get? it = some o /\ o.cls = .type "set_iterator" /\ o.data = .fields #[first, .int i 0, .ref a, .int n 0, .int ep 0]
def setAt (h : Heap) (a : Addr) (es : Array (Int × Value)) (ep : Nat) (t : SetTable) : Prop := ∃ o, h.get? a = some o /\ o.ExactSet /\ o.data = .set es ep t /\ t.fits es.size = true
section
variable {P : cy8} {w : World} {A : Around} {E : Value -> Shared -> Prop} {s : Shared} {it a tp : Addr} {es : Array (Int × Value)} {ep n i : Nat} {t : SetTable}
theorem zP2 {h : Heap} {o : Obj} {first : Value} (c1 : h.get? it = some o) (c2 : o.cls = .type "set_iterator") (c3 : o.data = .fields #[first, .int i 0, .ref a, .int n 0, .int ep 0]) :
  zi1 it a first (i + 1) n ep (h.update it (vy8 fun vs => vs.setIfInBounds 1 (rawInt (i + 1)))) := by
 refine ⟨_, fy8 _ c1 (ly2 (gy8 c3 _)), (sy2 ..).trans c2, ?_⟩;rw [gy8 c3];simp [rawInt]
theorem zi6 {Q : (Array (Int × Value) × Nat × SetTable) -> Shared -> Prop} {b : Obj} (b1 : s.heap.get? a = some b) (b3 : b.data = .set es ep t) (b4 : t.fits es.size = true) (h : Q (es, ep, t) s) : wpAny (model P w) A (setState a) Q E s := wpAny_setState_of b1 b3 b4 h
theorem zf5 {Q : Option Value -> Shared -> Prop} {first : Value} {o b : Obj} (c1 : s.heap.get? it = some o) (c2 : o.cls = .type "set_iterator") (c3 : o.data = .fields #[first, .int i 0, .ref a, .int n 0, .int ep 0])
  (b1 : s.heap.get? a = some b) (b3 : b.data = .set es ep t) (b4 : t.fits es.size = true) (hn : es.size = n)
  (h : wpAny (model P w) A.in1 (if let .int slot _ := first then (do
    match <- setNext a slot.toNat i ep with
    | some (x, next) =>
     uy3 (.ref it) 0 (rawInt next)
     uy3 (.ref it) 1 (rawInt (i + 1))
     ret x
    | none => uy3 (.ref it) 2 .none; raiseNew (<- newExc (.type "StopIteration") []))
   else do
    let some places <- seqItems? first | unsupported "internal:set_iterator"
    match places[i]? with
    | some (.int place _) =>
     let x <- setNextDrawn a place.toNat ep
     uy3 (.ref it) 1 (rawInt (i + 1))
     ret x
    | some _ => unsupported "internal:set_iterator"
    | none => uy3 (.ref it) 0 (rawInt 0); uy3 (.ref it) 2 .none; raiseNew (<- newExc (.type "StopIteration") []))
   (fun f s' => ∃ v, f = .done (.ret v) /\ Q (some v) s') (fun e s' => s'.TypeIs e "StopIteration" /\ Q none s') s) : wpAny (model P w) A (pyNext (.ref it)) Q E s := by
 have hT : s.TypeIs (.ref it) "set_iterator" := ⟨o, c1, c2⟩
 unfold pyNext;refine ay0 (py1 (fy0 (name := ly1 "__next__") hT zd9 (dy3 zd9 hT zs6 ?_ (zw0 _))));unfold Builtin.«set_iterator.__next__»;refine ay0 (ay2 ?_);refine ay0 (uy0 c1 c3 ?_);dsimp only;refine ay0 (wpAny_setEntries_of b1 b3 b4 ?_);rw [if_neg (by rw [hn]; simp)];refine fy9 h ?_ ?_
 ·rintro f s' ⟨v, rfl, q⟩;exact ⟨v, rfl, ay2 q⟩
 ·rintro e s' ⟨ht, q⟩;refine ay0 (ky8 ht isSubtype_stop ?_);exact ay2 q
theorem zj6 {α : Type} {R : α -> Shared -> Prop} {E' : Value -> Shared -> Prop} (hh : A.handled = none) (h : ∀ h' e, (∀ b o, s.heap.get? b = some o -> h'.get? b = some o) -> qy8 { s with heap := h' } e "StopIteration" -> E' e { s with heap := h' }) :
  wpAny (model P w) A (newExc (.type "StopIteration") [] >>= fun e => (raiseNew e : Sem α)) R E' s := by
 refine ay0 ?_;simp only [newExc, newTuple];refine ay0 (dy8 ?_ (by size_fits));refine ay0 (m := firstArgMember _ _) (wpAny_of_eq (a := dy4) (by first | rfl | (simp only [firstArgMember]; rfl)) ?_);refine dy8 ?_ (by size_fits);refine wpAny_raiseNew_none hh (h _ _ (fun b o q => ay1 _ (ay1 _ q)) ⟨_, ay7 _ rfl, rfl⟩)
theorem zx6 {Q : Option Value -> Shared -> Prop} {ps : List Nat} {p : Nat} {hx : Int} {v : Value} (hi : zi1 it a (.ref tp) i n ep s.heap) (hs : setAt s.heap a es ep t) (hn : es.size = n) (ht : s.heap.IsTuple tp (ps.map zn6).toArray) (hp : ps[i]? = some p) (hv : es[p]? = some (hx, v))
  (hQ : ∀ h', zi1 it a (.ref tp) (i + 1) n ep h' -> fy5 it s.heap h' -> Q (some v) { s with heap := h' }) : wpAny (model P w) A (pyNext (.ref it)) Q E s := by
 obtain ⟨o, c1, c2, c3⟩ := hi;obtain ⟨b, b1, b2, b3, b4⟩ := hs;obtain ⟨ot, t1, t2, nt, t3⟩ := ht;refine zf5 c1 c2 c3 b1 b3 b4 hn ?_;dsimp only;refine ay0 (ry5 t1 t3 ?_);have e : ((ps.map zn6).toArray)[i]? = some (zn6 p) := by simp [hp]
 dsimp only;rw [e];dsimp only;refine ay0 ?_;unfold setNextDrawn;refine ay0 (zi6 b1 b3 b4 ?_);dsimp only;rw [if_neg (by simp), ky3, hv];refine ay2 (ay0 (ky0 c1 c3 (by simp) (ay2 ⟨v, rfl, hQ _ (zP2 c1 c2 c3) (hy4 ..)⟩)))
theorem zB4 {Q : Option Value -> Shared -> Prop} {ps : List Nat} (hh : A.handled = none) (hi : zi1 it a (.ref tp) i n ep s.heap) (hs : setAt s.heap a es ep t) (hn : es.size = n) (ht : s.heap.IsTuple tp (ps.map zn6).toArray) (hp : ps[i]? = none)
  (hQ : ∀ h', (∀ b o, b ≠ it -> s.heap.get? b = some o -> h'.get? b = some o) -> Q none { s with heap := h' }) : wpAny (model P w) A (pyNext (.ref it)) Q E s := by
 obtain ⟨o, c1, c2, c3⟩ := hi;obtain ⟨b, b1, b2, b3, b4⟩ := hs;obtain ⟨ot, t1, t2, nt, t3⟩ := ht;refine zf5 c1 c2 c3 b1 b3 b4 hn ?_;dsimp only;refine ay0 (ry5 t1 t3 ?_);have e : ((ps.map zn6).toArray)[i]? = none := by simp at hp ⊢; exact hp
 dsimp only;rw [e];dsimp only;refine ay0 (ky0 c1 c3 (by simp) ?_);have u1 := fy8 (vy8 fun vs => vs.setIfInBounds 0 (rawInt 0)) c1 (ly2 (gy8 c3 _));refine ay0 (ky0 u1 (gy8 c3 _) (by simp) ?_);refine zj6 hh fun h' e k ty => ⟨ty, hQ h' fun b' o' hb q => k _ _ ?_⟩
 exact (dy0 _ _ (fy4 hb)).trans ((dy0 _ _ (fy4 hb)).trans q)
abbrev zq9 (w : World) : Bool := w.params.followText "set-order"
theorem zj7 {Q : Bool -> Shared -> Prop} (h : Q (zq9 w) s) : wpAny (model P w) A setsByText Q E s := by
 unfold setsByText;exact ay0 (wpAny_askSetting (ay2 h))
abbrev zw1 (w : World) (a : Addr) (ep : Nat) (es : Array (Int × Value)) : Array (Int × Value) := pickOrder (w.params.setOrder a ep) es
theorem zH0 {Q : Array (Int × Value) -> Shared -> Prop} (hb : zq9 w = true) (hs : setAt s.heap a es ep t) (h : Q (zw1 w a ep es) s) : wpAny (model P w) A (setWalk a) Q E s := by
 obtain ⟨b, b1, b2, b3, b4⟩ := hs;unfold setWalk;refine ay0 (zi6 b1 b3 b4 (ay0 (zj7 ?_)));rw [hb];exact ay0 (wpAny_askSetting (ay2 h))
theorem zB5 {Q : Option Value -> Shared -> Prop} {hx : Int} {v : Value} (hb : zq9 w = true) (hi : zi1 it a (.int 0 0) i n ep s.heap) (hs : setAt s.heap a es ep t) (hn : es.size = n) (hv : (zw1 w a ep es)[i]? = some (hx, v))
  (hQ : ∀ h', zi1 it a (.int 0 0) (i + 1) n ep h' -> fy5 it s.heap h' -> Q (some v) { s with heap := h' }) : wpAny (model P w) A (pyNext (.ref it)) Q E s := by
 have hs0 := hs;obtain ⟨o, c1, c2, c3⟩ := hi;obtain ⟨b, b1, b2, b3, b4⟩ := hs;refine zf5 c1 c2 c3 b1 b3 b4 hn ?_;dsimp only;refine ay0 ?_;unfold setNext;refine ay0 (zi6 b1 b3 b4 (ay0 (zj7 ?_)));rw [hb, if_pos rfl];dsimp only;rw [if_neg (by simp)];refine ay0 (zH0 hb hs0 (ay2 ?_));rw [hv];dsimp only [Option.map];refine ay0 (ky0 c1 c3 (by simp) ?_);have u1 := fy8 (vy8 fun vs => vs.setIfInBounds 0 (rawInt ((0 : Int).toNat : Nat))) c1 (ly2 (gy8 c3 _));have u3 := gy8 c3 (fun vs => vs.setIfInBounds 0 (rawInt ((0 : Int).toNat : Nat)));refine ay0 (ky0 u1 u3 (by simp) (ay2 ⟨v, rfl, hQ _ (zP2 u1 ((sy2 ..).trans c2) (by rw [u3]; simp [rawInt])) ((hy4 ..).trans (hy4 ..))⟩))
theorem zH1 {Q : Option Value -> Shared -> Prop} {o : Obj} {first : Value} (hh : A.handled = none) (c1 : s.heap.get? it = some o) (c3 : o.data = .fields #[first, .int i 0, .ref a, .int n 0, .int ep 0])
  (hQ : ∀ h', (∀ b o, b ≠ it -> s.heap.get? b = some o -> h'.get? b = some o) -> Q none { s with heap := h' }) {R : PySem.Fin -> Shared -> Prop} :
  wpAny (model P w) A.in1 (do uy3 (.ref it) 2 .none; raiseNew (<- newExc (.type "StopIteration") [])) R (fun e s' => s'.TypeIs e "StopIteration" /\ Q none s') s := by
 refine ay0 (ky0 c1 c3 (by simp) ?_);refine zj6 hh fun h' e k ty => ⟨ty, hQ h' fun b' o' hb q => k _ _ ?_⟩
 exact (dy0 _ _ (fy4 hb)).trans q
theorem zH2 {Q : Option Value -> Shared -> Prop} (hh : A.handled = none) (hb : zq9 w = true) (hi : zi1 it a (.int 0 0) i n ep s.heap) (hs : setAt s.heap a es ep t) (hn : es.size = n) (hv : (zw1 w a ep es)[i]? = none)
  (hQ : ∀ h', (∀ b o, b ≠ it -> s.heap.get? b = some o -> h'.get? b = some o) -> Q none { s with heap := h' }) : wpAny (model P w) A (pyNext (.ref it)) Q E s := by
 have hs0 := hs;obtain ⟨o, c1, c2, c3⟩ := hi;obtain ⟨b, b1, b2, b3, b4⟩ := hs;refine zf5 c1 c2 c3 b1 b3 b4 hn ?_;dsimp only;refine ay0 ?_;unfold setNext;refine ay0 (zi6 b1 b3 b4 (ay0 (zj7 ?_)));rw [hb, if_pos rfl];dsimp only;rw [if_neg (by simp)];refine ay0 (zH0 hb hs0 (ay2 ?_));rw [hv];exact zH1 hh c1 c3 hQ
theorem zH3 {Q : Option Value -> Shared -> Prop} (hh : A.handled = none) (hb : zq9 w = false) (hi : zi1 it a (.int 0 0) i 0 ep s.heap) (hs : setAt s.heap a #[] ep t)
  (hQ : ∀ h', (∀ b o, b ≠ it -> s.heap.get? b = some o -> h'.get? b = some o) -> Q none { s with heap := h' }) : wpAny (model P w) A (pyNext (.ref it)) Q E s := by
 obtain ⟨o, c1, c2, c3⟩ := hi;obtain ⟨b, b1, b2, b3, b4⟩ := hs;refine zf5 c1 c2 c3 b1 b3 b4 rfl ?_;dsimp only;refine ay0 ?_;unfold setNext;refine ay0 (zi6 b1 b3 b4 (ay0 (zj7 ?_)));rw [hb, if_neg (by decide)];dsimp only;refine py9 (fun z => absurd (show (!t.plain && decide ((#[] : Array (Int × Value)).size > 1)) = true from z) (by simp)) fun _ => ?_;refine ay0 (py9 (fun z => absurd (show (!t.led && !(#[] : Array (Int × Value)).isEmpty) = true from z) (by simp)) fun _ => ay2 (ay2 ?_));exact zH1 hh c1 c3 hQ
theorem zb52 {Q : Value -> Shared -> Prop} (hs : setAt s.heap a es ep t) (hz : es.size <= by2)
  (hD : zq9 w = false -> t.plain = false -> 1 < es.size -> ∀ (ps : List Nat) (d : Drawn) (h' : Heap) (tp : Addr), ps.Perm (ky2 es.size) -> (∀ b o, s.heap.get? b = some o -> h'.get? b = some o) -> s.heap.objs.size <= tp -> tp < h'.objs.size -> h'.IsTuple tp (ps.map zn6).toArray ->
   Q (.ref h'.objs.size) { s with heap := h'.push { cls := .type "set_iterator", data := .fields #[.ref tp, .int (0 : Nat) 0, .ref a, .int es.size 0, .int ep 0] }, drawn := d })
  (hN : ¬ (zq9 w = false /\ t.plain = false /\ 1 < es.size) -> Q (.ref s.heap.objs.size) { s with heap := s.heap.push { cls := .type "set_iterator", data := .fields #[.int 0 0, .int (0 : Nat) 0, .ref a, .int es.size 0, .int ep 0] } }) :
  wpAny (model P w) A (pyIter (.ref a)) Q E s := by
 obtain ⟨b, b1, b2, b3, b4⟩ := hs;have hT : s.TypeIs (.ref a) "set" := ⟨b, b1, b2.1⟩
 refine sy4 hT slot_set_iter (dy3 slot_set_iter hT zx5 ?_ (zB3 _));unfold Builtin.«frozenset.__iter__»;refine ay0 (ay0 (ay2 (ay2 ?_)));refine ay0 (ay0 (wpAny_setEntries_of b1 b3 b4 (ay2 ?_)));refine ay0 ?_;unfold setDrawn;refine ay0 (zi6 b1 b3 b4 (ay0 (zj7 (ay2 ?_))));refine py9 (fun z => ?_) fun z => ?_
 ·have z : (!zq9 w && (!t.plain && decide (es.size > 1))) = true := z;simp at z;obtain ⟨z1, z2, z3⟩ := z;refine ay0 (zp3 es.size (ky2 es.size) _ _ (by simp) fun ps d hp => ?_);have hl : ps.length = es.size := by rw [hp.length_eq]; simp
  refine ay0 (wpAny_newTuple ?_ (by show (List.map _ ps).length <= _; rw [ay4, hl]; exact hz));refine ay0 ?_;unfold setEpoch;refine ay0 (zi6 (ay1 _ b1) b3 b4 (ay2 ?_));refine ay0 (dy8 (ay2 ⟨_, rfl, "set_iterator", _, ⟨_, ay7 _ rfl, rfl⟩, zd9.lookup, ?_⟩));exact hD z1 z2 z3 ps d _ s.heap.objs.size hp (fun b o q => ay1 _ q) (ay6 _) (by rw [ny3]; exact my3 _) ⟨_, ay7 _ rfl, rfl, 0, rfl⟩
 ·refine ay0 (ay2 (ay0 ?_));unfold setEpoch;refine ay0 (zi6 b1 b3 b4 (ay2 ?_));refine ay0 (dy8 (ay2 ⟨_, rfl, "set_iterator", _, ⟨_, ay7 _ rfl, rfl⟩, zd9.lookup, ?_⟩));refine hN fun ⟨y1, y2, y3⟩ => z ?_;show (!zq9 w && (!t.plain && decide (es.size > 1))) = true;simp [y1, y2];omega
end
theorem zs7 : entryFor table "set_iterator.__iter__" = some oy6.«dict_keyiterator.__iter__» := entryFor_alias (id' := "dict_keyiterator.__iter__") (by kernel_rfl) rfl (by decide +kernel) (by kernel_rfl)
theorem zw2 (a : Value) : argsOk "set_iterator.__iter__" ⟨[a], []⟩ := by unfold argsOk; kernel_rfl
section
variable {P : cy8} {w : World} {A : Around} {E : Value -> Shared -> Prop} {s : Shared} {it a tp : Addr} {es : Array (Int × Value)} {ep n i : Nat} {t : SetTable}
theorem zB6 {first : Value} {Q : Value -> Shared -> Prop} (hi : zi1 it a first i n ep s.heap) (h : Q (.ref it) s) : wpAny (model P w) A (pyIter (.ref it)) Q E s := by
 obtain ⟨o, c1, c2, c3⟩ := hi;have hT : s.TypeIs (.ref it) "set_iterator" := ⟨o, c1, c2⟩
 refine sy4 hT zl5 (dy3 zl5 hT zs7 ?_ (zw2 _));show wpAny _ _ (ret (.ref it)) _ _ s;exact ay2 ⟨_, rfl, "set_iterator", _, hT, zd9.lookup, h⟩
theorem zi1.move {h h' : Heap} {first : Value} (x : zi1 it a first i n ep h) (k : ∀ o, h.get? it = some o -> h'.get? it = some o) : zi1 it a first i n ep h' := by
 obtain ⟨o, c, r⟩ := x;exact ⟨o, k o c, r⟩
theorem setAt.move {h h' : Heap} (x : setAt h a es ep t) (k : ∀ o, h.get? a = some o -> h'.get? a = some o) : setAt h' a es ep t := by
 obtain ⟨o, c, r⟩ := x;exact ⟨o, k o c, r⟩
theorem zP3 {h h' : Heap} {its : Array Value} (x : h.IsTuple tp its) (k : ∀ o, h.get? tp = some o -> h'.get? tp = some o) : h'.IsTuple tp its := by
 obtain ⟨o, c, r⟩ := x;exact ⟨o, k o c, r⟩
theorem zL2 (hh : A.handled = none) (ha : a ≠ it) (ht : tp ≠ it) {ps : List Nat} (hp : ps.Perm (ky2 es.size)) :
  PySem.Walks P w A it [it, a, tp] [it] es.size (fun i v => (ps.map fun p => (es.getD p (0, .none)).2)[i]? = some v) (fun i h => zi1 it a (.ref tp) i es.size ep h /\ setAt h a es ep t /\ h.IsTuple tp (ps.map zn6).toArray) where
 sub := fun b hb => by simp at hb; simp [hb]
 frame := fun _ _ _ st k => ⟨st.1.move fun o e => k it (by simp) o e, st.2.1.move fun o e => k a (by simp) o e, zP3 st.2.2 fun o e => k tp (by simp) o e⟩
 item := fun i s Q E hi st hQ => by
  have hl : ps.length = es.size := by rw [hp.length_eq]; simp
  obtain ⟨p, hpi⟩ : ∃ p, ps[i]? = some p := ⟨ps[i]'(by omega), by simp [hl, hi]⟩
  have hlt : p < es.size := by have := hp.mem_iff.mp (cy5 hpi); simpa using this
  refine zx6 st.1 st.2.1 rfl st.2.2 hpi (hx := es[p].1) (v := es[p].2) (by simp [hlt]) fun h' st' sb => ?_;exact hQ _ h' s.toks (by simp [hpi, hlt]) ⟨st', st.2.1.move fun o e => (sb.2 a ha).trans e, zP3 st.2.2 fun o e => (sb.2 tp ht).trans e⟩ fun b o hb e => (sb.2 b fun z => hb (by simp [z])).trans e
 done := fun s Q E st hQ => by
  have hl : ps.length = es.size := by rw [hp.length_eq]; simp
  exact zB4 hh st.1 st.2.1 rfl st.2.2 (by simp [hl]) fun h' k => hQ h' s.toks fun b o hb e => k b o (fun z => hb (by simp [z])) e
 self := fun _ _ _ _ st q => zB6 st.1 q
theorem zU4 (hh : A.handled = none) (hb : zq9 w = true) (ha : a ≠ it) :
  PySem.Walks P w A it [it, a] [it] es.size (fun i v => ((zw1 w a ep es).toList.map (·.2))[i]? = some v) (fun i h => zi1 it a (.int 0 0) i es.size ep h /\ setAt h a es ep t) where
 sub := fun b hb => by simp at hb; simp [hb]
 frame := fun _ _ _ st k => ⟨st.1.move fun o e => k it (by simp) o e, st.2.move fun o e => k a (by simp) o e⟩
 item := fun i s Q E hi st hQ => by
  have hl : (zw1 w a ep es).size = es.size := by have := (zv9 (w.params.setOrder a ep) es).length_eq; simpa using this
  have hlt : i < (zw1 w a ep es).size := by rw [hl]; exact hi
  refine zB5 hb st.1 st.2 rfl (hx := (zw1 w a ep es)[i].1) (v := (zw1 w a ep es)[i].2) (by simp [hlt]) fun h' st' sb => ?_;exact hQ _ h' s.toks (by simp [hlt]) ⟨st', st.2.move fun o e => (sb.2 a ha).trans e⟩ fun b o hb e => (sb.2 b fun z => hb (by simp [z])).trans e
 done := fun s Q E st hQ => by
  have hl : (zw1 w a ep es).size = es.size := by have := (zv9 (w.params.setOrder a ep) es).length_eq; simpa using this
  exact zH2 hh hb st.1 st.2 rfl (by simp [hl]) fun h' k => hQ h' s.toks fun b o hb e => k b o (fun z => hb (by simp [z])) e
 self := fun _ _ _ _ st q => zB6 st.1 q
theorem zU5 (hh : A.handled = none) (hb : zq9 w = false) (ha : a ≠ it) :
  PySem.Walks P w A it [it, a] [it] 0 (fun i v => ([] : List Value)[i]? = some v) (fun i h => zi1 it a (.int 0 0) i 0 ep h /\ setAt h a #[] ep t) where
 sub := fun b hb => by simp at hb; simp [hb]
 frame := fun _ _ _ st k => ⟨st.1.move fun o e => k it (by simp) o e, st.2.move fun o e => k a (by simp) o e⟩
 item := fun i s Q E hi st hQ => absurd hi (by omega)
 done := fun s Q E st hQ => zH3 hh hb st.1 st.2 fun h' k => hQ h' s.toks fun b o hb e => k b o (fun z => hb (by simp [z])) e
 self := fun _ _ _ _ st q => zB6 st.1 q
theorem zb53 {Q : Bool -> Shared -> Prop} (hT : s.TypeIs (.ref a) "set") (h : Q false s) : wpAny (model P w) A (vy2 (.ref a)) Q E s := by
 unfold Builtin.List.listLengthHint;refine ay0 (wpAny_specialOf hT zG9 ?_);generalize hid : ("set.__len__" : String) = id0
 wp_delta
 rw [show splitId id0 = some ("set", "__len__") from by subst hid; decide +kernel];subst hid;refine ay0 (ky8 (T := "set") (b := true) hT (by rw [isSubtype_type]; kernel_rfl) ?_);refine py9 (fun z => absurd z (by decide)) fun _ => ?_;refine py9 (fun _ => ?_) fun z => absurd (by decide +kernel) z;exact ay0 (py2 hT (ay2 h))
abbrev zc65 (first : Value) (a : Addr) (n ep : Nat) : Obj := { cls := .type "set_iterator", data := .fields #[first, .int (0 : Nat) 0, .ref a, .int n 0, .int ep 0] }
theorem zB7 {R : Result -> Shared -> Prop} {I S : Addr} {fp : List Addr} {Pv : Nat -> Value -> Prop} {St : Nat -> Heap -> Prop} {res : Value} {c0 : Nat} {rz : Bool} (W : PySem.Walks P w A.in1 I fp [I] n Pv St) (hSf : S ∉ fp) (hSI : S ≠ I) (hn : n <= by2) (hT : s.TypeIs (.ref a) "set")
  (st : St 0 s.heap) (hS : s.heap.get? S = some { cls := .type "list", data := .seq #[] c0 })
  (hR : ∀ h' tk acc c, (∀ b o, b ≠ S -> b ≠ I -> s.heap.get? b = some o -> h'.get? b = some o) -> h'.get? S = some { cls := .type "list", dict := none, data := .seq acc c, slots := #[] } -> ItemsOf Pv acc n -> R (.ok (.ret res)) { s with heap := h', toks := tk }) :
  wpAny (model P w) A.in1 (do
    let room <- holding [.ref I] (vy2 (.ref a))
    if room || rz then rule "list.extend.makes-room"; Builtin.List.listTouch (.ref S)
    again (.builtin "list.extend.loop" ⟨[.ref S, .ref I, res], []⟩))
   (fun fin s' => match fin with | .done f => R (.ok f) s' | .again c' => c'.quiet = true /\ ly4 (model P w) A c' R s') (fun e s' => R (.error e) s') s := by
 have go : ∀ (h : Heap) (c1 : Nat), St 0 h -> (∀ b o, b ≠ S -> s.heap.get? b = some o -> h.get? b = some o) -> h.get? S = some { cls := .type "list", data := .seq #[] c1 } ->
   ly4 (model P w) A (.builtin "list.extend.loop" ⟨[.ref S, .ref I, res], []⟩) R { s with heap := h } := by
  intro h c1 st1 k1 hS1;refine codeAny_extend_loopS W.toS hn S hSf res n 0 _ #[] c1 rfl (dy5 _) st1 hS1 (ItemsOf.nil _) fun s' acc c mv hS2 ac => ?_;rw [Moved.eq_with mv];refine hR s'.heap s'.toks acc c (fun b o hb hI e => mv.heap b o ?_ (k1 b o hb e)) hS2 ac;simp only [by7, ky1, or_false, not_or];exact ⟨hb, hI⟩
 refine ay0 (ey5 (zb53 hT ?_));refine py9 (fun _ => ?_) fun _ => ay2 ⟨iy5 iy9 _, go _ c0 st (fun b o _ e => e) hS⟩;refine ay0 (my9 ?_);refine ay0 ?_;show wpAny _ _ (updateSeq S (·.push .none) >>= fun _ => updateSeq S (·.pop)) _ _ _;refine ay0 (qy0 hS rfl ?_);have hS2 := fy8 (hy9 (·.push dy4)) hS rfl;refine qy0 (hz := by seq_fits) hS2 rfl ?_;have hS3 := fy8 (hy9 (·.pop)) hS2 rfl
 have oth : ∀ b o, b ≠ S -> s.heap.get? b = some o -> ((s.heap.update S (hy9 (·.push dy4))).update S (hy9 (·.pop))).get? b = some o := fun b o hb e =>
  (dy0 _ _ (fy4 hb)).trans ((dy0 _ _ (fy4 hb)).trans e)
 exact ay2 ⟨iy5 iy9 _, go _ _ (W.frame 0 _ _ st fun b hb o e => oth b o (fun z => hSf (z ▸ hb)) e) oth hS3⟩
theorem zB8 {ws : List Value} {acc : Array Value} (h : ItemsOf (fun i v => ws[i]? = some v) acc ws.length) : acc.toList = ws := by
 obtain ⟨e, k⟩ := h;refine py5 fun i => ?_
 by_cases hi : i < acc.size
 ·have a1 : acc.toList[i]? = some acc[i] := by simp [hi]
  rw [a1];exact (k i acc[i] (by simp [hi])).symm
 ·rw [ny9 (by simp; omega), ny9 (by omega)]
theorem zx7 (f : Int × Value -> Value) : (ky2 es.size).map (fun p => f (es.getD p (0, .none))) = es.toList.map f := by
 refine List.ext_getElem (by simp) fun i h1 h2 => ?_;simp at h1;simp [h1]
theorem zU6 {R : Result -> Shared -> Prop} {S : Addr} {res : Value} {c0 : Nat} (hh : A.handled = none) (hs : setAt s.heap a es ep t) (hz : es.size <= by2) (hpl : es.size ≠ 0 -> t.plain = false) (h1 : es.size ≠ 1)
  (hSa : S ≠ a) (hS : s.heap.get? S = some { cls := .type "list", data := .seq #[] c0 })
  (hR : ∀ h' tk d acc c, (∀ b o, b ≠ S -> s.heap.get? b = some o -> h'.get? b = some o) -> h'.get? S = some { cls := .type "list", dict := none, data := .seq acc c, slots := #[] } -> acc.toList.Perm (es.toList.map (·.2)) -> R (.ok (.ret res)) { s with heap := h', toks := tk, drawn := d }) :
  wpAny (model P w) A.in1 (jy7 (.ref S) (.ref a) res)
   (fun fin s' => match fin with | .done f => R (.ok f) s' | .again c' => c'.quiet = true /\ ly4 (model P w) A c' R s') (fun e s' => R (.error e) s') s := by
 have hs0 := hs;obtain ⟨b, b1, b2, b3, b4⟩ := hs;have hT : s.TypeIs (.ref a) "set" := ⟨b, b1, b2.1⟩
 unfold Builtin.List.listExtendWith;refine ay0 (py2 (T := "set") hT ?_);have e1 : sy5 (.ref S) (.ref a) = false := by simp [sy5, hSa]
 have e2 : (qy3 "set" == qy3 "list") = false := by decide
 have e3 : (qy3 "set" == qy3 "tuple") = false := by decide
 simp only [e1, e2, e3, Bool.or_false, iy3, if_false];have hlS := by1 hS;have hla := by1 b1;refine ay0 (zb52 hs0 hz (fun z1 z2 z3 ps d h' tp hp k hge hlt ht => ?_) fun z => ?_)
 ·have hle : s.heap.objs.size <= h'.objs.size := dy9 hge (ky9 hlt);have ka := k _ _ b1;have hl : ps.length = es.size := by rw [hp.length_eq]; simp
  refine zB7 (s := { s with heap := h'.push (zc65 (.ref tp) a es.size ep), drawn := d }) (zL2 (A := A.in1) hh (by6 (by8 hla hle)) (by6 hlt) hp) ?_ (by6 (by8 hlS hle)) hz ⟨b, ay1 _ ka, b2.1⟩ ⟨⟨_, ay7 _ rfl, rfl, rfl⟩, ⟨b, ay1 _ ka, b2, b3, b4⟩, ht.push _⟩ (ay1 _ (k _ _ hS)) fun h2 tk acc c kk hS2 ac => ?_
  ·simp only [by7, ky1, or_false, not_or];exact ⟨by6 (by8 hlS hle), hSa, by6 (by8 hlS hge)⟩
  ·refine hR h2 tk d acc c (fun b' o hb e => kk b' o hb (by6 (by8 (by1 e) hle)) (ay1 _ (k _ _ e))) hS2 ?_;have q := zB8 (ws := ps.map fun p => (es.getD p (0, .none)).2) (by rw [ay4, hl]; exact ac);rw [q];refine (hp.map _).trans ?_;rw [zx7 (fun e => e.2)]
 ·by_cases hb : zq9 w = true
  ·refine zB7 (s := { s with heap := s.heap.push (zc65 (.int 0 0) a es.size ep) }) (zU4 (A := A.in1) (ep := ep) (es := es) (t := t) hh hb (by6 hla)) ?_ (by6 hlS) hz ⟨b, ay1 _ b1, b2.1⟩ ⟨⟨_, ay7 _ rfl, rfl, rfl⟩, ⟨b, ay1 _ b1, b2, b3, b4⟩⟩ (ay1 _ hS) fun h2 tk acc c kk hS2 ac => ?_
   ·simp only [by7, ky1, or_false, not_or];exact ⟨by6 hlS, hSa⟩
   ·refine hR h2 tk s.drawn acc c (fun b' o hb e => kk b' o hb (by6 (by1 e)) (ay1 _ e)) hS2 ?_;have hp := zv9 (w.params.setOrder a ep) es;have hl : (zw1 w a ep es).size = es.size := by have := hp.length_eq; simpa using this
    have q := zB8 (ws := (zw1 w a ep es).toList.map (·.2)) (by rw [ay4, iy4, hl]; exact ac);rw [q];exact hp.map _
  ·have hb : zq9 w = false := by simpa using hb
   have h0 : es.size = 0 := by
    by_cases q : es.size = 0
    ·exact q
    ·exact absurd ⟨hb, hpl q, by omega⟩ z
   have : es = #[] := Array.eq_empty_of_size_eq_zero h0;subst this;refine zB7 (n := 0) (s := { s with heap := s.heap.push (zc65 (.int 0 0) a 0 ep) }) (zU5 (A := A.in1) (ep := ep) (t := t) hh hb (by6 hla)) ?_ (by6 hlS) (dy5 _) ⟨b, ay1 _ b1, b2.1⟩ ⟨⟨_, ay7 _ rfl, rfl, rfl⟩, ⟨b, ay1 _ b1, b2, b3, b4⟩⟩ (ay1 _ hS) fun h2 tk acc c kk hS2 ac => ?_
   ·simp only [by7, ky1, or_false, not_or];exact ⟨by6 hlS, hSa⟩
   ·refine hR h2 tk s.drawn acc c (fun b' o hb e => kk b' o hb (by6 (by1 e)) (ay1 _ e)) hS2 ?_;have q := zB8 (ws := []) ac;rw [q];exact xy7 _
theorem zL3 {R : List Value -> Shared -> Prop} (hh : A.handled = none) (hs : setAt s.heap a es ep t) (hz : es.size <= by2) (hpl : es.size ≠ 0 -> t.plain = false) (h1 : es.size ≠ 1)
  (h : ∀ h' tk d (ws : List Value), s.heap.objs.size <= h'.objs.size -> (∀ b o, s.heap.get? b = some o -> h'.get? b = some o) -> ws.Perm (es.toList.map (·.2)) -> R ws { s with heap := h', toks := tk, drawn := d }) :
  wpAny (model P w) A (collect (.ref a)) R E s := by
 have hla : a < s.heap.objs.size := by obtain ⟨b, b1, _⟩ := id hs; exact by1 b1
 unfold collect;refine ay0 (wpAny_runValue (hy1 entry_proto_collect' ?_));rw [fy1 PySem.F.plain_proto_collect _];show wpAny _ A.in1 (newList [] >>= fun l => again (.builtin "list.__iadd__" ⟨[l, .ref a], []⟩)) _ _ s;refine ay0 (dy8 (ay2 ⟨iy5 ty3 _, hy1 entry_list_iadd' ?_⟩));rw [fy1 ty3 _];have hS1 : (s.heap.push { cls := .type "list", data := .seq ([] : List Value).toArray }).get? s.heap.objs.size = some { cls := .type "list", data := .seq #[] } := ay7 _ rfl;show wpAny _ A.in1 (jy7 (.ref s.heap.objs.size) (.ref a) (.ref s.heap.objs.size)) _ _ _
 have key := zU6 (P := P) (w := w) (A := A) (s := { s with heap := s.heap.push { cls := .type "list", data := .seq ([] : List Value).toArray } }) (S := s.heap.objs.size) (res := .ref s.heap.objs.size)
  (R := fun (q : Result) (s' : Shared) => ∃ h' tk d acc c, q = .ok (.ret (.ref s.heap.objs.size)) /\ s' = { s with heap := h', toks := tk, drawn := d } /\ (∀ b o, s.heap.get? b = some o -> h'.get? b = some o) /\
   h'.get? s.heap.objs.size = some { cls := .type "list", dict := none, data := .seq acc c, slots := #[] } /\ acc.toList.Perm (es.toList.map (·.2)))
  hh (hs.move fun o e => ay1 _ e) hz hpl h1 (ky5 hla) hS1
  fun h' tk d acc c k hS2 pm => ⟨h', tk, d, acc, c, rfl, rfl, fun b o e => k b o (by6 (by1 e)) (ay1 _ e), hS2, pm⟩
 refine fy9 key (fun fin s' x => ?_) fun e s' x => ?_
 ·cases fin with
  | done f =>
   obtain ⟨h', tk, d, acc, c, e, rfl, k, hS2, pm⟩ := x;cases e;refine ay0 (wpAny_load hS2 ?_);exact ay2 (h h' tk d _ (ky9 (by1 hS2)) k pm)
  | again c1 =>
   refine ⟨x.1, uy6 x.2 fun q s2 y => ?_⟩;obtain ⟨h', tk, d, acc, c, rfl, rfl, k, hS2, pm⟩ := y;refine ay0 (wpAny_load hS2 ?_);exact ay2 (h h' tk d _ (ky9 (by1 hS2)) k pm)
 ·obtain ⟨_, _, _, _, _, e', _⟩ := x;cases e'
end
def SetX (h : Heap) (a : Addr) (ks : List Str) : Prop :=
 ∃ o es ep t, h.get? a = some o /\ o.ExactSet /\ o.data = .set es ep t /\ es.size <= by2 /\ t.fits es.size = true /\ (es.size ≠ 0 -> t.plain = false) /\ StrsAre (es.toList.map (·.2)) (es.toList.map fun e => strOf e.2) /\
  (es.toList.map fun e => strOf e.2).Perm ks /\ ks.Nodup
theorem zo2.x {P : cy8} {w : World} {h : Heap} {a : Addr} {ks : List Str} (s : zo2 P w h a ks) : SetX h a ks := by
 obtain ⟨o, es, ep, t, g1, g2, g3, g4, g5, g6, g7, g8, g9⟩ := s;refine ⟨o, es, ep, t, g1, g2, g3, fits_of_scanBound g5, g6, g7, ?_, g8, g9⟩
 have := strsAre_map (es.toList.map (·.2)) fun v hv => by
  obtain ⟨e, he, rfl⟩ := cy4.mp hv;obtain ⟨⟨k, hk, _⟩, _⟩ := g4 e he;obtain ⟨t, q⟩ := wy7 hk;exact ⟨k, t, q⟩
 rwa [ey9] at this
def setO (a : Addr) (ks : List Str) : HO := .ext fun h => SetX h a ks
theorem za41 {P : cy8} {w : World} {H : Hp} {h : Heap} {a : Addr} {ks : List Str} (x : SetX h a ks) : zb6 P w H h a (setO a ks) := by
 refine ⟨x, ?_, fun h1 h2 y k => ?_⟩
 ·obtain ⟨o, es, ep, t, g1, _⟩ := x;exact ⟨o, g1⟩
 ·obtain ⟨o, es, ep, t, g1, r⟩ := y;exact ⟨o, es, ep, t, k o g1, r⟩
theorem Inv.drew {X : Cx} {pins : List (Addr × Obj)} {σ : St} {H : Hp} {s : Shared} (I : Inv X pins σ H s) (d : Drawn) : Inv X pins σ H { s with drawn := d } :=
 ⟨I.ok, I.os, I.bare, I.base, I.loc, I.cell, I.free, I.freeC, I.pin, I.hok, I.len⟩
section
variable {P : cy8} {w : World} {A : Around} {E : Value -> Shared -> Prop} {s : Shared}
theorem za42 {vs ws : List Value} {ss : List Str} (h : StrsAre vs ss) (p : ws.Perm vs) : StrsAre ws (ws.map strOf) /\ (ws.map strOf).Perm ss := by
 refine ⟨strsAre_map ws fun v hv => h.all v (p.mem_iff.mp hv), ?_⟩;rw [<- h.strs];exact p.map _
theorem za43 {vs : List Value} {ss : List Str} {l : Addr} {n : Nat} {Q : PySem.Fin -> Shared -> Prop} (hl : s.heap.get? l = some (seqObj "list" vs.toArray n)) (hS : StrsAre vs ss) (h64 : vs.length < 64)
  (h : ∀ (out : Array Value) (ss' : List Str), StrsAre out.toList ss' -> ss'.Perm ss -> sortedS ss' = true -> Q (.done (.ret .none)) { s with heap := sortedHeap s.heap l vs out }) :
  wpAny (model P w) A (oy6.«list.sort» ⟨[.ref l], []⟩) Q E s := by
 refine list_sort_treeK strKind_oneLt hl hS.keysOf (fun v1 v2 rest e => keyKind_strs (by rw [<- e]; exact hS)) h64 fun st hp hs => ?_;obtain ⟨ss', a1, a2, a3⟩ := sorted_out_str hS hp hs;exact h _ ss' a1 a2 a3
theorem zU7 {a : Addr} {ks : List Str} {Q : Value -> Shared -> Prop} (hh : A.handled = none) (x : SetX s.heap a ks) (h64 : ks.length < 64) (h1 : ks.length ≠ 1)
  (h : ∀ (l : Addr) (h' : Heap) (tk : Nat) (d : Drawn) (out : Array Value) (ss' : List Str) (e : Nat), StrsAre out.toList ss' -> ss'.Perm ks -> sortedS ss' = true -> s.heap.objs.size <= l -> (∀ b o, s.heap.get? b = some o -> h'.get? b = some o) ->
   h'.get? l = some (seqObj "list" out e) -> Q (.ref l) { s with heap := h', toks := tk, drawn := d }) :
  wpAny (model P w) A (call (.builtin "sorted") [.ref a]) Q E s := by
 obtain ⟨o, es, ep, t, g1, g2, g3, g5, g6, g7, g8, g9, g10⟩ := x;have hn : es.size = ks.length := by have := g9.length_eq; simpa using this
 refine Calls.call_function_entry kind_sorted plain_sorted entry_sorted (args_sorted1 _) ?_;unfold Builtin.«sorted»;refine ay0 (m := checkCount "sorted" 1 1 _) (ay2 ?_);refine ay0 (zL3 hh ⟨o, g1, g2, g3, g6⟩ g5 g7 (by omega) fun h' tk d ws hlt k pm => ?_);obtain ⟨q1, q2⟩ := za42 g8 pm;have q3 := q2.trans g9;have hwl : ws.length = ks.length := by have := q3.length_eq; simpa using this
 refine ay0 (wpAny_newList ?_ (by rw [hwl, my8]; omega));have hL : (h'.push (seqObj "list" ws.toArray 0)).get? h'.objs.size = some (seqObj "list" ws.toArray 0) := ay7 _ rfl;refine ay0 (ey5 (dy3 slot_list_sort ⟨_, hL, rfl⟩ entry_list_sort (za43 hL q1 (by omega) fun out ss' a1 a2 a3 => ⟨_, rfl, ?_⟩) (args_list_sort _)));obtain ⟨e, he⟩ := sortedHeap_at (out := out) hL;refine ay2 ⟨_, rfl, h h'.objs.size _ tk d out ss' e a1 (a2.trans q3) a3 hlt (fun b o' q => ?_) he⟩;have hb := by1 (k _ _ q);rw [sortedHeap_old (by6 hb) (by rw [size_push']; exact ny0 hb)];exact ay1 _ (k _ _ q)
end
section
variable {X : Cx}
theorem za44 (hc : X.calm = true) : zj0 X (.type "set") (fun xs H Q => ∃ (l : Addr) (ss : List Str), xs = [.ref l] /\ SqL X.K H l (ss.map V.str) /\ ss.length + 1 < sy3 /\ ∀ p, H p = none -> Q (.ref p) (upd H p (setO p (zc7 ss)))) := by
 intro pins s σ H xs us Q I r h;obtain ⟨l, ss, rfl, hq, few, q⟩ := h;obtain ⟨u, rfl, rx⟩ := vals1 r;cases rx;obtain ⟨its, r', pl, hz⟩ := I.list hq;refine za39 (I.ok.hd hc) pl.isList (by simpa using zS5 r') few fun h' tk hS k => ?_;exact ⟨.ref s.heap.objs.size, _, I.laid (t' := tk) k (ay6 _) (za41 hS.x), rfl, q _ (I.hok.fresh (ay6 _))⟩
theorem zs2 (hc : X.calm = true) : zj0 X (.builtin "sorted") (fun xs H Q => ∃ (p : Addr) (ks : List Str), xs = [.ref p] /\ H p = some (setO p ks) /\ ks.length < 64 /\ ks.length ≠ 1 /\ ∀ (l : Addr) (ss' : List Str), H l = none -> ss'.Perm ks -> sortedS ss' = true -> Q (.ref l) (upd H l (.lst (ss'.map V.str)))) := by
 intro pins s σ H xs us Q I r h;obtain ⟨p, ks, rfl, hq, h64, h1, q⟩ := h;obtain ⟨u, rfl, rx⟩ := vals1 r;cases rx;have x : SetX s.heap p ks := (I.hok p _ hq).1;refine zU7 (I.ok.hd hc) x h64 h1 fun l h' tk d out ss' e a1 a2 a3 hl k he => ?_;refine ⟨.ref l, _, (I.laid (t' := tk) k hl (show zb6 X.prog X.w _ _ _ (.lst (ss'.map V.str)) from ⟨?_, out.toList, e, zO8 a1, ?_⟩)).drew d, rfl, q _ _ (I.hok.fresh hl) a2 a3⟩
 ·rw [ay4, a2.length_eq, my8]; omega
 ·simpa [seqObj] using he
end
section
variable {X : Bc} {S : Sl} {W : Wl} {k : KB}
theorem zU8 {e : Expr} {p1 p2 pos1 pos2 : Pos} (hc : X.calm = true) (hg1 : Gl X "sorted") (hm1 : X.mg "sorted" = none) (hv1 : fy2 "sorted" = some (.builtin "sorted")) (hg2 : Gl X "set") (hm2 : X.mg "set" = none) (hv2 : fy2 "set" = some (.type "set"))
  (h : BE X S W e fun x W1 => ∃ ss : List Str, zS6 W1 x (ss.map .str) /\ (zc7 ss).length < 64 /\ (zc7 ss).length ≠ 1 /\ ss.length + 1 < sy3 /\ ∀ ss' : List Str, ss'.Perm (zc7 ss) -> sortedS ss' = true -> k (.o W1.length) (W1 ++ [.lst (zb2 (ss'.map .str))]))
  (he : fy6 [e] X.env = [(false, eval e X.env)] := by rfl) (he2 : fy6 [.Call (.Name "set" p2) [e] [] pos2] X.env = [(false, eval (.Call (.Name "set" p2) [e] [] pos2) X.env)] := by rfl) : BE X S W (.Call (.Name "sorted" p1) [.Call (.Name "set" p2) [e] [] pos2] [] pos1) k :=
 .of (zo3 (zs2 hc) hg1 hm1 hv1 (zl0 (zE6 (za44 hc) hg2 hm2 hv2 (zl0 zh8 zu1 he) (by decide) (by decide) he rfl) zu1 he2) (by decide) (by decide) he2 rfl) fun F A σ H Q x0 r sr q => by
  refine h.use x0 r sr fun F1 A1 W1 H1 x vx e1 r1 z1 zR => ?_;obtain ⟨ss, hx, h64, h1, few, h2⟩ := zR;obtain ⟨a, vs, rfl, hs, z⟩ := r1.lst z1 hx;obtain rfl := zv2 z;refine ⟨a, ss, rfl, .inl hs, few, fun p hp => ?_⟩;obtain ⟨r2, e2⟩ := r1.newF hp (setO p (zc7 ss));refine ⟨p, zc7 ss, rfl, zb3, h64, h1, fun l ss' hl p1 p2 => ?_⟩;exact ((q.ext e1).ext e2).zN9 r2 hl (o := .lst (zb2 (ss'.map .str))) ⟨_, rfl, zf3 zA3⟩ (h2 ss' p1 p2)
end
theorem zH4 : typeLookup (.type "list") "keys" = pure none := by rw [vy1, ny8]; kernel_rfl
theorem zl6 : typeLookup (.type "list") "__getattr__" = pure none := by rw [vy1, ny8]; kernel_rfl
section
variable {prog : cy8} {w : World} {A : Around} {E : Value -> Shared -> Prop} {h : Heap} {g : Array GenState} {d : Drawn} {t : Nat} {os : OsState} {a : Addr} {its : Array Value} {n : Nat}
theorem zB9 : isSubtype (.type "AttributeError") (.type "AttributeError") = pure true := by rw [isSubtype_type]; kernel_rfl
theorem zU9 {α : Type} {s : Shared} {msg : Str} {Q : α -> Shared -> Prop} (hh : A.handled = none) (hm : msg.length <= by2)
  (q : ∀ h' tk e, (∀ b o, s.heap.get? b = some o -> h'.get? b = some o) -> qy8 { s with heap := h', toks := tk } e "AttributeError" -> E e { s with heap := h', toks := tk }) :
  wpAny (model prog w) A (raiseAttrError (.ref a) "keys" msg : Sem α) Q E s := by
 unfold raiseAttrError;refine ay0 (wpAny_mkStr ?_);refine ay0 ?_;simp only [newExc, newTuple];refine ay0 (dy8 ?_ (by size_fits));refine ay0 (m := firstArgMember _ _) (wpAny_of_eq (a := dy4) (by kernel_rfl) ?_);refine dy8 ?_ (by size_fits);dsimp only
 let ex : Obj := { cls := .type "AttributeError", data := .fields (#[.ref s.heap.objs.size, .none, .none, .none, .bool false, .none] ++ ownMembersOf (.type "AttributeError") [.str msg s.toks]) }
 let h1 : Heap := s.heap.push { cls := .type "tuple", data := .seq #[.str msg s.toks] }
 have he : (h1.push ex).get? h1.objs.size = some ex := ay7 _ rfl;have kp : ∀ b o, s.heap.get? b = some o -> (h1.push ex).get? b = some o := fun b o e => ay1 _ (ay1 _ e);have nw : ∀ b o, s.heap.get? b = some o -> b ≠ h1.objs.size := fun b o e => by6 (by1 (ay1 _ e));show wpAny (model prog w) A (mkText (ly1 "keys") >>= fun x => noteAttr (.ref h1.objs.size) (.ref a) x >>= fun _ => raiseNew (.ref h1.objs.size)) Q E { s with heap := h1.push ex, toks := s.toks + 1 };generalize h1.objs.size = ea at he nw ⊢;generalize h1.push ex = h2 at he kp ⊢;refine ay0 (wpAny_mkText ?_);refine ay0 ?_;unfold noteAttr;dsimp only;have hT : qy8 { s with heap := h2, toks := s.toks + 1 + 1 } (.ref ea) "AttributeError" := ⟨_, he, rfl⟩
 refine ay0 ?_;unfold lacksNameAndObj;dsimp only;refine ay0 (ky8 hT zB9 ?_);simp only [Bool.not_true, iy3, if_false];refine ay0 (wpAny_load he ?_);refine wpAny_of_eq (a := true) (by first | rfl | (simp [ex, ownMembersOf, unsetMember, rawInt, doubtfulMember]; done) | kernel_rfl) ?_;rw [if_pos rfl];refine ay0 (my9 (ay0 (py2 hT ?_)));dsimp only;unfold layMembers;refine ay0 (wpAny_load he ?_);dsimp only [ex];refine wpAny_update he ?_;refine wpAny_raiseNew_none hh (q _ _ _ (fun b o e => ?_) ?_)
 ·exact (dy0 _ _ (fy4 (nw b o e))).trans (kp b o e)
 ·exact ⟨_, fy8 _ he (ly2 (gy8 rfl _)), sy2 ..⟩
theorem zV0 {tk : Tok} {Q : PySem.Fin -> Shared -> Prop} (hh : A.handled = none) (hx : h.get? a = some { cls := .type "list", data := .seq its n })
  (q : ∀ h' tk e, (∀ b o, h.get? b = some o -> h'.get? b = some o) -> qy8 ⟨h', g, d, tk, os⟩ e "AttributeError" -> E e ⟨h', g, d, tk, os⟩) :
  wpAny (model prog w) A (oy6.«object.__getattribute__» ⟨[.ref a, .str "keys" tk], []⟩) Q E ⟨h, g, d, t, os⟩ := by
 have hT : (⟨h, g, d, t, os⟩ : Shared).TypeIs (.ref a) "list" := ⟨_, hx, rfl⟩
 have f1 := zH4;have f2 := zl6
 repeat any_goals first | assumption | wp_step
 exact zU9 hh (by decide +kernel) q
theorem zc67 {tk : Tok} {Q : Value -> Shared -> Prop} (hh : A.handled = none) (hx : h.get? a = some { cls := .type "list", data := .seq its n })
  (q : ∀ h' tk e, (∀ b o, h.get? b = some o -> h'.get? b = some o) -> qy8 ⟨h', g, d, tk, os⟩ e "AttributeError" -> E e ⟨h', g, d, tk, os⟩) :
  wpAny (model prog w) A (getAttrBy (.ref a) (.str "keys" tk) false) Q E ⟨h, g, d, t, os⟩ := by
 have hT : (⟨h, g, d, t, os⟩ : Shared).TypeIs (.ref a) "list" := ⟨_, hx, rfl⟩
 have f2 := sy6.lookup;have f3 := sy6.bind (.ref a)
 repeat any_goals first | assumption | wp_step
 refine codeAny_call_builtin sy6.plain F.entry_list_ga (sy6.check _ _ _ _ _ _ _ _ hT (F.args_list_getattribute_2 _ _) (zV0 (by simp [hh]) hx fun h' tk e k ty => ?_));show wpAny (model prog w) A (getattributeRaised (.ref a) (.str "keys" _) (.type "list") e none false false) Q E _;unfold getattributeRaised;refine ay0 (ky8 ty zB9 ?_);rw [if_pos rfl];refine ay0 ?_;show wpAny _ _ (typeLookup (.type "list") "__getattr__") _ _ _;rw [zl6];exact ay2 (wpAny_throw (q h' tk e k ty))
theorem zc68 {s : Shared} {Q : Option Value -> Shared -> Prop} (hh : A.handled = none) (hx : s.heap.get? a = some { cls := .type "list", data := .seq its n })
  (q : ∀ h' tk, (∀ b o, s.heap.get? b = some o -> h'.get? b = some o) -> Q none { s with heap := h', toks := tk }) : wpAny (model prog w) A (getAttr? (.ref a) "keys") Q E s := by
 unfold getAttr? getAttrBy?;refine ay0 (wpAny_mkText ?_);refine ay0 (py1 (zc67 hh hx fun h' tk e k ty => ?_));refine ay0 (ky8 ty zB9 ?_);exact ay2 (q h' tk k)
end
theorem zl7 : entryFor table "dict.update.loop" = some oy6.«dict.update.loop» := entryFor_of_tree (by kernel_rfl)
theorem zf6 : plainId "dict.update.loop" = true := by decide +kernel
def putAll {κ ν : Type} [DecidableEq κ] (put : List (κ × ν) -> κ -> ν -> List (κ × ν)) : List (κ × ν) -> List (κ × ν) := fun xs => xs.foldl (fun kvs p => put kvs p.1 p.2) []
theorem putAll_snoc {κ ν : Type} [DecidableEq κ] (put : List (κ × ν) -> κ -> ν -> List (κ × ν)) (xs : List (κ × ν)) (p : κ × ν) : putAll put (xs ++ [p]) = put (putAll put xs) p.1 p.2 := by simp [putAll]
theorem zV1 (xs : List (Key × V)) : (putAll putK xs).length <= xs.length := by
 have : ∀ (xs kvs : List (Key × V)), (xs.foldl (fun kvs p => putK kvs p.1 p.2) kvs).length <= kvs.length + xs.length := by
  intro xs
  induction xs with
  | nil => intro kvs; simp
  | cons x xs ih =>
   intro kvs;have a := ih (putK kvs x.1 x.2);have b := zk1 kvs x.1 x.2;simp only [xy4, oy4];omega
 have q := this xs [];simpa [putAll] using q
section
variable {P : cy8} {w : World} {A : Around} {R : Result -> Shared -> Prop} {I d : Addr} {fp wr : List Addr} {G : Array GenState -> Array GenState -> Prop} {St : Nat -> Shared -> Prop} {ps : List Addr} {ys : List (Str × V)}
def zl8 (h : Heap) (ps : List Addr) (ys : List (Str × V)) : Prop := ∀ (i : Nat) p, ps[i]? = some p -> ∃ x y its, ys[i]? = some (x, y) /\ Vals [.str x, y] its /\ h.IsTuple p its.toArray
abbrev keyP (p : Str × V) : Key × V := (.inr p.1, p.2)
theorem za45 (W : WalksS P w A.in1 I fp wr G ps.length (fun i v => ∃ p, ps[i]? = some p /\ v = .ref p) St) (hd : d ∉ fp) (apart : ∀ p ∈ ps, p ≠ d /\ p ∉ wr) (few : ys.length <= by2) (hl : ps.length = ys.length) :
  ∀ (j i : Nat) (s : Shared), ps.length - i = j -> i <= ps.length -> St i s -> zl8 s.heap ps ys -> (∃ vs, KV (putAll putK ((ys.take i).map keyP)) vs /\ s.heap.DictOf (zb5 P w) d vs) ->
   (∀ s', Moved (d :: wr) G s s' -> (∃ vs, KV (putAll putK (ys.map keyP)) vs /\ s'.heap.DictOf (zb5 P w) d vs) -> R (.ok (.ret .none)) s') ->
   ly4 (model P w) A (.builtin "dict.update.loop" ⟨[.ref d, .ref I, rawInt i, .none], []⟩) R s := by
 have nw : d ∉ wr := fun z => hd (W.sub _ z);have sub : ∀ b ∈ wr, b ∈ d :: wr := fun b z => by0 _ z;intro j
 induction j with
 | zero =>
  intro i s hj hi st hp hs q;obtain rfl : i = ps.length := by omega
  refine hy1 zl7 ?_;rw [fy1 zf6 _];unfold Builtin.«dict.update.loop»;refine ay0 (W.done s _ _ st fun s' mv => ?_);rw [hl, gy7] at hs;obtain ⟨vs, k1, k2⟩ := hs;refine ay0 (ay2 (ay2 (q s' (mv.mono sub) ⟨vs, k1, ?_⟩)));obtain ⟨o, es, ep, ho, r⟩ := k2;exact ⟨o, es, ep, mv.heap d o nw ho, r⟩
 | succ j ih =>
  intro i s hj hi st hp hs q;have lt : i < ps.length := by omega
  refine hy1 zl7 ?_;rw [fy1 zf6 _];unfold Builtin.«dict.update.loop»;refine ay0 (W.item i s _ _ lt st fun v s' hv st' mv => ?_);obtain ⟨p, hpi, rfl⟩ := hv;obtain ⟨x, y, its, hy, hvs, ht⟩ := hp i p hpi;obtain ⟨pd, pw⟩ := apart p (cy5 hpi);obtain ⟨vs, k1, k2⟩ := hs
  have k2' : s'.heap.DictOf (zb5 P w) d vs := by
   obtain ⟨o, es, ep, ho, r⟩ := k2;exact ⟨o, es, ep, mv.heap d o nw ho, r⟩
  obtain ⟨o, h1, h2, n, h3⟩ := ht;have h1' := mv.heap p o pw h1;dsimp only;refine ay0 (ey5 (ay0 ?_));obtain ⟨u1, u2, rfl, ⟨t, rfl⟩, ry⟩ := hvs.two;have nx : ys.take (i + 1) = ys.take i ++ [(x, y)] := by rw [ey8, hy]; rfl
  have hT : s'.TypeIs (.ref p) "tuple" := ⟨o, h1', h2⟩
  refine wpAny_tryCatch ?_;unfold Builtin.Dict.pairItems;refine ay0 (py2 hT ?_);rw [if_pos (by decide)];refine ay0 (ry5 h1' h3 (ay2 ?_));dsimp only [Option.getD]
  have small : vs.length <= by2 := by
   have a := zV1 ((ys.take i).map keyP);rw [ay4, dy2] at a;have b := k1.length;omega
  refine ey5 (wpAny_dictSet_pairs (knd := zb5 P w) (k := .inr x) (za32 (k := .inr x) ⟨t, rfl⟩) k2' (fun h' kd sb => ?_) small);refine ay2 ⟨iy5 zf6 _, ih (i + 1) _ (by omega) lt (W.frame _ s' _ _ st' (ry1 _) fun b hb o e => ?_) (fun i' p' hp' => ?_) ⟨stored vs (.inr x) u2, ?_, kd⟩ fun s2 m2 h2 => ?_⟩
  ·rw [sb.2 b fun z => hd (by rw [<- z]; exact hb)]; exact e
  ·obtain ⟨x', y', its', g1, g2, g3⟩ := hp i' p' hp';obtain ⟨pd', pw'⟩ := apart p' (cy5 hp');obtain ⟨o', c1, c2⟩ := g3;exact ⟨x', y', its', g1, g2, o', (sb.2 p' pd').trans (mv.heap p' o' pw' c1), c2⟩
  ·rw [nx, fy3, List.map_singleton, putAll_snoc];exact k1.put _ ry
  ·refine q s2 (Moved.trans W.gtrans ((mv.mono sub).then_heap (ry1 _) fun b o hb e => ?_) m2) h2;rw [sb.2 b fun z => hb (by rw [z]; exact ay9)]; exact e
theorem zl8.move {h h' : Heap} (x : zl8 h ps ys) (k : ∀ b o, h.get? b = some o -> h'.get? b = some o) : zl8 h' ps ys := fun i p hp => by
 obtain ⟨a, b, c, g1, g2, o, g3, g4⟩ := x i p hp;exact ⟨a, b, c, g1, g2, o, k _ _ g3, g4⟩
theorem zl8.there {h : Heap} (x : zl8 h ps ys) : ∀ p ∈ ps, p < h.objs.size := fun p hp => by
 obtain ⟨i, hi⟩ := gy1.mp hp;obtain ⟨a, b, c, g1, g2, o, g3, g4⟩ := x i p hi;exact by1 g3
theorem zV2 {E : Value -> Shared -> Prop} {s : Shared} {l : Addr} {its : Array Value} {n : Nat} {Q : Value -> Shared -> Prop} (hh : A.handled = none) (hl : s.heap.get? l = some { cls := .type "list", data := .seq its n }) (hi : its.toList = ps.map .ref)
  (hp : zl8 s.heap ps ys) (few : ys.length <= by2) (hlen : ps.length = ys.length)
  (h : ∀ h' tk vs, KV (putAll putK (ys.map keyP)) vs -> h'.DictOf (zb5 P w) s.heap.objs.size vs -> (∀ b o, s.heap.get? b = some o -> h'.get? b = some o) -> Q (.ref s.heap.objs.size) { s with heap := h', toks := tk }) :
  wpAny (model P w) A (call (.type "dict") [.ref l]) Q E s := by
 refine callType_codes (Q₁ := fun ob s1 => ob = .ref s.heap.objs.size /\ s1 = { s with heap := s.heap.push { cls := .type "dict", data := .dict #[] } }) F.kt_called_dict (F.kt_typeCall_dict_1 _) F.entry_dict_init (kt_code_dict_new _ ⟨rfl, rfl⟩) ?_;rintro ob s1 ⟨rfl, rfl⟩;have hnew : (s.heap.push { cls := .type "dict", data := .dict #[] }).DictOf (zb5 P w) s.heap.objs.size [] := Heap.DictOf.new s.heap;have hl1 : (s.heap.push { cls := .type "dict", data := .dict #[] }).get? l = some { cls := .type "list", data := .seq its n } := ay1 _ hl;refine ⟨hnew.typeIs, F.args_dict_init_2 _ _, ?_⟩;unfold Builtin.«dict.__init__»;refine ay0 ?_;unfold Builtin.Dict.selfAndRest;refine ay0 (ny7 hnew.typeIs (ay2 ?_));show wpAny _ _ (Builtin.Dict.updateFrom "dict.__init__" s.heap.objs.size (.ref l) [] .none) _ _ _;unfold Builtin.Dict.updateFrom;refine ay0 (py2 (T := "list") ⟨_, hl1, rfl⟩ ?_);rw [if_pos (by decide)];refine ay0 (zc68 (by simp [hh]) hl1 fun h2 tk k2 => ?_);refine py9 (fun _ => ?_) fun z => absurd rfl z;have hl2 : h2.IsList l its := ⟨_, k2 _ _ hl1, rfl, n, rfl⟩
 refine ay0 (my9 (ay0 (vy5 hl2 ?_)));have k2 : ∀ b o, (s.heap.push { cls := .type "dict", data := .dict #[] }).get? b = some o -> h2.get? b = some o := k2
 have lt2 : s.heap.objs.size < h2.objs.size := by
  obtain ⟨o, es, ep, ho, r⟩ := hnew;exact by1 (k2 _ _ ho)
 have lS : l < s.heap.objs.size := by1 hl;have nI : l ≠ h2.objs.size := by6 (Nat.lt_trans lS lt2);have W0 := (PySem.Walks.list (prog := P) (w := w) (A := A.in1.in1) (by simp [hh]) h2.objs.size l nI its).toS;have hsz : its.size = ps.length := by rw [<- iy4, hi, ay4]
 have W1 := zG8 W0 (P2 := fun i v => ∃ p, ps[i]? = some p /\ v = cy7 p) fun i v hv => by
  have e : its.toList[i]? = some v := by rw [jy6]; exact hv
  rw [hi, by3] at e;cases q : ps[i]? with
  | none => rw [q] at e; cases e
  | some p => rw [q] at e; cases e; exact ⟨p, rfl, rfl⟩
 rw [hsz] at W1;have kp : ∀ b o, s.heap.get? b = some o -> (h2.push { cls := .type "list_iterator", data := .fields #[.ref l, .int 0 0] }).get? b = some o := fun b o e => ay1 _ (k2 _ _ (ay1 _ e));refine ay2 ⟨iy5 zf6 _, za45 (i := 0) (j := ps.length - 0) W1 ?_ (fun p z => ?_) few hlen _ rfl (dy5 _) ⟨⟨_, ay7 _ rfl, rfl, rfl⟩, hl2.push _⟩ (hp.move kp) ⟨[], ?_, ?_⟩ fun s' mv ⟨vs, c1, c2⟩ => ?_⟩
 ·simp only [by7, ky1, or_false, not_or];exact ⟨by6 lt2, ky5 lS⟩
 ·have z1 := hp.there p z;refine ⟨by6 z1, ?_⟩;simp only [by7, ky1, or_false];exact by6 (Nat.lt_trans z1 lt2)
 ·simp [putAll]; exact .nil
 ·obtain ⟨o, es, ep, ho, r⟩ := hnew;exact ⟨o, es, ep, ay1 _ (k2 _ _ ho), r⟩
 ·obtain ⟨h', g', d', tk', os'⟩ := s';have eg : g' = s.gens := mv.gens;have ed : d' = s.drawn := mv.drawn;have eo : os' = s.os := mv.os;subst eg ed eo;refine ⟨rfl, h h' tk' vs c1 c2 fun b o e => mv.heap b o ?_ (kp b o e)⟩;have z1 := by1 e;simp only [by7, ky1, or_false, not_or];exact ⟨by6 z1, by6 (Nat.lt_trans z1 lt2)⟩
end
theorem zH5 {κ : Type} [DecidableEq κ] {k : κ} : ∀ {kvs : List (κ × V)}, k ∉ kvs.map (·.1) -> zx4 kvs k = none
 | [], _ => rfl
 | p :: r, h => by
  simp only [ey6, by7, not_or] at h;rw [zm3 (fun e => h.1 e.symm)];exact zH5 h.2
theorem za46 {xs : List (Key × V)} (h : (xs.map (·.1)).Nodup) : putAll putK xs = xs := by
 have : ∀ (n : Nat), n <= xs.length -> putAll putK (xs.take n) = xs.take n := by
  intro n
  induction n with
  | zero => intro _; rfl
  | succ n ih =>
   intro hn;have lt : n < xs.length := by omega
   have e : xs.take (n + 1) = xs.take n ++ [xs[n]] := by rw [ey8, by5 lt]; rfl
   rw [e, putAll_snoc, ih (by omega), zO5 _ (zH5 fun z => ?_)];have e' : (xs.map (·.1)).take (n + 1) = (xs.take n).map (·.1) ++ [xs[n].1] := by rw [<- vy7, e, fy3]; rfl
   have nd := h.sublist (ry9 (n + 1) (xs.map (·.1)));rw [e', List.nodup_append] at nd;exact nd.2.2 _ z _ (by simp) rfl
 have q := this xs.length (ay6 _)
 rwa [gy7] at q
section
variable {X : Cx}
theorem zV3 (hc : X.calm = true) : zj0 X (.type "dict") (fun xs H Q => ∃ (l : Addr) (ps : List Addr) (ys : List (Str × V)), xs = [.ref l] /\ Rd H l (.lst (ps.map V.ref)) /\ (∀ (i : Nat) p, ps[i]? = some p -> ∃ x y, ys[i]? = some (x, y) /\ SqT X.K H p [.str x, y]) /\
  ps.length = ys.length /\ (ys.map (·.1)).Nodup /\ ∀ a, H a = none -> Q (.ref a) (upd H a (.dK (ys.map keyP)))) := by
 intro pins s σ H xs us Q I r h;obtain ⟨l, ps, ys, rfl, hq, hp, hlen, nd, q⟩ := h;obtain ⟨u, rfl, rx⟩ := vals1 r;cases rx;obtain ⟨z, its, n, rv, e⟩ := hq.ok I.hok;rw [ay4] at z
 have hi : its = ps.map cy7 := by
  clear hq hp hlen q e z
  induction ps generalizing its with
  | nil => cases rv; rfl
  | cons p ps ih =>
   cases rv with
   | cons a b =>
    cases (show _ = cy7 p from a);rw [ih _ b];rfl
 have pa : zl8 s.heap ps ys := fun i p hpi => by
  obtain ⟨x, y, h1, h2⟩ := hp i p hpi;obtain ⟨its', r', ht, _⟩ := I.tuple h2;exact ⟨x, y, its', h1, r', ht⟩
 have nd' : ((ys.map keyP).map (·.1)).Nodup := by
  rw [ey9];have : (ys.map (·.1)).map (xy5 : Str -> Key) = ys.map ((·.1) ∘ keyP) := by rw [ey9]; rfl
  rw [<- this];exact List.Pairwise.map _ (fun a b ne e => ne (uy4 e)) nd
 refine zV2 (P := X.prog) (w := X.w) (I.ok.hd hc) e (by simpa using hi) pa (by omega) hlen fun h' tk vs c1 c2 k => ?_;rw [za46 nd'] at c1;have big := I.big;refine ⟨.ref s.heap.objs.size, _, I.laid (t' := tk) k (ay6 _) (show zb6 X.prog X.w _ _ _ (.dK (ys.map keyP)) from ⟨by rw [ay4]; omega, ?_, vs, c1, c2⟩), rfl, q _ (I.hok.fresh (ay6 _))⟩;exact beq_false_of_ne (ky5 big)
theorem ze68 (hu : X.A.units + 1 < cLine) : IxR X (fun x y H Q => ∃ a kvs k v, x = .ref a /\ y = kV k /\ H a = some (.dK kvs) /\ zx4 kvs k = some v /\ Q v H) := by
 intro value slice pins s σ H x y v u Q I rx ry h hs;obtain ⟨a, kvs, k, z, rfl, rfl, e, hv, q⟩ := h;cases (show v = cy7 a from rx);obtain ⟨_, hd, vs, rel, dd⟩ := zd73 I.hok e;obtain ⟨w', hw, rw'⟩ := zz0.some_of (v := z) (o := valueAt vs k) (by rw [<- hv]; exact rel.val k);exact qy1 (x := w') dd.typeIs wy3.lookup (wpAny_getItem_of (Q := fun r s' => r = w' /\ EP X pins σ Q r s') (za32 ry) dd.mapOf hw ⟨rfl, z, H, I.tok _, rw', q⟩) hs
end
def zX4 (kvs : List (Key × El)) (k : Key) : Option El := (kvs.find? fun kv => decide (kv.1 = k)).map (·.2)
section
variable {K : ay5} {F : Hp} {A : List Addr}
theorem za47 {k : Key} {e : El} : ∀ {kvs : List (Key × El)} {vs : List (Key × V)}, Paired (fun p q => p.1 = q.1 /\ ElR K F A p.2 q.2) kvs vs -> zX4 kvs k = some e -> ∃ v, zx4 vs k = some v /\ ElR K F A e v
 | [], _, .nil, h => by simp [zX4] at h
 | (a, x) :: kvs, _, .cons (b := (b, v)) ⟨hk, he⟩ t, h => by
  have hk : a = b := hk;subst hk
  by_cases q : a = k
  ·have : zX4 ((a, x) :: kvs) k = some x := by simp [zX4, q]
   rw [this] at h;cases h;exact ⟨v, zp1 q, he⟩
  ·have : zX4 ((a, x) :: kvs) k = zX4 kvs k := by simp [zX4, q]
   rw [this] at h;rw [zm3 (show ¬ (a, v).1 = k from q)];exact za47 t h
end
section
variable {X : Bc} {W : Wl} {k : KB}
theorem zd80 {j : Nat} {kvs : List (Key × El)} {x : Str} {e : El} (hu : X.A.units + 64 < cLine) (hj : W[j]? = some (.dK kvs)) (he : zX4 kvs (.inr x) = some e) (h : k e W) : IB X (.o j) (.d (.str x)) W k := .of (ze68 (by omega)) fun F A H Q vx vy r zx zy q => by
 obtain ⟨a, ha, rfl⟩ := zx;obtain ⟨u, hH, ws, rfl, p⟩ := r.obj j a _ ha hj;obtain rfl := Rq.zf2 zy;obtain ⟨v, h1, h2⟩ := za47 p he;exact ⟨a, ws, .inr x, v, rfl, rfl, hH, h1, q.same r h2 h⟩
end
def zH6 (h : Heap) (d : Addr) (es : Array my5) (ep : Nat) : Prop := ∃ o, h.get? d = some o /\ o.ExactDict /\ o.data = .dict es ep
section
variable {P : cy8} {w : World} {A : Around} {E : Value -> Shared -> Prop} {s : Shared} {it d : Addr} {i ep : Nat} {es : Array my5}
theorem zH6.move {h h' : Heap} (x : zH6 h d es ep) (k : ∀ o, h.get? d = some o -> h'.get? d = some o) : zH6 h' d es ep := by
 obtain ⟨o, c, r⟩ := x;exact ⟨o, k o c, r⟩
theorem zP4 {Q : Option Value -> Shared -> Prop} {en : my5} (hit : s.heap.IsKeyIter it d i es.size ep) (hm : zH6 s.heap d es ep) (hx : es[i]? = some en)
  (hQ : ∀ h', h'.IsKeyIter it d (i + 1) es.size ep -> fy5 it s.heap h' -> Q (some en.key) { s with heap := h' }) : wpAny (model P w) A (pyNext (.ref it)) Q E s := by
 obtain ⟨o, c1, c2, c3⟩ := id hit;obtain ⟨b, b1, b2, b3⟩ := hm;have ty := hit.typeIs
 have lt : i < es.size := by
  rcases Nat.lt_or_ge i es.size with z | z
  ·exact z
  ·rw [my6 z] at hx; cases hx
 unfold pyNext;refine ay0 (py1 (fy0 (name := ly1 "__next__") ty ly3 (dy3 ly3 ty F.entry_dict_keyiterator_next ?_ (F.args_dict_keyiterator_next_1 _))));refine ay0 (ay2 (ay0 (ay0 ?_)))
 first | refine ay0 (oy7 ty (ay2 ?_)) | refine ay0 (sy7 ty (ay2 ?_))
 refine ay0 (uy0 c1 c3 ?_);have own : gy6 "dict_keyiterator" = false := by decide
 simp only [own, iy3, if_false];show wpAny _ _ (if (cy7 d == dy4) = true then _ else _) _ _ s;rw [if_neg (show ¬ ((cy7 d == dy4) = true) from by9)];refine ay0 (ay2 (ay0 (ky4 b1 b3 ?_)));rw [if_neg (by simp)];refine ay0 (ay2 (ay0 (oy0 b1 b3 ?_)));rw [if_neg (by simp)];refine ay2 ?_;simp only [show ¬ ((i : Int) < 0) from by omega, if_false, ky3, hx];refine ay0 ?_
 first | refine ay0 (oy7 ty (ay2 ?_)) | refine ay0 (sy7 ty (ay2 ?_))
 refine ay0 (wpAny_isOneOf_keyiter ty ?_);show wpAny _ _ (uy3 (.ref it) 1 (rawInt ((i : Int) + 1)) >>= _) _ _ s;refine ay0 (ky0 c1 c3 (by simp) ?_)
 have hit' : (s.heap.update it (vy8 (·.setIfInBounds 1 (rawInt ((i : Int) + 1))))).IsKeyIter it d (i + 1) es.size ep :=
  ⟨_, fy8 _ c1 (ly2 (gy8 c3 _)), (sy2 ..).trans c2, by rw [gy8 c3]; simp [rawInt]⟩
 refine ay0 (ey5 (ay0 (wpAny_isOneOf_keyiter (s := { s with heap := s.heap.update it (vy8 (·.setIfInBounds 1 (rawInt ((i : Int) + 1)))) }) hit'.typeIs ?_)));show wpAny _ _ (pure en.key) _ _ _;exact ay2 (ay2 ⟨_, rfl, ay2 (hQ _ hit' (hy4 ..))⟩)
theorem za48 {Q : Option Value -> Shared -> Prop} (hh : A.handled = none) (hit : s.heap.IsKeyIter it d i es.size ep) (hm : zH6 s.heap d es ep) (hx : es.size <= i)
  (hQ : ∀ h', Heap.ExtBut it s.heap h' -> Q none { s with heap := h' }) : wpAny (model P w) A (pyNext (.ref it)) Q E s := by
 obtain ⟨o, c1, c2, c3⟩ := id hit;obtain ⟨b, b1, b2, b3⟩ := hm;have ty := hit.typeIs;unfold pyNext;refine ay0 (py1 (fy0 (name := ly1 "__next__") ty ly3 (dy3 ly3 ty F.entry_dict_keyiterator_next ?_ (F.args_dict_keyiterator_next_1 _))));refine ay0 (ay2 (ay0 (ay0 ?_)))
 first | refine ay0 (oy7 ty (ay2 ?_)) | refine ay0 (sy7 ty (ay2 ?_))
 refine ay0 (uy0 c1 c3 ?_);have own : gy6 "dict_keyiterator" = false := by decide
 simp only [own, iy3, if_false];show wpAny _ _ (if (cy7 d == dy4) = true then _ else _) _ _ s;rw [if_neg (show ¬ ((cy7 d == dy4) = true) from by9)];refine ay0 (ay2 (ay0 (ky4 b1 b3 ?_)));rw [if_neg (by simp)];refine ay0 (ay2 (ay0 (oy0 b1 b3 ?_)));rw [if_neg (by simp)];refine ay2 ?_;simp only [show ¬ ((i : Int) < 0) from by omega, if_false, ky3, my6 hx];refine ay0 ?_
 first | refine ay0 (oy7 ty (ay2 ?_)) | refine ay0 (sy7 ty (ay2 ?_))
 show wpAny _ _ (uy3 (.ref it) 0 .none >>= _) _ _ s;refine ay0 (ky0 c1 c3 (by simp) ?_);refine zj6 (by simpa using hh) fun h' e k te => ?_;refine ay0 (ky8 te isSubtype_stop ?_);exact ay2 (hQ _ fun b' o' hb q => k _ _ ((dy0 _ _ (fy4 hb)).trans q))
theorem zP5 {Q : Value -> Shared -> Prop} (hd : (d == ly9) = false) (hm : zH6 s.heap d es ep)
  (hQ : Q (.ref s.heap.objs.size) { s with heap := s.heap.push { cls := .type "dict_keyiterator", data := .fields #[.ref d, .int 0 0, .int es.size 0, .int ep 0] } }) : wpAny (model P w) A (pyIter (.ref d)) Q E s := by
 obtain ⟨b, b1, b2, b3⟩ := hm;have ty : s.TypeIs (.ref d) "dict" := ⟨b, b1, b2.1⟩
 refine sy4 ty F.slot_dict_iter (dy3 F.slot_dict_iter ty F.entry_dict_iter ?_ (F.args_dict_iter_1 _));unfold Builtin.«dict.__iter__»;refine ay0 ?_;unfold Builtin.Dict.dictSlotNone;refine ay0 (ny7 ty (ay2 ?_));show wpAny _ _ (jy8 d >>= _) _ _ s;unfold Builtin.Dict.showsAll;rw [if_neg (by rw [hd]; exact by9)];refine ay0 (ay2 (ay0 (ky4 b1 b3 (ay0 (oy0 b1 b3 ?_)))));refine ay0 (dy8 (ay2 ⟨_, rfl, "dict_keyiterator", _, ⟨_, ay7 _ rfl, rfl⟩, ly3.lookup, ?_⟩));simpa [rawInt] using hQ
end
section
variable {X : Cx} {tg : Expr}
theorem Inv.frz {pins : List (Addr × Obj)} {σ : St} {H : Hp} {s : Shared} {d : Addr} {kvs : List (List Key × V)} (I : Inv X pins σ H s) (e : H d = some (.dT kvs)) : ∃ o, KeysIn H o (kvs.map (·.1)) /\ Inv X pins σ (upd H d (.frz o (.dT kvs))) s := by
 obtain ⟨z, hs, xs, pr, o, es, ep, h1, h2, h3, h4, h5⟩ := I.hok d _ e;refine ⟨o, ⟨es, ep, h2, h3, ?_, fun i k hk => ?_⟩, ?_⟩
 ·have := congrArg xy6 h4;rw [ay4, iy4] at this;rw [this, ay4];exact pr.length.symm
 ·rw [by3] at hk;cases hi : kvs[i]? with
  | none => rw [hi] at hk; cases hk
  | some p =>
   rw [hi] at hk;cases hk;obtain ⟨q, hq, e1, e2, e3⟩ := zh3 pr hi;refine ⟨entryOfKey (tupleKind (zb5 X.prog X.w)) q, q.2.1, ?_, rfl, e2⟩;rw [<- jy6, h4, by3, hq];rfl
 ·have ht : ∀ b ys, H b = some (.tup ys) -> upd H d (.frz o (.dT kvs)) b = some (.tup ys) := fun b ys hb => by
   rw [za5 (zJ3 hb e (by simp))]; exact hb
  refine I.write (x := d) (e := d) (h' := s.heap) (t' := s.toks) (o := .frz o (.dT kvs)) (by rw [e]; trivial) (.inl rfl) (fun _ _ _ q => q) ⟨o, h1⟩ ⟨h1, ?_⟩;exact zb6.zR6 (I.hok d _ e) (fun _ _ _ q => q) (fun b hb => by rw [za5 (zJ3 hb e (by simp))]; exact hb) ht
theorem Inv.zV4 {pins : List (Addr × Obj)} {σ : St} {H : Hp} {s : Shared} {d : Addr} {o : Obj} {u : HO} (I : Inv X pins σ H s) (e : H d = some (.frz o u)) (h0 : ∀ o' u', X.H₀ d ≠ some (.frz o' u')) : Inv X pins σ (upd H d u) s := by
 have hn : ∀ b, H b = none -> upd H d u b = none := fun b hb => by rw [za5 (fun z => by subst z; rw [e] at hb; cases hb)]; exact hb
 have hne : ∀ b v, H b = some v -> v ≠ .frz o u -> upd H d u b = some v := fun b v hb hv => by rw [za5 (zJ3 hb e hv)]; exact hb
 refine ⟨I.ok, I.os, I.bare, ⟨I.base.keep, I.base.slot, fun b ob q n hx => hn b (I.base.free b ob q n hx), I.base.there, fun b xs q => hne b _ (I.base.tups b xs q) (by simp), fun b ob u' q => ?_, fun b ps q => ?_⟩, I.loc, I.cell, hn _ I.free, fun x c h => hn _ (I.freeC x c h), fun p hp => ?_, fun b v q => ?_, I.len⟩
 ·have hb : b ≠ d := fun z => by subst z; exact h0 _ _ q
  rw [za5 hb];exact I.base.frzs b ob u' q
 ·obtain ⟨more, z⟩ := I.base.tbls b ps q;exact ⟨more, hne b _ z (by simp)⟩
 ·obtain ⟨a1, a2, a3⟩ := I.pin p hp;exact ⟨a1, hn _ a2, a3⟩
 ·have st : ∀ {c v}, zb6 X.prog X.w H s.heap c v -> zb6 X.prog X.w (upd H d u) s.heap c v := fun {c v} x =>
   x.zR6 (fun _ _ _ q => q) (fun b' hb => hne _ _ hb (by simp)) fun b' ys hb => hne _ _ hb (by simp)
  by_cases hb : b = d
  ·subst hb;rw [zb3] at q;cases q;exact st (show zb6 X.prog X.w H s.heap b (.frz o u) from I.hok b _ e).2
  ·rw [za5 hb] at q;exact st (I.hok b v q)
theorem zd81 {e : Expr} {t : TE} (h : PE X e t) : PE X e fun σ H Q => ∃ d kvs, H d = some (.dT kvs) /\ ∀ o, KeysIn H o (kvs.map (·.1)) -> t σ (upd H d (.frz o (.dT kvs))) fun v H' => ∃ kvs', H' d = some (.frz o (.dT kvs')) /\ Q v (upd H' d (.dT kvs')) := by
 intro pins s σ H Q I ⟨d, kvs, hd, q⟩;obtain ⟨o, ki, I1⟩ := I.frz hd
 have h0 : ∀ o' u', X.H₀ d ≠ some (.frz o' u') := fun o' u' z => by
  have := I.base.frzs d o' u' z;rw [hd] at this;cases this
 refine thn (h pins s σ _ _ I1 (q o ki)) fun v s1 zR => ?_;obtain ⟨y, H1, I2, r, kvs', e1, q1⟩ := zR;exact ⟨y, _, I2.zV4 e1 h0, r, q1⟩
end
theorem RW.zL4 {K : ay5} {A : List Addr} {W : Wl} {H : Hp} : ∀ (l : List (Addr × List V)) {F : Hp}, RW K F A W H -> (∀ p ∈ l, H p.1 = some (.tup p.2)) -> ∃ F', zm6 F F' /\ (∀ p ∈ l, F' p.1 = some (.tup p.2)) /\ RW K F' A W H
 | [], F, r, _ => ⟨F, .refl _, (fun p hp => absurd hp (by simp)), r⟩
 | p :: l, F, r, h => by
  obtain ⟨F1, s1, e1, r1⟩ := r.grew (.refl H) (h p ay9);obtain ⟨F2, s2, e2, r2⟩ := RW.zL4 l r1 fun q hq => h q (by0 _ hq);exact ⟨F2, s1.trans s2, fun q hq => (by7.mp hq).elim (fun z => by subst z; exact s2 _ _ e1) (e2 q), r2⟩
section
variable {X : Bc} {S : Sl} {W : Wl} {k : KB}
theorem zd82 {e : Expr} {j : Nat} {kvs : List (List Key × El)} (hj : W[j]? = some (.dT kvs)) (h : ∀ o, BE X S (W.set j (.fT o kvs)) e fun y W1 => W1[j]? = some (.fT o kvs) /\ k y (W1.set j (.dT kvs))) : BE X S W e k :=
 .of (zd81 zh8) fun F A σ H Q x0 r sr q => by
  classical
  have hlW : j < W.length := (ay3.mp hj).1;have hlA : j < A.length := by rw [r.len]; exact hlW
  have hjA : A[j]? = some A[j] := by simp [hlA]
  obtain ⟨ho, eH, vs, rfl, p⟩ := r.obj j _ _ hjA hj
  have hkeys : vs.map (·.1) = kvs.map (·.1) := by
   clear eH hj h
   induction p with
   | nil => rfl
   | cons a _ ih => simp [ih, a.1]
  refine ⟨A[j], vs, eH, fun o ki => ?_⟩;rw [hkeys] at ki;obtain ⟨es, ep, k1, k2, k3, k4⟩ := id ki
  obtain ⟨F1, s1, e1, r1⟩ := r.zL4 ((es.toList.zip (kvs.map (·.1))).filterMap fun p => match p.1.key with | .ref b => if H b = some (.tup (p.2.map kV)) then some (b, p.2.map kV) else none | _ => none) fun q hq => by
   obtain ⟨⟨en, kk⟩, _, hq⟩ := List.mem_filterMap.mp hq;simp only at hq
   split at hq
   ·split at hq
    ·cases hq; assumption
    ·cases hq
   ·cases hq
  have ki1 : KeysIn F1 o (kvs.map (·.1)) := by
   refine ⟨es, ep, k1, k2, k3, fun i kk hk => ?_⟩;obtain ⟨en, b, h1, h2, h3⟩ := k4 i kk hk;refine ⟨en, b, h1, h2, e1 (b, kk.map kV) (List.mem_filterMap.mpr ⟨(en, kk), ?_, ?_⟩)⟩
   ·refine gy1.mpr ⟨i, ?_⟩;rw [List.getElem?_zip_eq_some];exact ⟨by rw [jy6]; exact h1, hk⟩
   ·simp [h2, h3]
  have x1 : Ext F A F1 A := ⟨s1, ty7 _⟩
  have r2 : RW X.K F1 A (W.set j (.fT o kvs)) (upd H A[j] (.frz o (.dT vs))) := r1.put hjA ⟨vs, ⟨rfl, ki1⟩, zd6 (fun _ _ z => ⟨z.1, z.2.ext x1⟩) p⟩;refine (h o).use (x0.trans x1) r2 (sr.ext x1) fun F2 A2 W2 H2 y v x2 r3 z3 zR => ?_;obtain ⟨hw, hk⟩ := zR;have hjA2 : A2[j]? = some A[j] := zu5 x2.pre hjA;obtain ⟨h', e', vs', ⟨rfl, _⟩, p'⟩ := r3.obj j _ _ hjA2 hw;exact ⟨vs', e', q F2 A2 _ _ y v (x1.trans x2) (r3.put (o := .dT kvs) hjA2 ⟨vs', rfl, p'⟩) z3 hk⟩
end
end L2
namespace L2
open PySem PySem.Spec PyProof.Rows
open PySem.W
def Pm (n : Nat) (p : Array Nat) : Prop := p.Perm (ky2 n).toArray
theorem Pm.lt {n : Nat} {p : Array Nat} (h : Pm n p) (hn : 0 < n) (x : Nat) : Array.getD p x 0 < n := by
 unfold Array.getD
 split
 ·rename_i hx
  have : p[x] ∈ p := Array.getElem_mem hx;have := h.mem_iff.mp this;simpa using this
 ·exact hn
theorem Pm.rev {n : Nat} {p : Array Nat} (h : Pm n p) (i j : Nat) : Pm n (kas_rev p i j) := (mirror_perm p i j _).trans h
section
variable {n : Nat} (hn : 0 < n)
include hn
end
section
variable {prog : cy8} {w : World} {A : Around} {E : Value -> Shared -> Prop} {s : Shared} {a : Addr} {vs : List Value} {n : Nat}
theorem zc69 (vs : List Value) : (Array.map (fun x : Keyed => x.snd) (vs.toArray.zip vs.toArray)).toList = vs := by
 simp only [List.zip_toArray, List.map_toArray];exact List.map_snd_zip (ay6 _)
end
section
variable {X : Cx}
end
section
variable {X : Bc} {W : Wl} {k : KB}
end
end L2
namespace L2
open PySem PySem.Spec PyProof.Rows
section
variable {prog : cy8} {w : World} {A : Around} {E : Value -> Shared -> Prop} {s : Shared}
theorem zL5 {a : Addr} {ks : List Str} {k : Str} {tk : Tok} {Q : Value -> Shared -> Prop} (hS : zo2 prog w s.heap a ks) (hr : ks.length + 1 < sy3)
  (h : ∀ h', fy5 a s.heap h' -> zo2 prog w h' a (zv8 ks k) -> Q .none { s with heap := h', toks := s.toks + 1 }) :
  wpAny (model prog w) A (call (.builtin "set.add") [.ref a, .str k tk]) Q E s := by
 have hT : s.TypeIs (.ref a) "set" := by
  obtain ⟨o, es, ep, t, g1, g2, _⟩ := hS;exact ⟨o, g1, g2.1⟩
 refine dy3 F.slot_set_add hT F.entry_set_add ?_ (F.args_set_add_2 _ _);unfold Builtin.«set.add»;refine ay0 (ay2 ?_);dsimp only;unfold setAdd;refine ay0 (ey5 (ay0 ((hy3 prog w).pyHash (k := k) (PySem.strKind_is prog w k tk) ?_)));refine zP0 (s := { s with toks := s.toks + 1 }) hS hr fun b h' sb hs2 => ?_;exact ay2 ⟨_, rfl, h h' sb hs2⟩
variable {R : Result -> Shared -> Prop}
theorem zg8 {elt : Expr} {gens : List Comprehension} {scope : Scope} {pos : Pos} {it acc : Value} {env : Env} {d : Nat} {g : Comprehension} (hg : gens[d]? = some g) (ha : g.is_async = 0)
  (h1 : ly4 (model prog w) A (.compLoop (.SetComp elt gens scope pos) d it acc env) R s)
  (h2 : wpAny (model prog w) A (pyIter it) (fun it' s' => ly4 (model prog w) A (.compLoop (.SetComp elt gens scope pos) d it' acc env) R s') (fun _ _ => False) s) :
  ly4 (model prog w) A (.compStart (.SetComp elt gens scope pos) d it acc env) R s := by
 refine codeAny_of_tree ?_;show wpAny _ A ((compStart (.SetComp elt gens scope pos) d it acc env).onRaise (fun x => do noteFrame x env; standAt theWindowsPlace)) _ _ s;refine wpAny_notedAt ?_;unfold compStart;have e1 : (clausesOf (.SetComp elt gens scope pos))[d]? = some g := hg;have e2 : ((some g).elim false (·.is_async != 0)) = false := by simp [ha]
 rw [e1, e2];refine ay0 (wpAny_askSetting (wpAny_ite ?_))
 by_cases hq : ((model prog w).w.params.followText "comprehension-iter-twice") = true
 ·rw [if_pos hq];exact ay0 (ay2 (ay2 ⟨rfl, h1⟩))
 ·rw [if_neg hq];refine ay0 (my9 (ay0 (ly5 (ay0 (fy9 h2 (fun it' s' h' => ay2 ⟨rfl, h'⟩) fun _ _ h => h.elim)))))
theorem zb55 {led : Bool} : zo2 prog w (s.heap.push { cls := .type "set", dict := none, data := .set #[] 0 (.fresh 0 0 led) }) s.heap.objs.size [] :=
 ⟨_, #[], 0, _, ay7 _ rfl, ⟨rfl, rfl, rfl⟩, rfl, fun e he => by simp at he, by decide, rfl, fun z => absurd rfl z, by simp, by simp⟩
theorem zV5 {Q : Value -> Shared -> Prop} (h : ∀ led : Bool, Q (.ref s.heap.objs.size) { s with heap := s.heap.push { cls := .type "set", dict := none, data := .set #[] 0 (.fresh 0 0 led) } }) : wpAny (model prog w) A (newSet (.type "set")) Q E s :=
 wpAny_newSet_of (knd := hy3 prog w) fun led _ => h led
theorem zH7 {elt t1 i1 t2 i2 : Expr} {scope : Scope} {pos : Pos} {it acc : Value} {env : Env} (hf : ∀ x, ey1 i2 env x = pure x) (J : Nat -> Shared -> Prop)
  (turn : ∀ n s, J n s -> wpAny (model prog w) A (pyNext it) (fun r s1 => match r with
   | none => R (.ok .next) s1
   | some v => wpAny (model prog w) A (py6 t1 it v) (fun _ s1' => wpAny (model prog w) A (assign t1 env v) (fun _ s2 =>
     wpAny (model prog w) A (eval i2 env) (fun x s3 => wpAny (model prog w) A (pyIter x) (fun it2 s4 =>
      ly4 (model prog w) (A.mark none) (.compStart (.SetComp elt [⟨t1, i1, [], 0⟩, ⟨t2, i2, [], 0⟩] scope pos) 1 it2 acc env) (fun r s5 => match r with | .ok _ => ∃ m, m < n /\ J m s5 | .error _ => False) s4)
      (fun _ _ => False) s3) (fun _ _ => False) s2) (fun _ _ => False) s1') (fun _ _ => False) s1) (fun _ _ => False) s)
  (n : Nat) (h : J n s) : ly4 (model prog w) A (.compLoop (.SetComp elt [⟨t1, i1, [], 0⟩, ⟨t2, i2, [], 0⟩] scope pos) 0 it acc env) R s := by
 refine codeAny_loop rfl J (fun n s hI => ?_) n h;show wpAny _ A ((compTurn (.SetComp elt [⟨t1, i1, [], 0⟩, ⟨t2, i2, [], 0⟩] scope pos) 0 it acc env).onRaise (fun x => do noteFrame x env; theTreesLotGoes x)) _ _ s;refine wpAny_noted ?_;unfold compTurn;refine ay0 (ly5 (ay0 (fy9 (turn n s hI) (fun r s1 h1 => ?_) fun _ _ h' => h'.elim)));cases r with
 | none => exact ay2 h1
 | some v =>
  refine ay0 (fy9 h1 (fun _ s1' h1' => ?_) fun _ _ h' => h'.elim);refine ay0 (fy9 h1' (fun _ s2 h2 => ?_) fun _ _ h' => h'.elim);refine ay0 (ay2 ?_);refine ay0 (fy9 h2 (fun x s3 h3 => ?_) fun _ _ h' => h'.elim);refine ay0 (ly5 ?_);show wpAny _ A (ey1 i2 env x >>= _) _ _ s3;rw [hf x];refine ay0 (ay2 (ay0 (ey5 (fy9 h3 (fun it2 s4 h4 => ?_) fun _ _ h' => h'.elim))));refine ay0 (wpAny_runOwn (uy6 h4 fun r s5 h5 => ?_));cases r with
  | error e => exact h5.elim
  | ok f => exact ay2 ⟨rfl, h5⟩
theorem zL6 {elt t1 i1 t2 i2 : Expr} {scope : Scope} {pos : Pos} {it acc : Value} {env : Env} (J : Nat -> Shared -> Prop)
  (turn : ∀ n s, J n s -> wpAny (model prog w) A (pyNext it) (fun r s1 => match r with
   | none => R (.ok .next) s1
   | some v => wpAny (model prog w) A (py6 t2 it v) (fun _ s1' => wpAny (model prog w) A (assign t2 env v) (fun _ s2 =>
     wpAny (model prog w) A (eval elt env) (fun x s3 => wpAny (model prog w) A (call (.builtin "set.add") [acc, x]) (fun _ s5 => ∃ m, m < n /\ J m s5)
      (fun _ _ => False) s3) (fun _ _ => False) s2) (fun _ _ => False) s1') (fun _ _ => False) s1) (fun _ _ => False) s)
  (n : Nat) (h : J n s) : ly4 (model prog w) A (.compLoop (.SetComp elt [⟨t1, i1, [], 0⟩, ⟨t2, i2, [], 0⟩] scope pos) 1 it acc env) R s := by
 refine codeAny_loop rfl J (fun n s hI => ?_) n h;show wpAny _ A ((compTurn (.SetComp elt [⟨t1, i1, [], 0⟩, ⟨t2, i2, [], 0⟩] scope pos) 1 it acc env).onRaise (fun x => do noteFrame x env; theTreesLotGoes x)) _ _ s;refine wpAny_noted ?_;unfold compTurn;refine ay0 (ly5 (ay0 (fy9 (turn n s hI) (fun r s1 h1 => ?_) fun _ _ h' => h'.elim)));cases r with
 | none => exact ay2 h1
 | some v =>
  refine ay0 (fy9 h1 (fun _ s1' h1' => ?_) fun _ _ h' => h'.elim);refine ay0 (fy9 h1' (fun _ s2 h2 => ?_) fun _ _ h' => h'.elim);refine ay0 (ay2 ?_);refine ay0 (ay0 (fy9 h2 (fun x s3 h3 => ?_) fun _ _ h' => h'.elim));refine ay0 (ly5 ?_);exact ay0 (fy9 h3 (fun _ s5 h5 => ay2 (ay2 ⟨rfl, h5⟩)) fun _ _ h' => h'.elim)
end
section
variable {X : Cx} {scope : Scope}
theorem Inv.za49 {pins : List (Addr × Obj)} {σ σ' : St} {H H' : Hp} {s s4 : Shared} {N : List Str} {cl : List (Str × Addr)} {fp : List Addr} {C D : Addr} {h0 h' : Heap} {u0 : HO} (I : Inv X pins σ H s)
  (hf : ∀ b ∈ fp, zs4 X pins H b) (hs : s.heap.objs.size <= C) (hD : s.heap.objs.size <= D) (hDC : D < C)
  (k0 : ∀ b o, s.heap.get? b = some o -> h0.get? b = some o)
  (I4 : Inv (zb8 X N scope cl C (D :: fp) { s with heap := h0 } H) [] σ' H' s4) (fD : H' D = none) (new : zb6 X.prog X.w (upd H' D u0) h' D u0)
  (sb : fy5 C s4.heap h') : Inv X pins σ (upd H' D u0) { s4 with heap := h' } := by
 have kC : ∀ b o, b ≠ C -> s4.heap.get? b = some o -> h'.get? b = some o := fun b o hb e => (sb.2 b hb).trans e;have lt : ∀ b o, s.heap.get? b = some o -> b < s.heap.objs.size := fun b o e => by1 e;have neD : ∀ b o, s.heap.get? b = some o -> b ≠ D := fun b o e => by6 (by8 (lt b o e) hD);have neC : ∀ b o, s.heap.get? b = some o -> b ≠ C := fun b o e => by6 (by8 (lt b o e) hs);have nin : ∀ b o, s.heap.get? b = some o -> b ∉ fp -> b ∉ D :: fp := fun b o e h hb => (by7.mp hb).elim (neD b o e) h;have HD : H D = none := I.hok.fresh hD;have neDH : ∀ b u, H b = some u -> b ≠ D := fun b u e => za3 e HD;have fC : H' C = none := I4.free;have un : Un (frs X.stack) (D :: fp) H H' h0 s4.heap := I4.base;refine I.zb14 (ch := fp) (s' := { s4 with heap := h' }) (H' := upd H' D u0) I4.os ⟨fun b o e n hb hx => ?_, fun b o e n hb hx => ?_, fun b o e n hx => ?_, fun b o e hx => ?_, fun b xs e => ?_, fun b o u e => ?_, fun b ps e => ?_⟩ (fun b u e => ?_) I4.bare (fun b hb => ?_)
 ·exact kC b o (neC b o e) (un.keep b o (k0 b o e) n hb (nin b o e hx))
 ·obtain ⟨sl, q⟩ := un.slot b o (k0 b o e) n hb (nin b o e hx);exact ⟨sl, kC b _ (neC b o e) q⟩
 ·rw [za5 (neD b o e)];exact un.free b o (k0 b o e) n (nin b o e hx)
 ·obtain ⟨o', q⟩ := un.there b o (k0 b o e) (nin b o e hx);exact ⟨o', kC b _ (neC b o e) q⟩
 ·rw [za5 (neDH b _ e)];exact un.tups b xs e
 ·rw [za5 (neDH b _ e)];exact un.frzs b o u e
 ·rw [za5 (neDH b _ e)];exact un.tbls b ps e
 ·by_cases hb : b = D
  ·subst hb;rw [zb3] at e;cases e;exact new
  ·rw [za5 hb] at e;refine (I4.hok b u e).zR6 (fun c v hc q => kC c v ?_ q) (fun c q => by rw [za5 (za3 q fD)]; exact q) fun c xs q => by rw [za5 (za3 q fD)]; exact q
   rcases hc with q | q
   ·rw [q]; exact za3 e fC
   ·exact za3 q fC
 ·obtain ⟨_, h1, _, h2, h3, h4⟩ := hf b hb;exact ⟨h2, h1, h3, h4⟩
end
section
variable {X : Cx} {t1 i1 i2 elt : Expr} {x2 : Str} {p2 : Pos} {scope : Scope} {pos : Pos} {te : TE} {j2 : Nat}
theorem zo2.obj {P : cy8} {w : World} {h : Heap} {a : Addr} {ks : List Str} (x : zo2 P w h a ks) : ∃ o, h.get? a = some o /\ ∀ v, o.data ≠ .cell v := by
 obtain ⟨o, es, ep, t, g1, g2, g3, _⟩ := x;exact ⟨o, g1, fun v z => by rw [g3] at z; cases z⟩
theorem zs4.more {pins more : List (Addr × Obj)} {H : Hp} {b : Addr} (f : zs4 X pins H b) (h : ∀ p ∈ more, p.1 ≠ b) : zs4 X (pins ++ more) H b := by
 obtain ⟨f0, f1, f2, f3, f4, f5⟩ := f;refine ⟨f0, f1, f2, f3, f4, fun p hp => ?_⟩;rcases ey0.mp hp with z | z
 ·exact f5 p (my0 _ z)
 ·rcases ey0.mp z with z | z
  ·exact f5 p (dy1 _ z)
  ·exact h p z
theorem Inv.zC0 {pins more : List (Addr × Obj)} {σ : St} {H : Hp} {s : Shared} (I : Inv X (pins ++ more) σ H s) : Inv X pins σ H s :=
 I.zk9 fun p hp => I.pin p (dy1 _ (my0 _ hp))
theorem Inv.zn7 {pins : List (Addr × Obj)} {fp : List Addr} {h : Heap} {σ : St} {H : Hp} {s : Shared} (I : Inv X (pins ++ ze6 fp h) σ H s) {b : Addr} {o : Obj} (hb : b ∈ fp) (e : h.get? b = some o) : s.heap.get? b = some o /\ H b = none := by
 have := I.pin (b, o) (dy1 _ (dy1 _ (ze0 hb e)));exact ⟨this.1, this.2.1⟩
theorem zV6 (hxe : X.xe = fun _ _ => False) (hcm : X.calm = true) (hg : PG X (.Name x2 p2) (zn2 j2)) (he : PE X elt te)
  {P0 : List (Addr × Obj)} {σ2 : St} {D it : Addr} {fp : List Addr} {tn : Nat -> Heap -> Prop} {J : It} (T : Turn X.prog X.w X.K (.Name x2 p2) J fp it tn)
  (fD : ∀ H, H D = none -> zs4 X P0 H D) (ff : ∀ b ∈ fp, b ≠ D /\ ∀ H, H b = none -> zs4 X P0 H b) (hσ : σ2[j2]? = some none)
  {W2 : Nat -> Nat -> List Str -> Hp -> Prop} {Fin : List Str -> Hp -> Prop}
  (hW : ∀ i m ks H, W2 i m ks H -> ks.length + 1 < sy3 /\ ((J.stop i H /\ Fin ks H) \/ (J.go i H /\ ∀ y H5, J.yld i H y H5 -> te (σ2.set j2 (some y)) H5 fun z H7 => ∃ k, z = .str k /\ ∃ m', m' < m /\ W2 (i + 1) m' (ks ++ [k]) H7)))
  {R : Result -> Shared -> Prop} (hR : ∀ ks H s', Inv X P0 σ2 H s' -> zo2 X.prog X.w s'.heap D (zc7 ks) -> H D = none -> Fin ks H -> R (.ok .next) s')
  {m : Nat} {ks : List Str} {H : Hp} {s : Shared} (I : Inv X P0 σ2 H s) (st : tn 0 s.heap) (hS : zo2 X.prog X.w s.heap D (zc7 ks)) (h0 : H D = none) (hf : ∀ b ∈ fp, H b = none) (w : W2 0 m ks H) :
  ly4 (model X.prog X.w) X.A (.compLoop (.SetComp elt [⟨t1, i1, [], 0⟩, ⟨.Name x2 p2, i2, [], 0⟩] scope pos) 1 (.ref it) (.ref D) X.env) R s := by
 refine zL6 (fun n s => ∃ i ks H, Inv X P0 σ2 H s /\ tn i s.heap /\ zo2 X.prog X.w s.heap D (zc7 ks) /\ H D = none /\ (∀ b ∈ fp, H b = none) /\ W2 i n ks H) ?_ m ⟨0, ks, H, I, st, hS, h0, hf, w⟩;clear I st hS h0 hf w;rintro n s ⟨i, ks, H, I, st, hS, h0, hf, w⟩;obtain ⟨hlen, step⟩ := hW i n ks H w;obtain ⟨oD, gD, cD⟩ := hS.obj;have I1 : Inv X (P0 ++ ze6 [D] s.heap) σ2 H s := I.pinned (fp := [D]) (fun b hb => by simp at hb; subst hb; exact fD H h0) fun b hb => by simp at hb; subst hb; exact ⟨oD, gD, cD⟩
 have f1 : ∀ b ∈ fp, zs4 X (P0 ++ ze6 [D] s.heap) H b := fun b hb => ((ff b hb).2 H (hf b hb)).more fun p hp => by
  have := (zg2 hp).1;simp at this;rw [this];exact (ff b hb).1.symm
 rcases step with ⟨stop, fin⟩ | ⟨go, step⟩
 ·refine thn (T.done X rfl rfl rfl hcm i _ s σ2 H _ I1 f1 st stop) fun r s1 zR => ?_;obtain ⟨hr, I2⟩ := zR;subst hr;have g2 := I2.zn7 (b := D) (by simp) gD;exact hR ks H s1 I2.zC0 (hS.move fun o e => by rw [gD] at e; cases e; exact g2.1) h0 fin
 ·refine thn (T.item X rfl rfl rfl hcm i _ s σ2 H _ I1 f1 st go) fun r s1 zR => ?_;obtain ⟨u, hr, h1⟩ := zR;subst hr;refine thn h1 fun _ s5 zR => ?_;obtain ⟨x, H5, I5, r5, y5, st5, fr5⟩ := zR;have g5 := I5.zn7 (b := D) (by simp) gD;have hS5 : zo2 X.prog X.w s5.heap D (zc7 ks) := hS.move fun o e => by rw [gD] at e; cases e; exact g5.1
  have I6 : Inv X (P0 ++ ze6 (D :: fp) s5.heap) σ2 H5 s5 := I5.zC0.pinned (fp := D :: fp) (fun b hb => by
   rcases by7.mp hb with e | hb
   ·subst e; exact fD H5 g5.2
   ·exact (ff b hb).2 H5 (fr5 b hb)) fun b hb => by
   rcases by7.mp hb with e | hb
   ·subst e; exact ⟨oD, g5.1, cD⟩
   ·exact T.obj _ _ st5 b hb
  have a6 := hg _ s5 σ2 H5 x u (fun σ' H' => σ' = σ2.set j2 (some x) /\ H' = H5) I6 r5 ⟨rfl, rfl⟩;rw [hxe] at a6;refine thn a6 fun _ s6 zR => ?_;obtain ⟨σ6, H6, I7, e1, e2⟩ := zR;subst e1 e2;have a7 := he _ s6 _ H6 _ I7 (step x H6 y5);rw [hxe] at a7;refine thn a7 fun y s7 zR => ?_;obtain ⟨z, H7, I8, r7, k, hz, m', hm', w'⟩ := zR;subst hz;obtain ⟨t, rfl⟩ := r7;have g8 := I8.zn7 (b := D) ay9 g5.1;have hS8 : zo2 X.prog X.w s7.heap D (zc7 ks) := hS5.move fun o e => by rw [g5.1] at e; cases e; exact g8.1
  have hlen' : (zc7 ks).length + 1 < sy3 := ly7 (Nat.succ_le_succ (zG6 ks)) hlen;refine zL5 hS8 hlen' fun h' sb hS9 => ?_;rw [<- zy3] at hS9
  have I9 : Inv X P0 σ2 H7 s7 := I8.zC0.weak (by simp) fun j v e => by
   have : j ≠ j2 := fun z => by subst z; rw [hσ] at e; cases e
   rw [cy3 (fy4 this)];exact e
  obtain ⟨q0, q1, q2, q3, q4, q5⟩ := fD H7 g8.2;refine ⟨m', hm', i + 1, ks ++ [k], H7, I9.turned (t' := s7.toks + 1) (fun b o hb e => (sb.2 b hb).trans e) q0 q1 q3 q4 q5, ?_, hS9, g8.2, fun b hb => ?_, w'⟩
  ·refine T.keep _ _ _ st5 fun b hb o e => (sb.2 b (ff b hb).1).trans (I8.zn7 (by0 _ hb) e).1
  ·obtain ⟨o, e, _⟩ := T.obj _ _ st5 b hb;exact (I8.zn7 (by0 _ hb) e).2
end
def tSC2 (wi : TI) (O : List Str) (cap : List Nat) (j1 : Nat) (wi2 : TI) (j2 : Nat) (te : TE) : TE := fun σ H Q => wi σ H fun J1 H1 => ∃ W : Nat -> Nat -> List Str -> Hp -> Prop, (∃ m, W 0 m [] H1) /\ ∀ i m ks H, W i m ks H ->
  ((J1.stop i H /\ ∀ l, H l = none -> Q (.ref l) (upd H l (setO l (zc7 ks)))) \/
   (J1.go i H /\ ∀ x H', J1.yld i H x H' -> wi2 ((zc0 O cap σ).set j1 (some x)) H' fun J2 H3 => ∃ W2 : Nat -> Nat -> List Str -> Hp -> Prop, (∃ m', W2 0 m' ks H3) /\ ∀ i2 m2 ks2 H4, W2 i2 m2 ks2 H4 -> ks2.length + 1 < sy3 /\
     ((J2.stop i2 H4 /\ ∃ m', m' < m /\ W (i + 1) m' ks2 H4) \/ (J2.go i2 H4 /\ ∀ y H5, J2.yld i2 H4 y H5 -> te (((zc0 O cap σ).set j1 (some x)).set j2 (some y)) H5 fun z H7 => ∃ k, z = .str k /\ ∃ m', m' < m2 /\ W2 (i2 + 1) m' (ks2 ++ [k]) H7))))
section
variable {X : Cx} {iter i2 elt : Expr} {x1 x2 : Str} {p1 p2 : Pos} {scope : Scope} {pos : Pos} {wi wi2 : TI} {te : TE} {O F : List Str} {cap : List Nat} {j1 j2 : Nat}
theorem za50 (hc : X.calm = true) (S : zb4 X.N X.env.scope O F cap scope) (hj1 : j1 < O.length) (hj2 : j2 < O.length) (hj : j1 ≠ j2) (hi : PI X (.Name x1 p1) iter wi)
  (hg1 : ∀ cl C ex s H, PG (zb8 X (O ++ F) scope cl C ex s H) (.Name x1 p1) (zn2 j1)) (hg2 : ∀ cl C ex s H, PG (zb8 X (O ++ F) scope cl C ex s H) (.Name x2 p2) (zn2 j2))
  (hi2 : ∀ cl C ex s H, PI (zb8 X (O ++ F) scope cl C ex s H) (.Name x2 p2) i2 wi2) (he : ∀ cl C ex s H, PE (zb8 X (O ++ F) scope cl C ex s H) elt te)
  (hs : ∀ x, ey1 iter X.env x = pure x := by intro _; rfl) (hs2 : ∀ env x, ey1 i2 env x = pure x := by intro _ _; rfl) :
  PE X (.SetComp elt [⟨.Name x1 p1, iter, [], 0⟩, ⟨.Name x2 p2, i2, [], 0⟩] scope pos) (tSC2 wi O cap j1 wi2 j2 te) := by
 intro pins s σ H Q I h;have hfr : ∀ y ∈ scope.names, y.2 = .free -> ∃ c, X.env.cells.lookup y.1 = some c := fun y hy e => I.ok.has y.1 (S.frees y hy e);rw [arm_eval_SetComp];refine wpAny_comprehension_free (use := none) rfl hs (zq2 hfr) S.kind S.names (thn (hi pins s σ H _ I h) fun v s1 h1 => thn h1 fun itv s2 h2 => ?_);obtain ⟨it, fp, tn, J, H2, e, I2, T, st2, f2, W, ⟨m0, w0⟩, turn⟩ := h2;subst e;refine zV5 fun led => wpAny_newFunctionEnv S.nocell (by intro y hy; simp at hy) (fun h1 hns1 hsb1 => ?_) S.kind;dsimp only at hns1 hsb1 ⊢;have hS0 : zo2 X.prog X.w (s2.heap.push { cls := .type "set", dict := none, data := .set #[] 0 (.fresh 0 0 led) }) s2.heap.objs.size [] := zb55;generalize hH0 : s2.heap.push { cls := .type "set", dict := none, data := .set #[] 0 (.fresh 0 0 led) } = h0 at hns1 hsb1 hS0 ⊢;have h0s : h0.objs.size = s2.heap.objs.size + 1 := by rw [<- hH0, ny3]
 have k0 : ∀ b o, s2.heap.get? b = some o -> h0.get? b = some o := fun b o e => hH0 ▸ ay1 _ e;have k1 : ∀ b o, h0.get? b = some o -> h1.get? b = some o := fun b o e => hsb1.extBut b o (by6 (by1 e)) (ay1 _ e);have hDC : s2.heap.objs.size < h0.objs.size := by rw [h0s]; exact my3 _
 have hsC : s2.heap.objs.size <= h0.objs.size := ky9 hDC
 have flt : ∀ b ∈ fp, b < s2.heap.objs.size := fun b hb => by
  obtain ⟨o, e, _⟩ := T.obj _ _ st2 b hb;exact by1 e
 have Dfp : s2.heap.objs.size ∉ fp := fun z => ny2 _ (flt _ z)
 have I3 : Inv (zb8 X (O ++ F) scope (zs8 X.env.cells scope.names []) h0.objs.size (s2.heap.objs.size :: fp) { s2 with heap := h0 } H2) [] (zc0 O cap σ) H2 { s2 with heap := h1, toks := s2.toks + ([] : List (Str × Value)).length } :=
  I2.comp S f2 (T.obj _ _ st2) hsC s2.heap.objs.size (ay6 _) hDC rfl k0 k1 hns1
 generalize hX' : zb8 X (O ++ F) scope (zs8 X.env.cells scope.names []) h0.objs.size (s2.heap.objs.size :: fp) { s2 with heap := h0 } H2 = X' at I3;have hg1' : PG X' (.Name x1 p1) (zn2 j1) := hX' ▸ hg1 _ _ _ _ _;have hg2' : PG X' (.Name x2 p2) (zn2 j2) := hX' ▸ hg2 _ _ _ _ _;have hi2' : PI X' (.Name x2 p2) i2 wi2 := hX' ▸ hi2 _ _ _ _ _;have he' : PE X' elt te := hX' ▸ he _ _ _ _ _;have epn : X'.pn = [] := by rw [<- hX']; rfl
 have fpok : ∀ {H' : Hp} {b : Addr}, b ∈ s2.heap.objs.size :: fp -> H' b = none -> zs4 X' [] H' b := fun {H' b} hb hn => by
  have hex : b ∈ X'.ex := by rw [<- hX']; exact hb
  refine ⟨hn, (I3.ok.exf b hex).1, I3.ok.exfs b hex, .inl hex, (I3.ok.exf b hex).2, fun p hp => ?_⟩;rw [epn] at hp;exact absurd (show p ∈ ([] : List (Addr × Obj)) from hp) (by simp)
 have eP : X'.prog = X.prog := by rw [<- hX']; rfl
 have eW : X'.w = X.w := by rw [<- hX']; rfl
 have eK : X'.K = X.K := by rw [<- hX']; rfl
 have eA : X'.A = X.A := by rw [<- hX']; rfl
 have eC : X'.calm = true := by rw [<- hX']; exact hc
 have eE : X'.env = compEnvC scope (zs8 X.env.cells scope.names []) h0.objs.size X.env := by rw [<- hX']; rfl
 have eX : X'.xe = fun _ _ => False := by rw [<- hX']; rfl
 have loop : ∀ s3 : Shared, s3 = { s2 with heap := h1, toks := s2.toks + ([] : List (Str × Value)).length } ->
   ly4 (model X.prog X.w) X.A (.compLoop (.SetComp elt [⟨.Name x1 p1, iter, [], 0⟩, ⟨.Name x2 p2, i2, [], 0⟩] scope pos) 0 (.ref it) (.ref s2.heap.objs.size) (compEnvC scope (zs8 X.env.cells scope.names []) h0.objs.size X.env))
    (compPost (model X.prog X.w) X.A X.xe none (EP X pins σ Q) (.ref s2.heap.objs.size) h0.objs.size) s3 := by
  rintro s3 rfl
  refine zH7 (hs2 _) (fun n s' => ∃ i ks H', Inv X' [] (zc0 O cap σ) H' s' /\ tn i s'.heap /\ (∀ b ∈ s2.heap.objs.size :: fp, H' b = none) /\ zo2 X.prog X.w s'.heap s2.heap.objs.size (zc7 ks) /\ W i n ks H') ?_ m0
   ⟨0, [], H2, I3, T.keep _ _ _ st2 (fun b _ o e => k1 b o (k0 b o e)), fun b hb => ?_, hS0.move fun o e => k1 _ _ e, w0⟩
  ·rintro n s3 ⟨i, ks, H3, I3', st3, fr3, hS3, w3⟩;have step := turn i n ks H3 w3;obtain ⟨oD, gD, cD⟩ := hS3.obj;have hD3 : H3 s2.heap.objs.size = none := fr3 _ ay9
   have J3 : Inv X' ([] ++ ze6 [s2.heap.objs.size] s3.heap) (zc0 O cap σ) H3 s3 := I3'.pinned (fp := [s2.heap.objs.size]) (fun b hb => by
    have e : b = s2.heap.objs.size := by simpa using hb
    subst e; exact fpok ay9 hD3) fun b hb => by
    have e : b = s2.heap.objs.size := by simpa using hb
    subst e; exact ⟨oD, gD, cD⟩
   have fpJ : ∀ b ∈ fp, zs4 X' ([] ++ ze6 [s2.heap.objs.size] s3.heap) H3 b := fun b hb => (fpok (by0 _ hb) (fr3 b (by0 _ hb))).more fun p hp => by
    have := (zg2 hp).1;have e : p.1 = s2.heap.objs.size := by simpa using this
    rw [e];exact fun z => Dfp (z ▸ hb)
   rcases step with ⟨stop, q⟩ | ⟨go, step⟩
   ·have fin := T.done X' eP eW eK eC i _ s3 (zc0 O cap σ) H3 (fun _ _ => False) J3 fpJ st3 stop;rw [eA] at fin;refine thn fin fun r s4 zR => ?_;obtain ⟨hr, J4⟩ := zR;subst hr;have g4 := J4.zn7 (b := s2.heap.objs.size) (by simp) gD;have hS4 : zo2 X.prog X.w s4.heap s2.heap.objs.size (zc7 ks) := hS3.move fun o e => by rw [gD] at e; cases e; exact g4.1
    have I4 : Inv X' [] (zc0 O cap σ) H3 s4 := J4.zC0;obtain ⟨m, hm, _⟩ := id I4.loc;rw [eE] at hm;refine ⟨m, hm, fun h' sb => ⟨.ref s2.heap.objs.size, upd H3 s2.heap.objs.size (setO s2.heap.objs.size (zc7 ks)), ?_, rfl, q _ hD3⟩⟩;rw [<- hX'] at I4;refine I2.za49 f2 hsC (ay6 _) hDC k0 I4 hD3 (za41 (hS4.move fun o e => ?_).x) sb;exact (sb.2 _ (by6 hDC)).trans e
   ·have it3 := T.item X' eP eW eK eC i _ s3 (zc0 O cap σ) H3 (fun _ _ => False) J3 fpJ st3 go;rw [eA] at it3;refine thn it3 fun r s4 zR => ?_;obtain ⟨u, hr, h4⟩ := zR;subst hr;refine thn h4 fun _ s5 zR => ?_;obtain ⟨x, H5, I5, r5, y5, st5, fr5⟩ := zR;have g5 := I5.zn7 (b := s2.heap.objs.size) (by simp) gD;have hS5 : zo2 X.prog X.w s5.heap s2.heap.objs.size (zc7 ks) := hS3.move fun o e => by rw [gD] at e; cases e; exact g5.1
    have fr5' : ∀ b ∈ s2.heap.objs.size :: fp, H5 b = none := fun b hb => (by7.mp hb).elim (fun z => by rw [z]; exact g5.2) (fr5 b)
    have ob5 : ∀ b ∈ s2.heap.objs.size :: fp, ∃ o, s5.heap.get? b = some o /\ ∀ v, o.data ≠ .cell v := fun b hb => by
     rcases by7.mp hb with e | hb
     ·subst e; exact ⟨oD, g5.1, cD⟩
     ·exact T.obj _ _ st5 b hb
    have I5' : Inv X' ([] ++ ze6 (s2.heap.objs.size :: fp) s5.heap) (zc0 O cap σ) H5 s5 := I5.zC0.pinned (fp := s2.heap.objs.size :: fp) (fun b hb => fpok hb (fr5' b hb)) ob5;have a5 := hg1' _ s5 (zc0 O cap σ) H5 x u (fun σ' H' => σ' = (zc0 O cap σ).set j1 (some x) /\ H' = H5) I5' r5 ⟨rfl, rfl⟩;rw [eP, eW, eA, eE, eX] at a5;refine thn a5 fun _ s6 zR => ?_;obtain ⟨σ6, H6, I6, e1, e2⟩ := zR;subst e1 e2;have a6 := hi2' _ s6 _ H6 _ I6 (step x H6 y5);rw [eP, eW, eA, eE, eX] at a6;refine thn a6 fun v s7 h7 => thn h7 fun itv s8 h8 => ?_;obtain ⟨it2, fp2, tn2, J2, H8, e, I8, T2, st8, f8, W2, ⟨m2, w8⟩, turn2⟩ := h8;subst e
    have none_cmp : (zc0 O cap σ)[j2]? = some none := by
     unfold zc0;rw [ay8 (by simpa using hj2), by3, by5 hj2];rfl
    have wk : ∀ (j : Nat) v, (zc0 O cap σ)[j]? = some (some v) -> ((zc0 O cap σ).set j1 (some x))[j]? = some (some v) := fun j v e => by
     by_cases hjj : j1 = j
     ·subst hjj;exfalso;unfold zc0 at e;rw [ay8 (by simpa using hj1), by3, by5 hj1] at e;cases e
     ·rw [cy3 hjj]; exact e
    have I8' : Inv X' ([] ++ ze6 fp s5.heap) ((zc0 O cap σ).set j1 (some x)) H8 s8 := I8.zk9 fun p hp => by
     obtain ⟨hb, e⟩ := zg2 (show p ∈ ze6 fp s5.heap from by simpa using hp);exact I8.pin p (dy1 _ (dy1 _ (ze0 (by0 _ hb) e)))
    have g8 := I8.zn7 (b := s2.heap.objs.size) ay9 g5.1;have hS8 : zo2 X.prog X.w s8.heap s2.heap.objs.size (zc7 ks) := hS5.move fun o e => by rw [g5.1] at e; cases e; exact g8.1
    have inner : ∀ {s9 : Shared}, s9 = s8 -> ly4 (model X'.prog X'.w) X'.A (.compLoop (.SetComp elt [⟨.Name x1 p1, iter, [], 0⟩, ⟨.Name x2 p2, i2, [], 0⟩] scope pos) 1 (.ref it2) (.ref s2.heap.objs.size) X'.env)
      (fun r s5 => match r with | .ok _ => ∃ m, m < n /\ ∃ i ks H', Inv X' [] (zc0 O cap σ) H' s5 /\ tn i s5.heap /\ (∀ b ∈ s2.heap.objs.size :: fp, H' b = none) /\ zo2 X.prog X.w s5.heap s2.heap.objs.size (zc7 ks) /\ W i m ks H' | .error _ => False) s9 := by
     rintro s9 rfl;refine zV6 eX eC hg2' he' T2 (fun H' hn => (fpok ay9 hn).more fun p hp => ?_) (fun b hb => ⟨fun z => ?_, fun H' hn => ?_⟩) ?_ turn2 (fun ks2 H9 s9 I9 hS9 hD9 fin => ?_) I8' st8 (by rw [eP, eW]; exact hS8) g8.2 (fun b hb => (f8 b hb).1) w8
     ·have := (zg2 hp).1;exact fun z => Dfp (z ▸ this)
     ·obtain ⟨_, _, _, _, _, q⟩ := f8 b hb;exact q (s2.heap.objs.size, oD) (dy1 _ (dy1 _ (ze0 ay9 g5.1))) z.symm
     ·obtain ⟨_, q1, q2, q3, q4, q5⟩ := f8 b hb;refine ⟨hn, q1, q2, q3, q4, fun p hp => ?_⟩;rcases ey0.mp hp with z | z
      ·exact q5 p (my0 _ z)
      ·obtain ⟨hb, e⟩ := zg2 (show p ∈ ze6 fp s5.heap from by simpa using z);exact q5 p (dy1 _ (dy1 _ (ze0 (by0 _ hb) e)))
     ·rw [cy3 hj]; exact none_cmp
     ·obtain ⟨m', hm', w9⟩ := fin;rw [eP, eW] at hS9;refine ⟨m', hm', i + 1, ks2, H9, I9.zC0.weak (by simp) wk, T.keep _ _ _ st5 fun b hb o e => (I9.zn7 hb e).1, fun b hb => ?_, hS9, w9⟩;rcases by7.mp hb with e | hb'
      ·rw [e]; exact hD9
      ·obtain ⟨o, e, _⟩ := T.obj _ _ st5 b hb';exact (I9.zn7 hb' e).2
    rw [Around.mark_none];have in1 := inner (s9 := s8) rfl;rw [eP, eW, eA, eE] at in1;refine zg8 (g := ⟨.Name x2 p2, i2, [], 0⟩) rfl rfl in1 ?_;have sf := T2.self X.A 0 s8 (fun it' s' => ly4 (model X.prog X.w) X.A (.compLoop (.SetComp elt [⟨.Name x1 p1, iter, [], 0⟩, ⟨.Name x2 p2, i2, [], 0⟩] scope pos) 1 it' (.ref s2.heap.objs.size) (compEnvC scope (zs8 X.env.cells scope.names []) h0.objs.size X.env)) _ s') (fun _ _ => False) st8 in1;rw [eP, eW] at sf;exact sf
  ·rcases by7.mp hb with e | hb
   ·rw [e]; exact I2.hok.fresh (ay6 _)
   ·exact (f2 b hb).1
 exact zg8 (g := ⟨.Name x1 p1, iter, [], 0⟩) rfl rfl (loop _ rfl) (T.self _ 0 _ _ _ (T.keep _ _ _ st2 (fun b _ o e => k1 b o (k0 b o e))) (loop _ rfl))
end
theorem za51 {K : ay5} {F1 : Hp} {A1 : List Addr} {a : Addr} {vs : List V} {ds : List PyData} (hv : SqT K F1 a vs) (z : Paired (fun d v => Rq K F1 v d) ds vs) : Walks K 0 F1 A1 GT (Itt K a) ds := by
 have hl : ∀ {F' A' W' H'}, Ex1 0 F1 A1 F' A' -> RW K F' A' W' H' -> SqT K H' a vs := fun x r' => r'.sub.zr7 (x.same.zr7 hv);refine ⟨fun i F' A' W' H' hi x r' _ => ?_, fun i F' A' W' H' y H'' hi x r' _ hy => ?_, fun F' A' W' H' x r' _ => ?_⟩
 ·have hi' : i < vs.length := by rw [<- zb1 z]; exact hi
  exact ⟨vs, vs[i], hl x r', by simp [hi']⟩
 ·obtain ⟨e, hy⟩ := hy;obtain ⟨d, h1, h2⟩ := ze2 z (hy vs (hl x r'));exact ⟨e, d, h1, Rq.same x.same _ h2⟩
 ·exact ⟨vs, hl x r', by rw [<- zb1 z]; exact ay6 _⟩
section
variable {X : Bc} {S : Sl} {W : Wl} {k : KB} {iter i2 elt : Expr} {x1 x2 : Str} {p1 p2 : Pos} {scope : Scope} {O Fv : List Str} {cap : List Nat} {j1 j2 : Nat}
theorem zV7 {pn pos1 pos2 : Pos} (hc : X.calm = true) (hg : Gl X "sorted") (hm : X.mg "sorted" = none) (hv : fy2 "sorted" = some (.builtin "sorted")) (cs : zb4 X.N X.env.scope O Fv cap scope) (hN : (O ++ Fv).Nodup)
  (n1 : (O ++ Fv)[j1]? = some x1) (n2 : (O ++ Fv)[j2]? = some x2) (hj1 : j1 < O.length) (hj2 : j2 < O.length) (hj : j1 ≠ j2)
  (l1 : ∀ cl C ex s H, (zb8 X (O ++ Fv) scope cl C ex s H).env.scope.names.lookup x1 = some .local) (l2 : ∀ cl C ex s H, (zb8 X (O ++ Fv) scope cl C ex s H).env.scope.names.lookup x2 = some .local)
  (h : BI X S W (.Name x1 p1) iter fun m G ds W1 => G W1 /\ ∃ f : PyData -> List Str, (∀ d ∈ ds, BEc X (O ++ Fv) scope ((zK6 O cap S).set j1 (some (.d d))) W1 i2 fun y W2 => W2 = W1 /\ y = .d (.tuple ((f d).map .str))) /\
   (∀ d ∈ ds, ∀ z ∈ f d, BEc X (O ++ Fv) scope (((zK6 O cap S).set j1 (some (.d d))).set j2 (some (.d (.str z)))) W1 elt fun y W2 => W2 = W1 /\ y = .d (.str z)) /\ (ds.flatMap f).length + 1 < sy3 /\
   (zc7 (ds.flatMap f)).length < 64 /\ (zc7 (ds.flatMap f)).length ≠ 1 /\ ∀ ss' : List Str, ss'.Perm (zc7 (ds.flatMap f)) -> sortedS ss' = true -> k (.o W1.length) (W1 ++ [.lst (zb2 (ss'.map .str))]))
  (hs : ∀ x, ey1 iter X.env x = pure x := by intro _; rfl) (hs2 : ∀ env x, ey1 i2 env x = pure x := by intro _ _; rfl)
  (he : fy6 [.SetComp elt [⟨.Name x1 p1, iter, [], 0⟩, ⟨.Name x2 p2, i2, [], 0⟩] scope pos2] X.env = [(false, eval (.SetComp elt [⟨.Name x1 p1, iter, [], 0⟩, ⟨.Name x2 p2, i2, [], 0⟩] scope pos2) X.env)] := by rfl) :
  BE X S W (.Call (.Name "sorted" pn) [.SetComp elt [⟨.Name x1 p1, iter, [], 0⟩, ⟨.Name x2 p2, i2, [], 0⟩] scope pos2] [] pos1) k :=
 .of (zo3 (zs2 hc) hg hm hv (zl0 (za50 (wi2 := iTup X.K (zG1 X (O ++ Fv) scope i2)) (te := zG1 X (O ++ Fv) scope elt) hc cs hj1 hj2 hj pi_U
   (fun cl C ex s H => zt9 hN n1 (.inl (l1 cl C ex s H)) (.inr (l1 cl C ex s H))) (fun cl C ex s H => zt9 hN n2 (.inl (l2 cl C ex s H)) (.inr (l2 cl C ex s H)))
   (fun cl C ex s H => zb95 fun pins s' σ' H' Q I ⟨t, h, q⟩ => h cl C ex s H pins s' σ' H' Q I q) (fun cl C ex s H => fun pins s' σ' H' Q I ⟨t, h, q⟩ => h cl C ex s H pins s' σ' H' Q I q) hs hs2) zu1 he) (by decide) (by decide) he rfl) fun F A σ H Q x0 r sr q => by
  refine h F A σ H _ x0 r sr fun m G F1 A1 W1 H1 ds J e1 r1 hm1 wk zR => ?_;obtain ⟨hG, f, hi2, hel, few, h64, hn1, hk⟩ := zR
  have flen : ∀ i, ((ds.take i).flatMap f).length <= (ds.flatMap f).length := fun i => by
   conv => rhs; rw [<- List.take_append_drop i ds, List.flatMap_append, cy1]
   omega
  refine ⟨fun i μ ks H' => μ = ds.length - i /\ i <= ds.length /\ ks = (ds.take i).flatMap f /\ ∃ F' A', Ext F1 A1 F' A' /\ RW X.K F' A' W1 H', ⟨_, rfl, dy5 _, rfl, F1, A1, .refl, r1⟩, ?_⟩;rintro i μ ks H' ⟨rfl, hi, rfl, F', A', x, r'⟩
  by_cases hlt : i < ds.length
  ·refine .inr ⟨wk.go i F' A' W1 H' hlt (x.ex1 hm1) r' hG, fun v H'' hy => ?_⟩;obtain ⟨rfl, d, hd', zd⟩ := wk.yld i F' A' W1 H' v H'' hlt (x.ex1 hm1) r' hG hy;have hdm : d ∈ ds := cy5 hd';have sr1 : SR X.K F' A' ((zK6 O cap S).set j1 (some (.d d))) ((zc0 O cap σ).set j1 (some v)) := ((sr.ext (e1.trans x)).cmp).set (ElR.dd zd) j1;refine ⟨tD X _ W1 _, fun cl C ex s H => hi2 d hdm cl C ex s H, F', A', (x0.trans e1).trans x, r', sr1, fun F2 A2 W2 H2 y vy e2 r2 z2 ⟨hW2, hy2⟩ => ?_⟩;subst hW2 hy2;obtain ⟨a, vs, rfl, hq, zz⟩ := Rq.zg3 z2;have wk2 : Walks X.K 0 F2 A2 GT (Itt X.K a) ((f d).map .str) := za51 hq zz;refine ⟨a, rfl, ⟨vs, r2.sub.zr7 hq⟩, fun i2 μ2 ks2 H4 => μ2 = (f d).length - i2 /\ i2 <= (f d).length /\ ks2 = (ds.take i).flatMap f ++ (f d).take i2 /\ ∃ F' A', Ext F2 A2 F' A' /\ RW X.K F' A' W2 H4, ⟨_, rfl, dy5 _, by simp, F2, A2, .refl, r2⟩, ?_⟩;rintro i2 μ2 ks2 H4 ⟨rfl, hi2', rfl, F4, A4, x4, r4⟩
   have hsn : (ds.take (i + 1)).flatMap f = (ds.take i).flatMap f ++ f d := by
    rw [ey8, hd', List.flatMap_append];simp
   refine ⟨?_, ?_⟩
   ·have := flen (i + 1);rw [hsn, cy1] at this;rw [cy1, dy2];omega
   ·by_cases hlt2 : i2 < (f d).length
    ·refine .inr ⟨wk2.go i2 F4 A4 W2 H4 (by simpa using hlt2) (x4.ex1 (dy5 _)) r4 trivial, fun u H5 hu => ?_⟩;obtain ⟨rfl, d2, hd2, zd2⟩ := wk2.yld i2 F4 A4 W2 H4 u H5 (by simpa using hlt2) (x4.ex1 (dy5 _)) r4 trivial hu;rw [by3, by5 hlt2] at hd2;cases hd2;have sr2 := (sr1.ext (e2.trans x4)).set (ElR.dd zd2) j2;refine ⟨tD X _ W2 _, fun cl C ex s H => hel d hdm _ (qy4 hlt2) cl C ex s H, F4, A4, (((x0.trans e1).trans x).trans e2).trans x4, r4, sr2, fun F6 A6 W6 H6 y vy e6 r6 z6 ⟨hW6, hy6⟩ => ?_⟩;subst hW6 hy6;obtain rfl := Rq.zf2 z6;refine ⟨(f d)[i2], rfl, _, by omega, rfl, hlt2, ?_, F6, A6, x4.trans e6, r6⟩;rw [ey8, by5 hlt2, iy0];rfl
    ·have hie : i2 = (f d).length := by omega
     subst hie;refine .inl ⟨?_, _, ?_, rfl, hlt, ?_, F4, A4, (x.trans e2).trans x4, r4⟩
     ·have := wk2.stop F4 A4 W2 H4 (x4.ex1 (dy5 _)) r4 trivial;simpa using this
     ·omega
     ·rw [hsn, gy7]
  ·have hie : i = ds.length := by omega
   subst hie;refine .inl ⟨wk.stop F' A' W1 H' (x.ex1 hm1) r' hG, fun p hp => ?_⟩;rw [gy7];obtain ⟨r2, e2⟩ := r'.newF hp (setO p (zc7 (ds.flatMap f)));refine ⟨p, _, rfl, zb3, h64, hn1, fun l ss' hl p1 p2 => ?_⟩;exact (((q.ext e1).ext x).ext e2).zN9 r2 hl (o := .lst (zb2 (ss'.map .str))) ⟨_, rfl, zf3 zA3⟩ (hk ss' p1 p2)
end
section
variable {X : Cx}
theorem set_dict (hu : X.A.units + 1 < cLine) : PSet X fun o i v H Q => ∃ a H', o = .ref a /\ DPut H a i v H' /\ Q H' := by
 intro pins s σ H o i v ov iv u Q I r1 r2 r3 ⟨a, H', e, g, q⟩;subst e;obtain rfl : ov = cy7 a := r1;exact za34 hu I g r2 r3 fun s' I' => ⟨H', I', q⟩
theorem Inv.ze69 {pins : List (Addr × Obj)} {σ : St} {H : Hp} {s : Shared} {h' : Heap} {a : Addr} {o : HO} {t' : Nat} (I : Inv X pins σ H s) (k : ∀ b u, s.heap.get? b = some u -> h'.get? b = some u) (hn : s.heap.get? a = none) (new : zb6 X.prog X.w (upd H a o) h' a o) :
  H a = none /\ Inv X pins σ (upd H a o) { s with heap := h', toks := t' } := by
 have hH : H a = none := by
  cases e : H a with
  | none => rfl
  | some u =>
   obtain ⟨ob, z⟩ := zb6.at (I.hok a u e)
   rw [hn] at z;cases z
 have ne : ∀ b u, s.heap.get? b = some u -> b ≠ a := fun b u q z => by rw [z, hn] at q; cases q
 refine ⟨hH, I.un ⟨fun b u q _ _ _ => k b u q, fun b u q _ _ _ => ⟨u.slots, k b u q⟩, fun b u q n _ => by rw [za5 (ne b u q)]; exact n, fun b u q _ => ⟨u, k b u q⟩, fun b xs q => by rw [za5 (za3 q hH)]; exact q, fun b u xs q => by rw [za5 (za3 q hH)]; exact q, fun b ps q => ⟨#[], by rw [za5 (za3 q hH), q]; simp⟩⟩ fun b u e => ?_⟩
 by_cases hb : b = a
 ·subst hb; rw [zb3] at e; cases e; exact new
 ·rw [za5 hb] at e;exact (I.hok b u e).zR6 (fun c v _ q => k c v q) (fun c q => by rw [za5 (za3 q hH)]; exact q) fun c xs q => by rw [za5 (za3 q hH)]; exact q
end
def zD9 {κ : Type} [DecidableEq κ] (kvs : List (κ × El)) (k : κ) (e : El) : List (κ × El) := if (kvs.any fun kv => decide (kv.1 = k)) = true then kvs.map (fun kv => if kv.1 = k then (kv.1, e) else kv) else kvs ++ [(k, e)]
section
variable {K : ay5} {F : Hp} {A : List Addr} {κ : Type} [DecidableEq κ]
theorem zc19 {k : κ} : ∀ {kvs : List (κ × El)} {vs : List (κ × V)}, Paired (fun p q => p.1 = q.1 /\ ElR K F A p.2 q.2) kvs vs -> (kvs.any fun kv => decide (kv.1 = k)) = (vs.any fun kv => decide (kv.1 = k))
 | [], _, .nil => rfl
 | p :: kvs, _, .cons h t => by
  simp only [ty0];rw [zc19 t, h.1]
theorem zc20 {k : κ} {e : El} {v : V} (he : ElR K F A e v) : ∀ {kvs : List (κ × El)} {vs : List (κ × V)}, Paired (fun p q => p.1 = q.1 /\ ElR K F A p.2 q.2) kvs vs -> Paired (fun p q => p.1 = q.1 /\ ElR K F A p.2 q.2) (kvs.map fun kv => if kv.1 = k then (kv.1, e) else kv) (vs.map fun kv => if kv.1 = k then (kv.1, v) else kv)
 | [], _, .nil => .nil
 | p :: kvs, _, .cons (b := q) h t => by
  refine .cons ?_ (zc20 he t)
  by_cases hk : p.1 = k
  ·have hq : q.1 = k := h.1 ▸ hk;simp only [hk, hq, if_true];exact ⟨trivial, he⟩
  ·have hq : ¬ q.1 = k := h.1 ▸ hk;simp only [hk, hq, if_false];exact h
theorem za52 {k : κ} {e : El} {v : V} (he : ElR K F A e v) {kvs : List (κ × El)} {vs : List (κ × V)} (h : Paired (fun p q => p.1 = q.1 /\ ElR K F A p.2 q.2) kvs vs) : Paired (fun p q => p.1 = q.1 /\ ElR K F A p.2 q.2) (zD9 kvs k e) (putK vs k v) := by
 unfold zD9 putK;rw [zc19 h]
 split
 ·exact zc20 he h
 ·exact zo5 h (.cons ⟨rfl, he⟩ .nil)
end
def ofT : Sum PyData Nat -> El
 | .inl d => .d d
 | .inr k => .o k
theorem za53 {K : ay5} {F : Hp} {A : List Addr} : ∀ {xs : List (Sum PyData Nat)} {vs : List V}, Paired (TiR K F A) xs vs -> Paired (ElR K F A) (xs.map ofT) vs
 | [], _, .nil => .nil
 | .inl d :: xs, _, .cons h t => .cons (.dd h) (za53 t)
 | .inr k :: xs, _, .cons h t => .cons h (za53 t)
theorem za54 {K : ay5} {F : Hp} {A : List Addr} : ∀ {xs : List (Sum PyData Nat)} {vs : List V}, Paired (ElR K F A) (xs.map ofT) vs -> Paired (TiR K F A) xs vs
 | [], _, .nil => .nil
 | .inl d :: xs, _, .cons h t => .cons h (za54 t)
 | .inr k :: xs, _, .cons h t => .cons h (za54 t)
section
variable {X : Bc} {S : Sl} {W : Wl} {k : KB}
theorem zb56 {j : Nat} {kvs : List (List Key × El)} {ks : List Key} {v : El} {k : Wl -> Prop} (hu : X.A.units + 64 < cLine) (hj : W[j]? = some (.dT kvs)) (hl : kvs.length < by2) (h : k (W.set j (.dT (zD9 kvs ks v)))) : SB X (.o j) (.p ks) v W k :=
 fun F A H vo vi vv Q r zo zi zv q => by
  obtain ⟨a, ha, rfl⟩ := zo;obtain ⟨u, e, ws, rfl, p⟩ := r.obj j a _ ha hj;obtain ⟨b, rfl, hb⟩ := zi;exact ⟨_, set_dict (by omega), a, _, rfl, DPut.t (k := ks) e (r.sub _ _ hb) (by rw [<- zb1 p]; exact hl), q F A _ _ .refl (r.put ha (o := .dT (zD9 kvs ks v)) ⟨_, rfl, za52 zv p⟩) h⟩
theorem zc70 {es : List Expr} {x1} {pos : Pos} (h : BA X S W es fun as W1 => ∃ xs, as = xs.map ofT /\ xs.length <= by2 /\ k (.t xs) W1) : BE X S W (.Tuple es x1 pos) k :=
 .of (zZ5 pa_U) fun F A σ H Q x0 r sr q => h.use x0 r sr fun F1 A1 W1 H1 as vs e1 r1 z1 zR => by
  obtain ⟨xs, hd, hl, h1⟩ := zR;subst hd;have z2 := za54 z1;refine ⟨by rw [<- zb1 z2]; exact hl, fun p hp => ?_⟩;obtain ⟨r', x⟩ := r1.newF hp (.tup vs);exact (q.ext e1) _ _ _ _ (.t xs) _ x r' ⟨p, vs, rfl, zb3, zd6 (fun _ _ z => z.ext x) z2⟩ h1
end
section
variable {X : Bc} {n : Nat} {S : Sl} {W : Wl} {D : DB}
end
section
variable {X : Bc} {S : Sl} {W : Wl} {k : KB}
end
section
variable {X : Bc} {n : Nat} {S : Sl} {W : Wl} {D : DB} {tg : Expr}
end
section
variable {X : Cx} {e st : Expr} {te ts : TE} {p2 pos : Pos}
end
section
variable {X : Bc} {S : Sl} {W : Wl} {k : KB}
end
section
variable {X : Cx}
end
section
variable {X : Bc} {S : Sl} {W : Wl} {k : KB}
end
theorem zP6 (k j : List Key) (v : El) : ∀ kvs : List (List Key × El), zm9 (kvs.map fun kv => if kv.1 = k then (kv.1, v) else kv) j = (zm9 kvs j).map fun x => if j = k then v else x
 | [] => rfl
 | a :: kvs => by
  have ih := zP6 k j v kvs;unfold zm9 at ih ⊢;rw [ey6, iy7, iy7]
  by_cases ha : a.1 = k
  ·rw [if_pos ha]
   by_cases hj : a.1 = j
   ·have hjk : j = k := hj.symm.trans ha;have d1 : decide ((a.1, v).1 = j) = true := decide_eq_true hj;have d2 : decide (a.1 = j) = true := decide_eq_true hj;rw [d1];show some v = some (if j = k then v else a.2);rw [if_pos hjk]
   ·simp only [hj, decide_false];exact ih
  ·rw [if_neg ha]
   by_cases hj : a.1 = j
   ·have : ¬ j = k := fun z => ha (hj.trans z);simp [hj, this]
   ·simp only [hj, decide_false];exact ih
theorem zP7 (k : List Key) : ∀ kvs : List (List Key × El), (kvs.any fun kv => decide (kv.1 = k)) = (zm9 kvs k).isSome
 | [] => rfl
 | a :: kvs => by
  have ih := zP7 k kvs;unfold zm9 at ih ⊢;rw [ty0, iy7, ih]
  by_cases ha : a.1 = k
  ·simp [ha]
  ·simp [ha]
theorem zP8 (kvs : List (List Key × El)) (k j : List Key) (v : El) : zm9 (zD9 kvs k v) j = if j = k then some v else zm9 kvs j := by
 unfold zD9;rw [zP7]
 split
 ·rename_i h
  rw [zP6]
  by_cases hj : j = k
  ·subst hj;obtain ⟨x, hx⟩ := Option.isSome_iff_exists.mp h;rw [hx]; simp
  ·simp [hj]
 ·rename_i h
  have hn : zm9 kvs k = none := by
   cases e : zm9 kvs k with
   | none => rfl
   | some x => rw [e] at h; exact absurd rfl h
  by_cases hj : j = k
  ·subst hj;rw [if_pos rfl];unfold zm9 at hn ⊢;rw [List.find?_append];cases e : kvs.find? fun kv => decide (kv.1 = j) with
   | none => simp
   | some x => rw [e] at hn; cases hn
  ·rw [if_neg hj];unfold zm9;rw [List.find?_append];have : ([(k, v)] : List (List Key × El)).find? (fun kv => decide (kv.1 = j)) = none := by simp [fy4 hj]
   rw [this];simp
theorem zb57 (kvs : List (List Key × El)) (k : List Key) (v : El) : (zD9 kvs k v).length <= kvs.length + 1 := by
 unfold zD9
 split <;> simp
end L2
namespace L2
open PySem PySem.Spec PyProof.Rows
open PySem.W
def Lr {α : Type} (n : Nat) (lt : Nat -> Nat -> Bool) : KasT α -> (α -> Prop) -> Prop
 | .ret a, P => P a
 | .ask i j k, P => i < n /\ j < n /\ i ≠ j /\ Lr n lt (k (lt i j)) P
theorem Lr.mono {α : Type} {n : Nat} {lt : Nat -> Nat -> Bool} : ∀ {t : KasT α} {P Q : α -> Prop}, Lr n lt t P -> (∀ a, P a -> Q a) -> Lr n lt t Q
 | .ret a, P, Q, h, f => f a h
 | .ask i j k, P, Q, h, f => ⟨h.1, h.2.1, h.2.2.1, h.2.2.2.mono f⟩
theorem Lr.bind {α β : Type} {n : Nat} {lt : Nat -> Nat -> Bool} {f : α -> KasT β} {Q : β -> Prop} : ∀ {t : KasT α}, Lr n lt t (fun a => Lr n lt (f a) Q) -> Lr n lt (KasT.bind t f) Q
 | .ret a, h => h
 | .ask i j k, h => ⟨h.1, h.2.1, h.2.2.1, h.2.2.2.bind⟩
theorem Lr.wp {α : Type} {n : Nat} {lt : Nat -> Nat -> Bool} {cmp : Nat -> Nat -> (Bool -> Shared -> Prop) -> Shared -> Prop} {s : Shared} (hc : ∀ i j C, i < n -> j < n -> i ≠ j -> C (lt i j) s -> cmp i j C s) : ∀ {t : KasT α} {G : α -> Shared -> Prop}, Lr n lt t (fun a => G a s) -> KasT.kasWp cmp t G s
 | .ret a, G, h => h
 | .ask i j k, G, h => by
  rw [KasT.kasWp.eq_2];exact hc i j _ h.1 h.2.1 h.2.2.1 (h.2.2.2.wp hc)
structure Ord (n : Nat) (lt : Nat -> Nat -> Bool) : Prop where
 asym : ∀ i j, i < n -> j < n -> lt i j = true -> lt j i = false
 trans : ∀ i j k, i < n -> j < n -> k < n -> lt i j = true -> lt j k = true -> lt i k = true
 tot : ∀ i j, i < n -> j < n -> i ≠ j -> lt i j = false -> lt j i = true
section
variable {n : Nat} {lt : Nat -> Nat -> Bool} {p : Array Nat}
abbrev gp (p : Array Nat) (x : Nat) : Nat := Array.getD p x 0
theorem zn8 (p : Array Nat) (x : Nat) : gp p x = (p[x]?).getD 0 := by simp [gp, Array.getD_eq_getD_getElem?]
theorem Pm.size (h : Pm n p) : p.size = n := by
 have := h.size_eq;simpa using this
theorem Pm.inj (h : Pm n p) {x y : Nat} (hx : x < n) (hy : y < n) (e : gp p x = gp p y) : x = y := by
 have hz := h.size;have nd : p.toList.Nodup := (Array.perm_iff_toList_perm.mp h).nodup_iff.mpr (by simpa using List.nodup_range);have e1 : ∀ z (hz' : z < n), gp p z = p.toList[z]'(by simpa [hz] using hz') := fun z hz' => by simp [gp, Array.getD, hz, hz']
 rw [e1 x hx, e1 y hy] at e;exact (jy9 nd).mp e
def Up (lt : Nat -> Nat -> Bool) (p : Array Nat) (m : Nat) : Prop := ∀ i j, i < j -> j < m -> lt (gp p i) (gp p j) = true
def Dn (lt : Nat -> Nat -> Bool) (p : Array Nat) (m : Nat) : Prop := ∀ i j, i < j -> j < m -> lt (gp p j) (gp p i) = true
theorem zc21 (h : Pm n p) {m : Nat} (hm : m <= n) (x : Nat) : gp (kas_rev p 0 m) x = if x < m then gp p (m - 1 - x) else gp p x := by
 rw [zn8, zn8, zn8];unfold kas_rev;rw [getElem?_mirror_all (by rw [h.size]; exact hm)]
 by_cases hx : x < m
 ·rw [if_pos ⟨dy5 _, hx⟩, if_pos hx, show 0 + m - 1 - x = m - 1 - x by omega]
 ·rw [if_neg (fun z => hx z.2), if_neg hx]
variable (hn : 0 < n) (O : Ord n lt)
include hn O
theorem za55 (h : Pm n p) : ∀ f x, 1 <= x -> x + f = n -> Up lt p x -> Lr n lt (kas_asc p f x) fun m => x <= m /\ m <= n /\ Up lt p m /\ (m < n -> lt (gp p m) (gp p (m - 1)) = true)
 | 0, x, h1, h2, hu => by
  rw [kas_asc.eq_1];exact ⟨ay6 _, by omega, hu, fun z => by omega⟩
 | f + 1, x, h1, h2, hu => by
  rw [kas_asc.eq_2];have hne : gp p x ≠ gp p (x - 1) := fun z => by have := h.inj (by omega) (by omega) z; omega
  refine ⟨h.lt hn _, h.lt hn _, hne, ?_⟩;dsimp only;cases hc : lt (gp p x) (gp p (x - 1)) with
  | true =>
   rw [if_pos rfl];exact ⟨ay6 _, by omega, hu, fun _ => hc⟩
  | false =>
   rw [if_neg (by decide)];have hup : lt (gp p (x - 1)) (gp p x) = true := O.tot _ _ (h.lt hn _) (h.lt hn _) hne hc;refine (za55 h f (x + 1) (by omega) (by omega) fun i j a b => ?_).mono fun m ⟨m1, m2, m3, m4⟩ => ⟨by omega, m2, m3, m4⟩
   by_cases hj : j < x
   ·exact hu i j a hj
   ·obtain rfl : j = x := by omega
    by_cases hi : i = j - 1
    ·rw [hi]; exact hup
    ·exact O.trans _ _ _ (h.lt hn _) (h.lt hn _) (h.lt hn _) (hu i (j - 1) (by omega) (by omega)) hup
theorem za56 (h : Pm n p) : ∀ f x, 2 <= x -> x + f = n -> Dn lt p x -> Lr n lt (kas_desc f p x 0) fun r => r.1 = p /\ r.2.2 = 0 /\ x <= r.2.1 /\ r.2.1 <= n /\ Dn lt p r.2.1
 | 0, x, h1, h2, hu => by
  rw [kas_desc.eq_1];exact ⟨rfl, rfl, ay6 _, by show x <= n; omega, hu⟩
 | f + 1, x, h1, h2, hu => by
  rw [kas_desc.eq_2];have hne : gp p x ≠ gp p (x - 1) := fun z => by have := h.inj (by omega) (by omega) z; omega
  refine ⟨h.lt hn _, h.lt hn _, hne, ?_⟩;dsimp only;cases hc : lt (gp p x) (gp p (x - 1)) with
  | true =>
   rw [if_pos rfl, if_neg (by decide)];refine (za56 h f (x + 1) (by omega) (by omega) fun i j a b => ?_).mono fun r ⟨r1, r2, r3, r4, r5⟩ => ⟨r1, r2, by omega, r4, r5⟩
   by_cases hj : j < x
   ·exact hu i j a hj
   ·obtain rfl : j = x := by omega
    by_cases hi : i = j - 1
    ·rw [hi]; exact hc
    ·exact O.trans _ _ _ (h.lt hn _) (h.lt hn _) (h.lt hn _) hc (hu i (j - 1) (by omega) (by omega))
  | false =>
   rw [if_neg (by decide)];have hup : lt (gp p (x - 1)) (gp p x) = true := O.tot _ _ (h.lt hn _) (h.lt hn _) hne hc;refine ⟨h.lt hn _, h.lt hn _, fy4 hne, ?_⟩;dsimp only;rw [if_pos hup];exact ⟨rfl, rfl, ay6 _, by show x <= n; omega, hu⟩
theorem zb58 (h : Pm n p) {m : Nat} (hm : m <= n) (h1 : 1 <= m) (hd : Dn lt p m) : Lr n lt (kas_tail3 m n p) fun q => Pm n q.2 /\ 1 <= q.1 /\ q.1 <= n /\ Up lt q.2 q.1 := by
 unfold kas_tail3;have hp := h.rev 0 m;refine ((za55 hn O hp (n - m) m h1 (by omega) fun i j a b => ?_).mono fun l ⟨l1, l2, l3, _⟩ => ⟨hp, by show 1 <= l; omega, l2, l3⟩).bind;rw [zc21 h hm, zc21 h hm, if_pos (by omega), if_pos b];exact hd _ _ (by omega) (by omega)
theorem zb59 (h : Pm n p) : Lr n lt (kas_count n p) fun q => Pm n q.2 /\ 1 <= q.1 /\ q.1 <= n /\ Up lt q.2 q.1 := by
 unfold kas_count;refine ((za55 hn O h (n - 1) 1 (ay6 _) (by omega) fun i j a b => by omega).mono fun m ⟨m1, m2, m3, m4⟩ => ?_).bind
 split
 ·exact ⟨h, m1, m2, m3⟩
 ·rename_i hmn
  have hmn : m ≠ n := by simpa using hmn
  split
  ·rename_i hm1
   refine ⟨h.lt hn _, h.lt hn _, fun z => by have := h.inj (by omega) (by omega) z; omega, ?_⟩;dsimp only;rw [if_pos (m3 0 (m - 1) (by omega) (by omega))];exact ⟨h, m1, m2, m3⟩
  ·rename_i hm1
   obtain rfl : m = 1 := by omega
   unfold kas_descPart;refine ((za56 hn O h (n - (1 + 1)) (1 + 1) (by omega) (by omega) fun i j a b => ?_).mono fun r ⟨r1, r2, r3, r4, r5⟩ => ?_).bind
   ·obtain rfl : i = 0 := by omega
    obtain rfl : j = 1 := by omega
    exact m4 (by omega)
   ·rw [if_neg (by rw [r2]; decide), r1];exact zb58 hn O h r4 (by omega) r5
theorem zC1 (h : Pm n p) {k : Nat} (hk : k < n) (hu : Up lt p k) : ∀ f l r, l <= r -> r <= k -> r - l <= f -> (∀ i, i < l -> lt (gp p i) (gp p k) = true) -> (∀ i, r <= i -> i < k -> lt (gp p k) (gp p i) = true) ->
  Lr n lt (kas_place p k f l r) fun m => m <= k /\ (∀ i, i < m -> lt (gp p i) (gp p k) = true) /\ ∀ i, m <= i -> i < k -> lt (gp p k) (gp p i) = true
 | 0, l, r, h1, h2, h3, h4, h5 => by
  rw [kas_place.eq_1];obtain rfl : l = r := by omega
  exact ⟨h2, h4, h5⟩
 | f + 1, l, r, h1, h2, h3, h4, h5 => by
  rw [kas_place.eq_2]
  split
  ·obtain rfl : l = r := by omega
   exact ⟨h2, h4, h5⟩
  ·have hmid : l <= (l + r) / 2 /\ (l + r) / 2 < r := by omega
   have hne : gp p k ≠ gp p ((l + r) / 2) := fun z => by have := h.inj hk (by omega) z; omega
   refine ⟨h.lt hn _, h.lt hn _, hne, ?_⟩;dsimp only;cases hc : lt (gp p k) (gp p ((l + r) / 2)) with
   | true =>
    rw [if_pos rfl];refine zC1 h hk hu f l _ hmid.1 (by omega) (by omega) h4 fun i hi hik => ?_
    by_cases e : i = (l + r) / 2
    ·rw [e]; exact hc
    ·exact O.trans _ _ _ (h.lt hn _) (h.lt hn _) (h.lt hn _) hc (hu _ i (by omega) hik)
   | false =>
    rw [if_neg (by decide)];have hup : lt (gp p ((l + r) / 2)) (gp p k) = true := O.tot _ _ (h.lt hn _) (h.lt hn _) hne hc;refine zC1 h hk hu f _ r (by omega) h2 (by omega) (fun i hi => ?_) h5
    by_cases e : i = (l + r) / 2
    ·rw [e]; exact hup
    ·exact O.trans _ _ _ (h.lt hn _) (h.lt hn _) (h.lt hn _) (hu i _ (by omega) (by omega)) hup
theorem zc22 : ∀ f {p : Array Nat} k, Pm n p -> k + f = n -> Up lt p k -> Lr n lt (kas_bin f p k) fun q => Pm n q /\ Up lt q n
 | 0, p, k, h, hk, hu => by
  rw [kas_bin.eq_1];exact ⟨h, by rw [<- hk]; exact hu⟩
 | f + 1, p, k, h, hk, hu => by
  rw [kas_bin.eq_2];have hkn : k < n := by omega
  refine ((zC1 hn O h hkn hu k 0 k (dy5 _) (ay6 _) (by omega) (fun i hi => by omega) (fun i a b => by omega)).mono fun l ⟨l1, l2, l3⟩ => ?_).bind;have hq : Pm n (bubble p k (k - l)) := (bubble_perm _ _ _).trans h
  have gb : ∀ x, gp (bubble p k (k - l)) x = if x = l then gp p k else if l < x /\ x <= k then gp p (x - 1) else gp p x := fun x => by
   rw [zn8, zn8, zn8, zn8, getElem?_bubble (by rw [h.size]; exact hkn) (k - l) (by omega)];rw [show k - (k - l) = l by omega]
   split
   ·rfl
   ·split <;> rfl
  refine zc22 f (k + 1) hq (by omega) fun i j a b => ?_;rw [gb, gb]
  by_cases e1 : i = l
  ·rw [if_pos e1, if_neg (show ¬ j = l by omega), if_pos (show l < j /\ j <= k by omega)];exact l3 (j - 1) (by omega) (by omega)
  ·rw [if_neg e1]
   by_cases e2 : l < i
   ·rw [if_pos (show l < i /\ i <= k by omega), if_neg (show ¬ j = l by omega), if_pos (show l < j /\ j <= k by omega)];exact hu _ _ (by omega) (by omega)
   ·rw [if_neg (show ¬ (l < i /\ i <= k) by omega)]
    by_cases e3 : j = l
    ·rw [if_pos e3];exact l2 i (by omega)
    ·rw [if_neg e3]
     by_cases e4 : l < j
     ·rw [if_pos (show l < j /\ j <= k by omega)];exact hu _ _ (by omega) (by omega)
     ·rw [if_neg (show ¬ (l < j /\ j <= k) by omega)];exact hu _ _ a (by omega)
theorem zc71 : Lr n lt (kas_sort n) fun q => Pm n q /\ Up lt q n := by
 unfold kas_sort;refine ((zb59 hn O (Array.Perm.refl _)).mono fun q ⟨q1, q2, q3, q4⟩ => ?_).bind
 split
 ·rw [Nat.max_eq_left q2];exact zc22 hn O _ _ q1 (by omega) q4
 ·rename_i hq
  exact ⟨q1, by rw [show n = q.1 by omega]; exact q4⟩
end
section
variable {prog : cy8} {w : World} {A : Around} {E : Value -> Shared -> Prop} {s : Shared} {a : Addr} {vs : List Value} {n : Nat}
theorem za57 (vs : List Value) : (ky2 vs.length).map (fun i => vs.getD i dy4) = vs := by
 refine py5 fun i => ?_;rw [by3]
 by_cases h : i < vs.length
 ·rw [List.getElem?_range h, by5 h];simp [ly8, h]
 ·rw [ny9 (by simpa using h), ny9 (by omega)];rfl
theorem ze70 {lt : Nat -> Nat -> Bool} {p : Array Nat} {n : Nat} (hz : p.size = n) (h : Up lt p n) : p.toList.Pairwise fun i j => lt i j = true := by
 rw [List.pairwise_iff_getElem];intro i j hi hj hij;have := h i j hij (by rw [<- hz]; simpa using hj)
 have e : ∀ k (hk : k < p.toList.length), gp p k = p.toList[k] := fun k hk => by
  have hk' : k < p.size := by simpa using hk
  simp [gp, Array.getD, hk']
 rw [e i hi, e j hj] at this;exact this
theorem zy4 {κ : SortKind} {lt : Nat -> Nat -> Bool} {P : PySem.Fin -> Shared -> Prop} (O : Ord vs.length lt) (ho : s.heap.get? a = some (seqObj "list" vs.toArray n)) (h64 : vs.length < 64)
    (hk : 2 <= vs.length -> ∀ (s' : Shared) (Q : SortKind -> Shared -> Prop), (∀ b o, b ≠ a -> s.heap.get? b = some o -> s'.heap.get? b = some o) -> Q κ s' -> wpAny (model prog w) A (keyKind' vs.toArray) Q E s')
    (hc : 2 <= vs.length -> ∀ (s' : Shared) i j (C : Bool -> Shared -> Prop), (∀ b o, b ≠ a -> s.heap.get? b = some o -> s'.heap.get? b = some o) -> i < vs.length -> j < vs.length -> i ≠ j -> C (lt i j) s' -> kas_ask prog w A κ vs i j C s')
    (h : ∀ q : List Nat, q.Perm (ky2 vs.length) -> q.Pairwise (fun i j => lt i j = true) -> P (Fin.done (Flow.ret dy4)) { s with heap := sortedHeap s.heap a vs (q.map fun i => vs.getD i dy4).toArray }) :
    wpAny (model prog w) A (oy6.«list.sort» { pos := [cy7 a] }) P E s := by
  rw [list_sort_plain a];have ha := by1 ho;refine ay0 (listItems_at ho rfl (ay0 (listUpdate_at ho rfl ?_ (by rw [my8]; simp; omega))));obtain ⟨e1, ho1⟩ : ∃ e1, (s.heap.update a (hy9 fun _ => #[])).get? a = some (seqObj "list" #[] e1) := ⟨_, get?_update_seq ho fun _ => #[]⟩
  refine ay0 (seqEpoch_at ho1 rfl (ay0 (wpAny_newTuple (ay0 (wpAny_newList (ey5 ?_))))))
  have ho6 : (((s.heap.update a (hy9 fun x => #[])).push (seqObj "tuple" vs.toArray 0)).push (seqObj "list" #[] 0)).get? a = some (seqObj "list" #[] e1) := by
    rw [Heap.get?_push_ne _ _ _ (by rw [size_push', Heap.size_update]; exact by6 (ny0 ha)), Heap.get?_push_ne _ _ _ (by rw [Heap.size_update]; exact by6 ha)];exact ho1
  have hkp : ∀ b o, b ≠ a -> s.heap.get? b = some o -> (((s.heap.update a (hy9 fun x => #[])).push (seqObj "tuple" vs.toArray 0)).push (seqObj "list" #[] 0)).get? b = some o := fun b o hb q =>
    ay1 _ (ay1 _ ((dy0 _ _ (fy4 hb)).trans q))
  generalize hS : ({ s with heap := ((s.heap.update a (hy9 fun x => #[])).push (seqObj "tuple" vs.toArray 0)).push (seqObj "list" #[] 0) } : Shared) = S
  have last : ∀ (st' : SortSt) (R : PySem.Fin -> Shared -> Prop), failedOf st' = none -> (arrOf st').size = vs.length -> R (Fin.done (Flow.ret dy4)) { s with heap := sortedHeap s.heap a vs (Array.map (fun x => x.snd) (arrOf st')) } ->
     wpAny (model prog w) A (do
         let __do_lift <- seqEpoch a
         Builtin.List.listUpdate (cy7 a) fun x => Array.map (fun x => x.snd) (arrOf st')
         match failedOf st' with
           | some e => do
             rule "list.sort.comparison-raised"
             throw e
             if (__do_lift != e1) = true then do
                 rule "list.sort.modified"
                 raiseErrorWords "ValueError" "list modified during sort"
                 ret dy4
               else ret dy4
           | x =>
             if (__do_lift != e1) = true then do
               rule "list.sort.modified"
               raiseErrorWords "ValueError" "list modified during sort"
               ret dy4
             else ret dy4) R E S := by
    intro st' R hf hsz hR;subst hS;refine ay0 (seqEpoch_at ho6 rfl (ay0 (listUpdate_at ho6 rfl ?_ (by simp) (by rw [Array.size_map, hsz, my8]; omega))));rw [hf];simp only [bne_self_eq_false, iy3, if_false];exact ay2 hR
  have hkp' : ∀ b o, b ≠ a -> s.heap.get? b = some o -> S.heap.get? b = some o := by subst hS; exact hkp
  by_cases h2 : vs.toArray.size < 2
  · show wpAny _ _ (if vs.toArray.size < 2 then _ else _) _ _ S
    rw [if_pos h2];refine ay0 (ay2 ?_);rw [if_pos h2];show wpAny _ _ (StateT.run (pure ()) (SortSt.mk' general' (vs.toArray.zip vs.toArray) #[] 7 none) >>= _) _ _ S;rw [StateT.run_pure];refine ay0 (ay2 ?_);refine last (SortSt.mk' general' (vs.toArray.zip vs.toArray) #[] 7 none) _ rfl ?_ ?_
    · show (vs.toArray.zip vs.toArray).size = _
      simp
    · have e : Array.map (fun x : Keyed => x.snd) (vs.toArray.zip vs.toArray) = ((ky2 vs.length).map fun i => vs.getD i dy4).toArray := by
        rw [za57];have := congrArg List.toArray (zc69 vs)
        rwa [Array.toArray_toList] at this
      show P _ { s with heap := sortedHeap s.heap a vs (Array.map (fun x : Keyed => x.snd) (vs.toArray.zip vs.toArray)) };rw [e];refine h _ (.refl _) ?_;have h2' : vs.length < 2 := by simpa using h2
      rw [List.pairwise_iff_getElem];intro i j hi hj hij;simp at hj;omega
  · have h2' : 2 <= vs.length := by simpa using h2
    show wpAny _ _ (if vs.toArray.size < 2 then _ else _) _ _ S;rw [if_neg h2];refine ay0 (hk h2' S _ hkp' ?_);rw [if_neg h2];refine ay0 (thn (kat_run (ks := vs) (Q := fun st' s' => s' = S /\ failedOf st' = none /\ (arrOf st').size = vs.length /\ ∃ q : List Nat, q.Perm (ky2 vs.length) /\ q.Pairwise (fun i j => lt i j = true) /\ Array.map (fun x => x.snd) (arrOf st') = (q.map fun i => vs.getD i dy4).toArray) (G := fun p s' => s' = S /\ Pm vs.length p /\ Up lt p vs.length) rfl h2' h64 (fun p st' s' hp harr hf hG => ?_) ((zc71 (by omega) O).mono (fun p hp => ⟨rfl, hp⟩) |>.wp fun i j C hi hj hij hC => hc h2' S i j C hkp' hi hj hij hC)) fun r s' q => ?_)
    rotate_left
    · obtain ⟨⟨⟩, st'⟩ := r
      obtain ⟨rfl, q1, q2, q, q3, q4, q5⟩ := q;refine last st' _ q1 q2 ?_;rw [q5];exact h q q3 q4
    obtain ⟨rfl, hG, hU⟩ := hG;refine ⟨rfl, hf, by rw [harr, Array.size_map, hp], p.toList, by simpa using Array.perm_iff_toList_perm.mp hG, ze70 hp hU, ?_⟩;rw [harr]
    have e : (Array.map (fun x => x.snd) (Array.map (kas_item (vs.toArray.zip vs.toArray)) p)).toList = p.toList.map fun i => vs.getD i dy4 := by
      simp only [Array.toList_map, ey9];refine ny1 fun i _ => ?_;show (kas_item (vs.toArray.zip vs.toArray) i).2 = _;rw [kat_item rfl]
    rw [<- e]
theorem zH8 {κ : SortKind} {lt : Nat -> Nat -> Bool} {l : Addr} {Q : Value -> Shared -> Prop} (O : Ord vs.length lt) (hl : s.heap.IsList l vs.toArray) (h64 : vs.length < 64)
  (hk : 2 <= vs.length -> ∀ (s' : Shared) (Q : SortKind -> Shared -> Prop), (∀ b o, s.heap.get? b = some o -> s'.heap.get? b = some o) -> Q κ s' -> wpAny (model prog w) A.in1.in1 (keyKind' vs.toArray) Q E s')
  (hc : 2 <= vs.length -> ∀ (s' : Shared) i j (C : Bool -> Shared -> Prop), (∀ b o, s.heap.get? b = some o -> s'.heap.get? b = some o) -> i < vs.length -> j < vs.length -> i ≠ j -> C (lt i j) s' -> kas_ask prog w A.in1.in1 κ vs i j C s')
  (h : ∀ q : List Nat, q.Perm (ky2 vs.length) -> q.Pairwise (fun i j => lt i j = true) -> Q (cy7 (s.heap.objs.size + 1)) { s with heap := sortedAll s.heap vs (q.map fun i => vs.getD i dy4).toArray }) :
  wpAny (model prog w) A (call (Value.builtin "sorted") [cy7 l]) Q E s := by
 refine Calls.call_function_entry kind_sorted plain_sorted entry_sorted (args_sorted1 (cy7 l)) ?_;refine ay0 (ay2 (ay0 (collect_list hl (ay0 (wpAny_newList ?_ (by rw [my8]; omega))) (by rw [my8]; omega))))
 have hsz : ((s.heap.push (seqObj "list" #[] 0)).update s.heap.objs.size (hy9 fun x => x ++ vs.toArray)).objs.size = s.heap.objs.size + 1 := by
  rw [Heap.size_update, size_push']
 have hoL : (((s.heap.push (seqObj "list" #[] 0)).update s.heap.objs.size (hy9 fun x => x ++ vs.toArray)).push (seqObj "list" vs.toArray 0)).get? (s.heap.objs.size + 1) = some (seqObj "list" vs.toArray 0) := by
  rw [<- hsz]; exact ay7 _ rfl
 have hold : ∀ b o, s.heap.get? b = some o -> (((s.heap.push (seqObj "list" #[] 0)).update s.heap.objs.size (hy9 fun x => x ++ vs.toArray)).push (seqObj "list" vs.toArray 0)).get? b = some o := fun b o q =>
  ay1 _ ((dy0 _ _ (ky5 (by1 q))).trans (ay1 _ q))
 show wpAny (model prog w) A.in1 _ _ E _;rw [hsz];refine ay0 (ey5 (dy3 slot_list_sort ⟨_, hoL, rfl⟩ entry_list_sort (zy4 (κ := κ) O hoL h64 (fun h2 s' Q hb q => ?_) (fun h2 s' i j C hb => ?_) fun q q1 q2 => ?_) (args_list_sort _)))
 ·exact hk h2 s' Q (fun b o q => hb b o (by6 (ny0 (by1 q))) (hold b o q)) q
 ·exact hc h2 s' i j C (fun b o q => hb b o (by6 (ny0 (by1 q))) (hold b o q))
 ·exact ⟨.none, rfl, ay2 ⟨_, rfl, h q q1 q2⟩⟩
end
def ltS (a b : Str) : Bool := decide (a.cps.toList < b.cps.toList)
def ltQ (a b : Str × Str) : Bool := if a.1 = b.1 then ltS a.2 b.2 else ltS a.1 b.1
theorem zC2 {a b : Str} (h : ltS a b = true) : ltS b a = false := by
 unfold ltS at *;exact decide_eq_false fun z => List.lt_asymm (of_decide_eq_true h) z
theorem zw3 {a b c : Str} (h : ltS a b = true) (h' : ltS b c = true) : ltS a c = true := by
 unfold ltS at *;exact decide_eq_true (List.lt_trans (of_decide_eq_true h) (of_decide_eq_true h'))
theorem zL7 {a b : Str} (h : a ≠ b) (h' : ltS a b = false) : ltS b a = true := by
 unfold ltS at *;have h1 : b.cps.toList <= a.cps.toList := List.not_lt.mp (of_decide_eq_false h')
 by_cases h2 : b.cps.toList < a.cps.toList
 ·exact decide_eq_true h2
 ·exact absurd (zb49 (a := a) (b := b) h2 (of_decide_eq_false h')) h
theorem za58 (a : Str) : ltS a a = false := by
 cases h : ltS a a with
 | false => rfl
 | true => rw [zC2 h] at h; cases h
theorem zb60 {a b : Str × Str} (h : ltQ a b = true) : ltQ b a = false := by
 unfold ltQ at *
 by_cases e : a.1 = b.1
 ·rw [if_pos e] at h; rw [if_pos e.symm]; exact zC2 h
 ·rw [if_neg e] at h; rw [if_neg (fy4 e)]; exact zC2 h
theorem za59 {a b c : Str × Str} (h : ltQ a b = true) (h' : ltQ b c = true) : ltQ a c = true := by
 unfold ltQ at *
 by_cases e : a.1 = b.1
 ·rw [if_pos e] at h
  by_cases e' : b.1 = c.1
  ·rw [if_pos e'] at h'; rw [if_pos (e.trans e')]; exact zw3 h h'
  ·rw [if_neg e'] at h'; rw [if_neg (by rw [e]; exact e'), e]; exact h'
 ·rw [if_neg e] at h
  by_cases e' : b.1 = c.1
  ·rw [if_pos e'] at h'; rw [if_neg (by rw [<- e']; exact e), <- e']; exact h
  ·rw [if_neg e'] at h';have h3 := zw3 h h';have : a.1 ≠ c.1 := fun z => by rw [z, za58] at h3; cases h3
   rw [if_neg this]; exact h3
theorem zc72 {a b : Str × Str} (h : a ≠ b) (h' : ltQ a b = false) : ltQ b a = true := by
 unfold ltQ at *
 by_cases e : a.1 = b.1
 ·rw [if_pos e] at h'; rw [if_pos e.symm];exact zL7 (fun z => h (Prod.ext e z)) h'
 ·rw [if_neg e] at h'; rw [if_neg (fy4 e)];exact zL7 e h'
theorem zc73 {ks : List (Str × Str)} (nd : ks.Nodup) : Ord ks.length fun i j => ltQ (ks.getD i default) (ks.getD j default) where
 asym := fun i j _ _ h => zb60 h
 trans := fun i j k _ _ _ h h' => za59 h h'
 tot := fun i j hi hj hij h => zc72 (fun z => hij (by
  have e : ∀ k (hk : k < ks.length), ks.getD k default = ks[k] := fun k hk => by simp [ly8, hk]
  rw [e i hi, e j hj] at z
  exact (jy9 nd).mp z)) h
section
variable {prog : cy8} {w : World} {A : Around} {E : Value -> Shared -> Prop} {s : Shared}
theorem zc74 {x1 x2 y1 y2 : Str} {t1 t2 u1 u2 : Tok} {fin : Bool} {r : List (Value × Value)} {Q : Bool -> Shared -> Prop} (hne : (x1, x2) ≠ (y1, y2)) (h : Q (ltQ (x1, x2) (y1, y2)) s) : KatLex prog w A true fin Q ((.str x1 t1, .str y1 u1) :: (.str x2 t2, .str y2 u2) :: r) 0 s := by
 rw [KatLex.eq_2];refine qy2 ?_
 by_cases e : x1 = y1
 ·rw [decide_eq_true e, if_pos rfl, KatLex.eq_2];refine qy2 ?_;have e2 : x2 ≠ y2 := fun z => hne (by rw [e, z]);rw [decide_eq_false e2, if_neg (by decide)];refine kat_one _ _ (PySem.P.lt_str ?_);unfold ltQ at h;rw [if_pos e] at h;exact h
 ·rw [decide_eq_false e, if_neg (by decide)];refine strKind_oneLt prog w A _ s _ _ x1.cps.toList y1.cps.toList rfl rfl ?_;unfold ltQ at h;rw [if_neg e] at h;have : strKind.blt x1.cps.toList y1.cps.toList = ltS x1 y1 := rfl;rw [this];exact h
end
section
variable {P : cy8} {w : World} {A : Around} {E : Value -> Shared -> Prop} {s : Shared} {it d : Addr} {i ep : Nat} {es : Array my5}
def ItAt (h : Heap) (it d S : Addr) (i n ep : Nat) : Prop :=
 (∃ ok ov, IsItemIter h it d i n ep ok ov) \/ ∃ ok ov a f oa, KdxIt h it d i n ep ok ov a f /\ h.get? a = some oa /\ a ≠ it /\ a ≠ S
theorem zb61 {S : Addr} {Q : Option Value -> Shared -> Prop} (hh : A.handled = none) (hit : ItAt s.heap it d S i es.size ep) (hm : zH6 s.heap d es ep) (hx : es.size <= i)
  (hQ : ∀ h', Heap.ExtBut it s.heap h' -> Q none { s with heap := h' }) : wpAny (model P w) A (pyNext (.ref it)) Q E s := by
 obtain ⟨ob, b1, b2, b3⟩ := hm
 obtain ⟨f0, f1, ok, ov, hI⟩ : ∃ f0 f1 ok ov, s.heap.get? it = some { cls := .type "dict_itemiterator", dict := none, data := .fields #[f0, f1, .ref d, .int i 0, .int es.size 0, .int ep 0, ok, ov], slots := #[] } := by
  rcases hit with ⟨ok, ov, x⟩ | ⟨ok, ov, a, f, oa, x, y, z, u⟩
  ·exact ⟨_, _, ok, ov, x⟩
  ·exact ⟨_, _, ok, ov, x⟩
 have ty : s.TypeIs (.ref it) "dict_itemiterator" := ⟨_, hI, rfl⟩
 have own : gy6 "dict_itemiterator" = true := by decide
 unfold pyNext;refine ay0 (py1 (fy0 (name := ly1 "__next__") ty iy8 (dy3 iy8 ty F.entry_dict_itemiterator_next ?_ (F.args_dict_itemiterator_next_1 _))));refine ay0 (ay2 (ay0 (ay0 ?_)))
 first | refine ay0 (oy1 ty (ay2 ?_)) | refine ay0 (ry6 ty (ay2 ?_))
 refine ay0 (uy0 hI rfl ?_);simp only [own, if_true];show wpAny _ _ (if (cy7 d == dy4) = true then _ else _) _ _ s;rw [if_neg (show ¬ ((cy7 d == dy4) = true) from by9)];refine ay0 (ay2 (ay0 (ky4 b1 b3 ?_)));rw [if_neg (by simp)];refine ay0 (ay2 (ay0 (oy0 b1 b3 ?_)));rw [if_neg (by simp)];refine ay2 ?_;simp only [show ¬ ((i : Int) < 0) from by omega, if_false, ky3, my6 hx];refine ay0 ?_
 first | refine ay0 (oy1 ty (ay2 ?_)) | refine ay0 (ry6 ty (ay2 ?_))
 show wpAny _ _ (uy3 (.ref it) 2 .none >>= _) _ _ s;refine ay0 (ky0 hI rfl (by simp) ?_);refine zj6 (by simpa using hh) fun h' e k te => ?_;refine ay0 (ky8 te isSubtype_stop ?_);exact ay2 (hQ _ fun b' o' hb q => k _ _ ((dy0 _ _ (fy4 hb)).trans q))
theorem za60 {v : Addr} {Q : Value -> Shared -> Prop} (hv : s.heap.IsItemsView v d) (hm : zH6 s.heap d es ep)
  (hQ : Q (.ref s.heap.objs.size) { s with heap := s.heap.push { cls := .type "dict_itemiterator", data := .fields #[.none, .bool false, .ref d, .int 0 0, .int es.size 0, .int ep 0, .none, .none] } }) : wpAny (model P w) A (pyIter (.ref v)) Q E s := by
 obtain ⟨vo, v1, v2, v3⟩ := id hv;obtain ⟨ob, b1, b2, b3⟩ := hm;refine sy4 hv.typeIs F.slot_dict_items_iter (dy3 F.slot_dict_items_iter hv.typeIs F.entry_dict_items_iter ?_ (F.args_dict_items_iter_1 _));unfold Builtin.«dict_items.__iter__»;refine ay0 (ay2 (ay0 ?_));unfold Builtin.Dict_items.dictOf;refine ay0 (jy5 v1 v3 (x := .ref d) rfl (ay2 (ay0 ?_)));unfold Builtin.Dict_items.newIterator;refine ay0 (ky4 b1 b3 (ay0 (oy0 b1 b3 ?_)));have own : gy6 "dict_itemiterator" = true := by decide
 simp only [own, if_true];refine dy8 (ay2 ⟨_, rfl, "dict_itemiterator", _, ⟨_, ay7 _ rfl, rfl⟩, iy8.lookup, ?_⟩) (by simp only [sizeOk, wy9, cy0, cy1, oy4, List.length_nil, my8]; omega);simpa [rawInt, wy9] using hQ
end
section
variable {P : cy8} {w : World} {A : Around} {E : Value -> Shared -> Prop} {s : Shared} {d : Addr} {ep : Nat} {es : Array my5}
abbrev zp4 (acc : Array Value) (c : Nat) : Obj := { cls := .type "list", dict := none, data := .seq acc c, slots := #[] }
end
def za61 (v d : Addr) : HO := .ext fun h => h.IsItemsView v d
def IsT2 (h : Heap) (b : Addr) (p : Str × Str) : Prop := ∃ o n t u, h.get? b = some o /\ o.cls = .type "tuple" /\ o.data = .seq #[.str p.1 t, .str p.2 u] n
theorem IsT2.move {h h' : Heap} {b : Addr} {p : Str × Str} (x : IsT2 h b p) (k : ∀ o, h.get? b = some o -> h'.get? b = some o) : IsT2 h' b p := by
 obtain ⟨o, n, t, u, e, r⟩ := x;exact ⟨o, n, t, u, k o e, r⟩
section
variable {prog : cy8} {w : World} {A : Around} {E : Value -> Shared -> Prop} {s : Shared}
end
section
variable {X : Cx}
end
section
variable {X : Cx}
end
section
variable {α : Type}
theorem zy5 [Inhabited α] {L : List α} {q : List Nat} (h : q.Perm (ky2 L.length)) : (q.map fun i => L.getD i default).Perm L := by
 have e : (ky2 L.length).map (fun i => L.getD i default) = L := by
  refine py5 fun i => ?_;rw [by3]
  by_cases hi : i < L.length
  ·rw [List.getElem?_range hi, by5 hi];simp [ly8, hi]
  ·rw [ny9 (by simpa using hi), ny9 (by omega)];rfl
 exact (h.map _).trans (.of_eq e)
end
instance : Inhabited PyData := ⟨.none⟩
section
variable {X : Bc} {S : Sl} {W : Wl} {k : KB}
theorem RW.grown {K : ay5} {F : Hp} {A : List Addr} {W : Wl} {H H1 : Hp} (r : RW K F A W H) (s : zm6 H H1) : RW K F A W H1 := ⟨r.sub.trans s, r.len, r.nd, r.out, fun k a o hk ho => by
 obtain ⟨u, e, q⟩ := r.obj k a o hk ho
 exact ⟨u, s _ _ e, q⟩⟩
end
end L2
namespace L2
open PySem PySem.Spec PyProof.Rows
section
variable {K : ay5} {F : Hp} {A : List Addr} {W : Wl} {H : Hp}
end
section
variable {X : Bc} {n : Nat} {S : Sl} {W : Wl} {D : DB}
end
section
variable {X : Bc} {S : Sl} {W : Wl} {scope : Scope}
end
section
variable {X : Bc} {S : Sl} {W : Wl} {k : KB}
theorem za62 {a : Expr} {pos : Pos} (h : BE X S W a fun x W1 => ∃ i, x = .d (.int i) /\ k (.d (.int (-i))) W1) : BE X S W (.UnaryOp .USub a pos) k :=
 .of (ze41 zd36 zh8) fun F A σ H Q x0 r sr q => h.use x0 r sr fun F1 A1 W1 H1 x vx e1 r1 z1 zR => by
  obtain ⟨i, hi, h1⟩ := zR;subst hi;obtain rfl := Rq.zd7 z1;exact ⟨i, rfl, (q.ext e1).same r1 (.dd (Rq.int _)) h1⟩
end
section
variable {prog : cy8} {w : World} {A : Around} {E : Value -> Shared -> Prop} {s : Shared}
end
section
variable {X : Cx} {e st : Expr} {te ts : TE} {p2 pos : Pos}
end
section
variable {X : Bc} {S : Sl} {W : Wl} {k : KB}
end
end L2
namespace L2
open PySem PySem.Spec PyProof.Rows
open PySem.W
section
variable {P : cy8} {w : World} {A : Around} {E : Value -> Shared -> Prop} {s : Shared} {it d : Addr} {i ep : Nat} {es : Array my5}
theorem zC3 {Q : Option Value -> Shared -> Prop} {en : my5} (hit : s.heap.IsValIter it d i es.size ep) (hm : zH6 s.heap d es ep) (hx : es[i]? = some en)
  (hQ : ∀ h', h'.IsValIter it d (i + 1) es.size ep -> fy5 it s.heap h' -> Q (some en.val) { s with heap := h' }) : wpAny (model P w) A (pyNext (.ref it)) Q E s := by
 obtain ⟨o, c1, c2, c3⟩ := id hit;obtain ⟨b, b1, b2, b3⟩ := hm;have ty := hit.typeIs;unfold pyNext;refine ay0 (py1 (fy0 (name := ly1 "__next__") ty ky6 (dy3 ky6 ty F.entry_dict_valueiterator_next ?_ (F.args_dict_valueiterator_next_1 _))));refine ay0 (ay2 (ay0 (ay0 ?_)))
 first | refine ay0 (oy8 ty (ay2 ?_)) | refine ay0 (sy8 ty (ay2 ?_))
 refine ay0 (uy0 c1 c3 ?_);have own : gy6 "dict_valueiterator" = false := by decide
 simp only [own, iy3, if_false];show wpAny _ _ (if (cy7 d == dy4) = true then _ else _) _ _ s;rw [if_neg (show ¬ ((cy7 d == dy4) = true) from by9)];refine ay0 (ay2 (ay0 (ky4 b1 b3 ?_)));rw [if_neg (by simp)];refine ay0 (ay2 (ay0 (oy0 b1 b3 ?_)));rw [if_neg (by simp)];refine ay2 ?_;simp only [show ¬ ((i : Int) < 0) from by omega, if_false, ky3, hx];refine ay0 ?_
 first | refine ay0 (oy8 ty (ay2 ?_)) | refine ay0 (sy8 ty (ay2 ?_))
 refine ay0 (wpAny_isOneOf_valiter ty ?_);show wpAny _ _ (uy3 (.ref it) 1 (rawInt ((i : Int) + 1)) >>= _) _ _ s;refine ay0 (ky0 c1 c3 (by simp) ?_)
 have hit' : (s.heap.update it (vy8 (·.setIfInBounds 1 (rawInt ((i : Int) + 1))))).IsValIter it d (i + 1) es.size ep :=
  ⟨_, fy8 _ c1 (ly2 (gy8 c3 _)), (sy2 ..).trans c2, by rw [gy8 c3]; simp [rawInt]⟩
 have ty' : qy8 { s with heap := s.heap.update it (vy8 (·.setIfInBounds 1 (rawInt ((i : Int) + 1)))) } (.ref it) "dict_valueiterator" := hit'.typeIs;refine ay0 (ey5 (ay0 (wpAny_isOneOf_valiter ty' (ay0 (wpAny_isOneOf_valiter ty' ?_)))));show wpAny _ _ (pure en.val) _ _ _;exact ay2 (ay2 ⟨_, rfl, ay2 (hQ _ hit' (hy4 ..))⟩)
theorem zL8 {Q : Option Value -> Shared -> Prop} (hh : A.handled = none) (hit : s.heap.IsValIter it d i es.size ep) (hm : zH6 s.heap d es ep) (hx : es.size <= i)
  (hQ : ∀ h', Heap.ExtBut it s.heap h' -> Q none { s with heap := h' }) : wpAny (model P w) A (pyNext (.ref it)) Q E s := by
 obtain ⟨o, c1, c2, c3⟩ := id hit;obtain ⟨b, b1, b2, b3⟩ := hm;have ty := hit.typeIs;unfold pyNext;refine ay0 (py1 (fy0 (name := ly1 "__next__") ty ky6 (dy3 ky6 ty F.entry_dict_valueiterator_next ?_ (F.args_dict_valueiterator_next_1 _))));refine ay0 (ay2 (ay0 (ay0 ?_)))
 first | refine ay0 (oy8 ty (ay2 ?_)) | refine ay0 (sy8 ty (ay2 ?_))
 refine ay0 (uy0 c1 c3 ?_);have own : gy6 "dict_valueiterator" = false := by decide
 simp only [own, iy3, if_false];show wpAny _ _ (if (cy7 d == dy4) = true then _ else _) _ _ s;rw [if_neg (show ¬ ((cy7 d == dy4) = true) from by9)];refine ay0 (ay2 (ay0 (ky4 b1 b3 ?_)));rw [if_neg (by simp)];refine ay0 (ay2 (ay0 (oy0 b1 b3 ?_)));rw [if_neg (by simp)];refine ay2 ?_;simp only [show ¬ ((i : Int) < 0) from by omega, if_false, ky3, my6 hx];refine ay0 ?_
 first | refine ay0 (oy8 ty (ay2 ?_)) | refine ay0 (sy8 ty (ay2 ?_))
 show wpAny _ _ (uy3 (.ref it) 0 .none >>= _) _ _ s;refine ay0 (ky0 c1 c3 (by simp) ?_);refine zj6 (by simpa using hh) fun h' e k te => ?_;refine ay0 (ky8 te isSubtype_stop ?_);exact ay2 (hQ _ fun b' o' hb q => k _ _ ((dy0 _ _ (fy4 hb)).trans q))
theorem zC4 {v : Addr} {Q : Value -> Shared -> Prop} (hv : s.heap.IsValuesView v d) (hm : zH6 s.heap d es ep)
  (hQ : Q (.ref s.heap.objs.size) { s with heap := s.heap.push { cls := .type "dict_valueiterator", data := .fields #[.ref d, .int 0 0, .int es.size 0, .int ep 0] } }) : wpAny (model P w) A (pyIter (.ref v)) Q E s := by
 obtain ⟨vo, v1, v2, v3⟩ := id hv;obtain ⟨b, b1, b2, b3⟩ := hm;refine sy4 hv.typeIs F.slot_dict_values_iter (dy3 F.slot_dict_values_iter hv.typeIs F.entry_dict_values_iter ?_ (F.args_dict_values_iter_1 _));unfold Builtin.«dict_values.__iter__»;refine ay0 (ay2 (ay0 ?_));unfold Builtin.Dict_items.dictOf;refine ay0 (jy5 v1 v3 (x := .ref d) rfl (ay2 (ay0 ?_)));unfold Builtin.Dict_items.newIterator;refine ay0 (ky4 b1 b3 (ay0 (oy0 b1 b3 ?_)));have own : gy6 "dict_valueiterator" = false := by decide
 simp only [own, iy3, if_false];refine dy8 (ay2 ⟨_, rfl, "dict_valueiterator", _, ⟨_, ay7 _ rfl, rfl⟩, ky6.lookup, ?_⟩);simpa [rawInt] using hQ
end
def zi7 (v d : Addr) : HO := .ext fun h => h.IsValuesView v d
def ItV (d : Addr) (o : Obj) : It := ⟨fun i H => ∃ vs, H d = some (.frz o (.dT vs)) /\ i < vs.length, fun i H x H' => H' = H /\ ∀ vs, H d = some (.frz o (.dT vs)) -> ∃ p, vs[i]? = some p /\ x = p.2, fun i H => ∃ vs, H d = some (.frz o (.dT vs)) /\ vs.length <= i⟩
theorem zk2 {P : cy8} {w : World} {H : Hp} {h : Heap} {d : Addr} {o : Obj} {vs : List (List Key × V)} (x : zb6 P w H h d (.frz o (.dT vs))) : h.get? d = some o /\ (d == ly9) = false /\ ∃ es ep, o.ExactDict /\ o.data = .dict es ep /\ es.size = vs.length /\ ∀ (i : Nat) p, vs[i]? = some p -> ∃ en, es[i]? = some en /\ RelV p.2 en.val := by
 obtain ⟨hg, _, hs, xs, pr, o', es, ep, h1, h2, h3, h4, h5⟩ := x;rw [hg] at h1;cases h1;refine ⟨hg, hs, es, ep, h2, h3, by rw [size_of_entries h4, pr.length], fun i p hp => ?_⟩;obtain ⟨q, hq, _, _, e3⟩ := zh3 pr hp;exact ⟨_, by rw [entry_at h4, hq]; rfl, e3⟩
theorem za63 {P : cy8} {w : World} {K : ay5} {tg : Expr} {d : Addr} {o : Obj} {es : Array my5} {ep : Nat} (it : Addr) (hd : o.data = .dict es ep) :
  Turn P w K tg (ItV d o) [it] it (fun i h => h.IsValIter it d i es.size ep) where
 mem := by simp
 obj := fun i h st b hb => by
  have e : b = it := by simpa using hb
  subst e;obtain ⟨o, e, c, d⟩ := st;exact ⟨o, e, fun v z => by rw [d] at z; cases z⟩
 keep := fun i h h' st k => by
  obtain ⟨o, e, r⟩ := st;exact ⟨o, k it (by simp) o e, r⟩
 item := by
  intro X hP hw hK hcm i pins s σ H E I hf st hg;subst hP hw hK;obtain ⟨f0, f1, f2, f3, f4, f5⟩ := hf it (by simp);obtain ⟨vs, hu, hi⟩ := hg;obtain ⟨hget, hs, es', ep', g1, g2, g3, g4⟩ := zk2 (show zb6 X.prog X.w H s.heap d (.frz o (.dT vs)) from I.hok d _ hu);rw [hd] at g2;cases g2;obtain ⟨en, hen, rv⟩ := g4 i vs[i] (by5 hi);refine zC3 st ⟨o, hget, g1, hd⟩ hen fun h' hit' hs' => ?_;have I1 : Inv X pins σ H { s with heap := h' } := I.turned (t' := s.toks) (fun b o hb e => hs'.extBut b o hb e) f0 f1 f3 f4 f5;obtain ⟨o', e, c, dd⟩ := id hit'
  exact ⟨_, rfl, zJ4 (s := { s with heap := h' }) e c dd (by decide) ⟨vs[i].2, H, I1, rv, ⟨rfl, fun vs' hv' => by
   rw [hu] at hv';cases hv'
   exact ⟨_, by5 hi, rfl⟩⟩, hit', fun b hb => (hf b hb).1⟩⟩
 done := by
  intro X hP hw hK hcm i pins s σ H E I hf st hg;subst hP hw hK;obtain ⟨f0, f1, f2, f3, f4, f5⟩ := hf it (by simp);obtain ⟨vs, hu, hi⟩ := hg;obtain ⟨hget, hs, es', ep', g1, g2, g3, g4⟩ := zk2 (show zb6 X.prog X.w H s.heap d (.frz o (.dT vs)) from I.hok d _ hu);rw [hd] at g2;cases g2;exact zL8 (I.ok.hd hcm) st ⟨o, hget, g1, hd⟩ (by omega) fun h' eb => ⟨rfl, I.turned (t' := s.toks) (fun b o hb e => eb b o hb e) f0 f1 f3 f4 f5⟩
 self := fun _ _ _ _ _ st h => wpAny_pyIter_valiter st h
section
variable {X : Cx} {tg : Expr}
theorem zc76 {o : Expr} {to : TE} {apos cpos : Pos} (ho : PE X o to) (hbase : oy9 o "values" X.env (eval o X.env) = eval o X.env := by rfl) (hline : (apos.endLine == cpos.line) = true := by rfl) :
  PE X (.Call (.Attribute o "values" apos) [] [] cpos) (fun σ H Q => to σ H fun x H1 => ∃ d ob vs, x = .ref d /\ H1 d = some (.frz ob (.dT vs)) /\ ∀ v, H1 v = none -> Q (.ref v) (upd H1 v (zi7 v d))) := by
 intro pins s σ H Q I h;refine wpAny_Call_method0_late hbase hline (thn (ho pins s σ H _ I h) fun v s1 ⟨x, H1, I1, r1, d, ob, vs, hx, hd, q⟩ => ?_);subst hx;cases r1;obtain ⟨hget, hs, es, ep, g1, g2, _⟩ := zk2 (show zb6 X.prog X.w H1 s1.heap d (.frz ob (.dT vs)) from I1.hok d _ hd);have ty : s1.TypeIs (.ref d) "dict" := ⟨ob, hget, g1.1⟩
 refine ⟨"dict", "dict.values", iy6, sy9, PySem.F.type_dict_values, ty, fun a e => by cases e; exact ⟨ob, hget, g1.2.1⟩, uy1 rfl (PySem.evalArgs_none ?_)⟩;refine dy3 sy9 ty PySem.F.entry_dict_values ?_ (PySem.F.args_dict_values_1 _);refine ay0 ?_;unfold Builtin.Dict.noArgs;refine ay0 (ny7 ty ?_);show wpAny _ _ (pure d) _ _ s1;refine ay2 ?_;show wpAny _ _ (jy8 d >>= _) _ _ s1;unfold Builtin.Dict.showsAll;rw [if_neg (by rw [hs]; exact by9)];refine ay0 (ay2 (ay0 (dy8 (ay2 ⟨_, rfl, ?_⟩))));refine ⟨.ref s1.heap.objs.size, _, I1.laid (t' := s1.toks) (o := zi7 s1.heap.objs.size d) (fun b u q => ay1 _ q) (ay6 _) ?_, rfl, q _ (I1.hok.fresh (ay6 _))⟩;exact ⟨⟨_, ay7 _ rfl, rfl, rfl⟩, ⟨_, ay7 _ rfl⟩, fun h1 h2 ⟨o, a, b, c⟩ k => ⟨o, k o a, b, c⟩⟩
theorem zc77 {l : Expr} {tl : TE} (hl : PE X l tl) : PI X tg l (fun σ H R => tl σ H fun v H1 => ∃ vw d o vs, v = .ref vw /\ H1 vw = some (zi7 vw d) /\ H1 d = some (.frz o (.dT vs)) /\ R (ItV d o) H1) := by
 intro pins s σ H R I h;refine thn (hl pins s σ H _ I h) fun v s1 zR => ?_;obtain ⟨y, H1, I1, r1, vw, d, o, vs, hy, hv, hd, q⟩ := zR;subst hy;cases r1;obtain ⟨hvw, _, _⟩ := (show zb6 X.prog X.w H1 s1.heap vw (zi7 vw d) from I1.hok vw _ hv)
 obtain ⟨hget, hs, es, ep, g1, g2, _⟩ := zk2 (show zb6 X.prog X.w H1 s1.heap d (.frz o (.dT vs)) from I1.hok d _ hd);refine zC4 hvw ⟨o, hget, g1, g2⟩ ?_;refine ⟨s1.heap.objs.size, [s1.heap.objs.size], _, _, H1, rfl, I1.kept (t' := s1.toks) fun b o e => ay1 _ e, za63 _ g2, ⟨_, ay7 _ rfl, rfl, rfl⟩, fun b hb => ?_, q⟩;have e : b = s1.heap.objs.size := by simpa using hb
 subst e;exact I1.zY5 (ay6 _) (I1.hok.fresh (ay6 _))
end
section
variable {X : Bc} {S : Sl} {W : Wl} {k : KB}
theorem zc78 {tg o : Expr} {apos cpos : Pos} {ki : Nat -> (Wl -> Prop) -> List PyData -> Wl -> Prop} (h : BE X S W o fun y W1 => ∃ (j : Nat) (ob : Obj) (L : List (List Key × PyData)), y = .o j /\ W1[j]? = some (.fT ob (L.map fun e => (e.1, El.d e.2))) /\ ki (j + 1) (fun W' => W'[j]? = some (.fT ob (L.map fun e => (e.1, El.d e.2)))) (L.map (·.2)) W1)
  (hbase : oy9 o "values" X.env (eval o X.env) = eval o X.env := by rfl) (hline : (apos.endLine == cpos.line) = true := by rfl) : BI X S W tg (.Call (.Attribute o "values" apos) [] [] cpos) ki := fun F A σ H R x0 r sr q =>
 ⟨_, zc77 (zc76 zh8 hbase hline), h.use x0 r sr fun F1 A1 W1 H1 y vy e1 r1 z1 zR => by
  obtain ⟨j, ob, L, hy, hj, h1⟩ := zR;subst hy;obtain ⟨a, ha, rfl⟩ := z1;have hja : j < A1.length := (ay3.mp ha).1
  have ha' : ∀ {F' A'}, Ex1 (j + 1) F1 A1 F' A' -> A'[j]? = some a := fun {F' A'} x => by
   have e := zm1 x.pre (by omega);have := congrArg (fun l => l[j]?) e;simp only [gy2 (my3 j)] at this;rw [this]; exact ha
  obtain ⟨u0, e0, vs0, ⟨rfl, ki0⟩, p0⟩ := r1.obj j a _ ha hj;refine ⟨a, ob, vs0, rfl, e0, fun v hv => ⟨v, a, ob, vs0, rfl, zb3, by rw [za5 (za3 e0 hv)]; exact e0, ?_⟩⟩;have r2 : RW X.K F1 A1 W1 (upd H1 v (zi7 v a)) := r1.grown (zj2 hv)
  have key : ∀ {F' A' W' H'}, Ex1 (j + 1) F1 A1 F' A' -> RW X.K F' A' W' H' -> W'[j]? = some (.fT ob (L.map fun e => (e.1, El.d e.2))) -> ∃ vs, H' a = some (.frz ob (.dT vs)) /\ Paired (fun p q => p.1 = q.1 /\ ElR X.K F' A' p.2 q.2) (L.map fun e => (e.1, El.d e.2)) vs := fun x r' hG => by
   obtain ⟨u, e, vs, ⟨rfl, _⟩, p⟩ := r'.obj j a _ (ha' x) hG;exact ⟨vs, e, p⟩
  refine q (j + 1) _ F1 A1 W1 _ _ _ e1 r2 hja ⟨fun i F' A' W' H' hi x r' hG => ?_, fun i F' A' W' H' y H'' hi x r' hG hy => ?_, fun F' A' W' H' x r' hG => ?_⟩ h1
  ·obtain ⟨vs, e, p⟩ := key x r' hG;refine ⟨vs, e, ?_⟩;have := zb1 p;rw [ay4] at this hi;omega
  ·obtain ⟨vs, e, p⟩ := key x r' hG;obtain ⟨e', hy⟩ := hy;obtain ⟨pp, hp, rfl⟩ := hy vs e;obtain ⟨b, hb, zb⟩ := ze2 p hp;rw [by3] at hb;obtain ⟨l, hl, rfl⟩ := gy4.mp hb;exact ⟨e', l.2, by rw [by3, hl]; rfl, zb.2⟩
  ·obtain ⟨vs, e, p⟩ := key x r' hG;refine ⟨vs, e, ?_⟩;have := zb1 p;rw [ay4] at this ⊢
   omega⟩
end
section
variable {P : cy8} {w : World} {A : Around} {E : Value -> Shared -> Prop} {s : Shared} {d : Addr} {ep : Nat} {es : Array my5}
theorem zb62 {S I : Addr} {R : Result -> Shared -> Prop} (hh : A.handled = none) (hSI : S ≠ I) (hSd : d ≠ S) (hId : d ≠ I) (hn : es.size <= by2) (res : Value) {h1 : Heap}
  (hR : ∀ h' tk c, (∀ b o, b ≠ S -> b ≠ I -> h1.get? b = some o -> h'.get? b = some o) -> h'.get? S = some (zp4 (es.toList.map (·.key)).toArray c) -> R (.ok (.ret res)) { s with heap := h', toks := tk }) :
  ∀ (k i : Nat) (h : Heap) (tk c : Nat), i + k = es.size -> h.IsKeyIter I d i es.size ep -> zH6 h d es ep -> (∀ b o, b ≠ S -> b ≠ I -> h1.get? b = some o -> h.get? b = some o) ->
   h.get? S = some (zp4 ((es.toList.take i).map (·.key)).toArray c) -> ly4 (model P w) A (.builtin "list.extend.loop" ⟨[.ref S, .ref I, res], []⟩) R { s with heap := h, toks := tk } := by
 intro k
 induction k with
 | zero =>
  intro i h tk c hk hst hD hkeep hS;refine hy1 PySem.F.entry_extend_loop ?_;rw [fy1 iy9 _];show wpAny _ A.in1 (pyNext (.ref I) >>= _) _ _ _;refine ay0 (za48 (s := { s with heap := h, toks := tk }) (A := A.in1) hh hst hD (by omega) fun h' he => ?_);rw [my7 (by rw [iy4]; omega)] at hS;exact ay2 (hR h' tk c (fun b o z1 z2 e => he b o z2 (hkeep b o z1 z2 e)) (he S _ hSI hS))
 | succ k ih =>
  intro i h tk c hk hst hD hkeep hS;have hlt : i < es.size := by omega
  obtain ⟨en, hx⟩ : ∃ p, es[i]? = some p := ⟨es[i], ry3 hlt⟩
  refine hy1 PySem.F.entry_extend_loop ?_;rw [fy1 iy9 _];show wpAny _ A.in1 (pyNext (.ref I) >>= _) _ _ _;refine ay0 (zP4 (s := { s with heap := h, toks := tk }) hst hD hx fun h' hst' hs' => ?_);have hkp : ∀ b o, b ≠ I -> h.get? b = some o -> h'.get? b = some o := fun b o hb e => hs'.extBut b o hb e;have hS' := hkp S _ hSI hS;have up : ∀ b o, b ≠ S -> h'.get? b = some o -> (h'.update S (hy9 (·.push en.key))).get? b = some o := fun b o hb e => (dy0 _ _ (fy4 hb)).trans e;show wpAny _ A.in1 (updateSeq S (·.push en.key) >>= _) _ _ _;refine ay0 ?_;have hsz : (((es.toList.take i).map (·.key)).toArray).size = i := by simp; omega
  obtain ⟨c', eS⟩ : ∃ c', (h'.update S (hy9 (·.push en.key))).get? S = some (zp4 ((es.toList.take (i + 1)).map (·.key)).toArray c') := ⟨_, by
   have := get?_update_seq (n := c) (c := "list") (xs := ((es.toList.take i).map (·.key)).toArray) hS' (fun x => x.push en.key)
   rw [show ((es.toList.take (i + 1)).map (·.key)).toArray = (((es.toList.take i).map (·.key)).toArray).push en.key by
    rw [ey8, jy6, hx]
    simp]
   exact this⟩
  refine qy0 hS' rfl (ay2 ⟨iy5 iy9 _, ih (i + 1) _ tk c' (by omega) ?_ (hD.move fun o e => up d o hSd (hkp d o hId e)) (fun b o z1 z2 e => up b o z1 (hkp b o z2 (hkeep b o z1 z2 e))) eS⟩) (by rw [hsz]; omega) (by rw [Array.size_push, hsz]; omega);obtain ⟨oi, e1, e2⟩ := hst';exact ⟨oi, up I oi (fy4 hSI) e1, e2⟩
theorem zL9 {R : List Value -> Shared -> Prop} (hh : A.handled = none) (hsm : (d == ly9) = false) (hm : zH6 s.heap d es ep) (hn : es.size <= by2)
  (h : ∀ (h' : Heap) (tk : Nat), (∀ b o, s.heap.get? b = some o -> h'.get? b = some o) -> R (es.toList.map (·.key)) { s with heap := h', toks := tk }) :
  wpAny (model P w) A (collect (.ref d)) R E s := by
 obtain ⟨od, d1, d2, d3⟩ := id hm;have hd : d < s.heap.objs.size := by1 d1;unfold collect;refine ay0 (wpAny_runValue (hy1 entry_proto_collect' ?_));rw [fy1 PySem.F.plain_proto_collect _];show wpAny _ A.in1 (newList [] >>= fun l => again (.builtin "list.__iadd__" ⟨[l, .ref d], []⟩)) _ _ s;refine ay0 (dy8 ?_);refine ay2 ⟨iy5 ty3 _, hy1 entry_list_iadd' ?_⟩;rw [fy1 ty3 _];have hS1 : (s.heap.push { cls := .type "list", data := .seq ([] : List Value).toArray }).get? s.heap.objs.size = some (zp4 #[] 0) := ay7 _ rfl;show wpAny _ A.in1 (jy7 (.ref s.heap.objs.size) (.ref d) (.ref s.heap.objs.size)) _ _ _;generalize hs0 : ({ s with heap := s.heap.push { cls := .type "list", data := .seq ([] : List Value).toArray } } : Shared) = s0;have hh0 : s0.heap = s.heap.push { cls := .type "list", data := .seq ([] : List Value).toArray } := by rw [<- hs0]
 have hm0 : zH6 s0.heap d es ep := hm.move fun o e => by rw [hh0]; exact ay1 _ e
 have ty : s0.TypeIs (.ref d) "dict" := ⟨od, by rw [hh0]; exact ay1 _ d1, d2.1⟩
 have key : ∀ (h : Heap) (c1 tk : Nat), (∀ b o, b ≠ s.heap.objs.size -> (s0.heap.push { cls := .type "dict_keyiterator", data := .fields #[.ref d, .int 0 0, .int es.size 0, .int ep 0] }).get? b = some o -> h.get? b = some o) ->
   h.get? s.heap.objs.size = some (zp4 #[] c1) -> ly4 (model P w) A (.builtin "list.extend.loop" ⟨[.ref s.heap.objs.size, .ref s0.heap.objs.size, .ref s.heap.objs.size], []⟩)
    (fun (q : Result) (s' : Shared) => ∃ (h' : Heap) (tk : Nat) (c' : Nat), q = .ok (.ret (.ref s.heap.objs.size)) /\ s' = { s with heap := h', toks := tk } /\ (∀ b o, s.heap.get? b = some o -> h'.get? b = some o) /\ h'.get? s.heap.objs.size = some (zp4 (es.toList.map (·.key)).toArray c')) { s with heap := h, toks := tk } := by
  intro h c1 tk hk hS1;have hz : s0.heap.objs.size = s.heap.objs.size + 1 := by rw [hh0, ny3]
  have hI := hk s0.heap.objs.size _ (by omega) (ay7 _ rfl);have hSI : s.heap.objs.size ≠ s0.heap.objs.size := by omega
  have hdI : d ≠ s0.heap.objs.size := by6 (by8 hd (by rw [hz]; exact ry1 _))
  exact zb62 (s := s) (h1 := s.heap) hh hSI (by6 hd) hdI hn _ (fun h' tk' c hk' hS' => ⟨h', tk', c, rfl, rfl, fun b o e => hk' b o (by6 (by1 e)) (by6 (by8 (by1 e) (by rw [hz]; exact ry1 _))) e, hS'⟩)
   es.size 0 h tk c1 (by omega) ⟨_, hI, rfl, rfl⟩ (hm.move fun o e => hk d o (by6 hd) (ay1 _ (by rw [hh0]; exact ay1 _ e))) (fun b o hb _ e => hk b o hb (ay1 _ (by rw [hh0]; exact ay1 _ e))) (by simpa using hS1)
 have hS0 : s0.heap.get? s.heap.objs.size = some (zp4 #[] 0) := by rw [hh0]; exact hS1
 have ext : wpAny (model P w) A.in1 (jy7 (.ref s.heap.objs.size) (.ref d) (.ref s.heap.objs.size))
   (fun fin s' => match fin with | .done f => ∃ (h' : Heap) (tk : Nat) (c' : Nat), f = .ret (.ref s.heap.objs.size) /\ s' = { s with heap := h', toks := tk } /\ (∀ b o, s.heap.get? b = some o -> h'.get? b = some o) /\ h'.get? s.heap.objs.size = some (zp4 (es.toList.map (·.key)).toArray c') | .again c' => c'.quiet = true /\ ly4 (model P w) A c' (fun (q : Result) (s' : Shared) => ∃ (h' : Heap) (tk : Nat) (c' : Nat), q = .ok (.ret (.ref s.heap.objs.size)) /\ s' = { s with heap := h', toks := tk } /\ (∀ b o, s.heap.get? b = some o -> h'.get? b = some o) /\ h'.get? s.heap.objs.size = some (zp4 (es.toList.map (·.key)).toArray c')) s') (fun _ _ => False) s0 := by
  unfold Builtin.List.listExtendWith;refine ay0 (py2 (T := "dict") ty ?_);have g1 : sy5 (.ref s.heap.objs.size) (.ref d) = false := by simp [sy5, ky5 hd]
  have g2 : (qy3 "dict" == qy3 "list") = false := by decide
  have g3 : (qy3 "dict" == qy3 "tuple") = false := by decide
  simp only [g1, g2, g3, Bool.or_false, iy3, if_false];refine ay0 (zP5 hsm hm0 ?_);have hS2 := ay1 { cls := .type "dict_keyiterator", data := .fields #[.ref d, .int 0 0, .int es.size 0, .int ep 0] } hS0;have es0 : ∀ (h : Heap), ({ s0 with heap := h } : Shared) = { s with heap := h, toks := s0.toks } := fun h => by rw [<- hs0]
  refine ay0 (ey5 (kdl_hint_dict (let ⟨o, ho, hc⟩ := ty; ⟨o, ay1 _ ho, hc⟩) ?_));refine py9 (fun _ => ?_) (fun _ => ay2 ⟨iy5 iy9 _, by rw [es0]; exact key _ 0 _ (fun b o _ e => e) hS2⟩);refine ay0 (my9 (ay0 ?_));show wpAny _ _ (updateSeq s.heap.objs.size (·.push .none) >>= fun _ => updateSeq s.heap.objs.size (·.pop)) _ _ _;refine ay0 (qy0 hS2 rfl ?_);have hS3 := fy8 (hy9 (·.push dy4)) hS2 rfl;refine qy0 (hz := by seq_fits) hS3 rfl ?_;have hS4 := fy8 (hy9 (·.pop)) hS3 rfl;refine ay2 ⟨iy5 iy9 _, ?_⟩;have := key _ _ s0.toks (fun b o hb e => (dy0 _ _ (fy4 hb)).trans ((dy0 _ _ (fy4 hb)).trans e)) hS4;rw [<- es0] at this;exact this
 refine fy9 ext (fun f s' x => ?_) fun e s' x => x.elim;cases f with
 | done f =>
  obtain ⟨h', tk, c', e, rfl, hk, hS'⟩ := x;cases e;show wpAny _ A (load s.heap.objs.size >>= _) _ _ _;refine ay0 (wpAny_load hS' (ay2 ?_));simpa using h h' tk hk
 | again c1 =>
  refine ⟨x.1, uy6 x.2 fun q s2 y => ?_⟩;obtain ⟨h', tk, c', rfl, rfl, hk, hS'⟩ := y;show wpAny _ A (load s.heap.objs.size >>= _) _ _ _;refine ay0 (wpAny_load hS' (ay2 ?_));simpa using h h' tk hk
end
section
variable {X : Cx}
theorem zC5 (hc : X.calm = true) : zj0 X (.builtin "sorted") fun xs H Q => ∃ (d : Addr) (kvs : List (List Key × V)) (ps : List (Str × Str)), xs = [.ref d] /\ H d = some (.dT kvs) /\ kvs.map (·.1) = ps.map (fun p => [.inr p.1, .inr p.2]) /\ ps.Nodup /\ ps.length < 64 /\
  ∀ (l : Addr) (bs : List Addr) (q : List Nat), H l = none -> bs.length = ps.length -> (∀ (j : Nat) b p, bs[j]? = some b -> ps[j]? = some p -> H b = some (.tup ([xy5 p.1, xy5 p.2].map kV))) -> q.Perm (ky2 ps.length) -> q.Pairwise (fun i j => ltQ (ps.getD i default) (ps.getD j default) = true) -> Q (.ref l) (upd H l (.lst (q.map fun i => V.ref (bs.getD i 0)))) := by
 intro pins s σ H xs us Q I r ⟨d, kvs, ps, e, hd, hks, nd, h64, q⟩;subst e;obtain ⟨u, rfl, rx⟩ := vals1 r;cases rx;obtain ⟨hz, hs, xs, pr, o, es, ep, g1, g2, g3, g4, g5⟩ := I.hok d _ hd;have hkl : kvs.length = ps.length := by have := congrArg xy6 hks; simpa using this
 have hxl : xs.length = ps.length := by rw [<- pr.length, hkl]
 have hel : es.size = ps.length := by rw [size_of_entries g4, hxl]
 generalize hbs : xs.map (fun x => x.2.1) = bs;have hbl : bs.length = ps.length := by rw [<- hbs, ay4, hxl]
 have hkey : es.toList.map (·.key) = bs.map cy7 := by rw [g4, <- hbs, ey9, ey9]; rfl
 have tup : ∀ (j : Nat) b p, bs[j]? = some b -> ps[j]? = some p -> H b = some (.tup ([xy5 p.1, xy5 p.2].map kV)) := fun j b p hb hp => by
  rw [<- hbs, by3] at hb;obtain ⟨x, hx, rfl⟩ := gy4.mp hb;obtain ⟨kv, hkv, z1, z2, z3⟩ := ze2 pr hx;have : (kvs.map (·.1))[j]? = some kv.1 := by rw [by3, hkv]; rfl
  rw [hks, by3, hp] at this;rw [<- (jy2 this)] at z2;exact z2
 have at2 : ∀ i, i < ps.length -> ∃ b, (bs.map cy7).getD i dy4 = .ref b /\ IsT2 s.heap b (ps.getD i default) := fun i hi => by
  have hib : i < bs.length := by omega
  have hp : ps[i]? = some ps[i] := by5 hi;have z2 := tup i bs[i] ps[i] (by5 hib) hp;refine ⟨bs[i], by simp [ly8, hib], ?_⟩;rw [show ps.getD i default = ps[i] by simp [ly8, hi]];obtain ⟨ws, rw', ⟨o, g1, g2, n, g3⟩, _⟩ := I.tuple (SqT.of z2)
  obtain ⟨w1, w2, rfl, ⟨t1, rfl⟩, ⟨t2, rfl⟩⟩ : ∃ w1 w2, ws = [w1, w2] /\ RelV (.str ps[i].1) w1 /\ RelV (.str ps[i].2) w2 := by
   cases rw' with
   | cons a t => cases t with
    | cons b t => cases t; exact ⟨_, _, rfl, a, b⟩
  exact ⟨o, n, t1, t2, g1, g2, g3⟩
 refine Calls.call_function_entry kind_sorted plain_sorted entry_sorted (args_sorted1 _) ?_;unfold Builtin.«sorted»;refine ay0 (m := checkCount "sorted" 1 1 _) (ay2 ?_);refine ay0 (zL9 (A := X.A.in1) (by simpa using I.ok.hd hc) hs ⟨o, g1, g2, g3⟩ (by rw [hel, my8]; omega) fun h' tk k => ?_);rw [hkey];have hvl : (bs.map cy7).length = ps.length := by rw [ay4, hbl]
 refine ay0 (wpAny_newList ?_ (by rw [hvl, my8]; omega));have hL : (h'.push (seqObj "list" (bs.map cy7).toArray 0)).get? h'.objs.size = some (seqObj "list" (bs.map cy7).toArray 0) := ay7 _ rfl;have mv : ∀ (h2 : Heap), (∀ b o, b ≠ h'.objs.size -> (h'.push (seqObj "list" (bs.map cy7).toArray 0)).get? b = some o -> h2.get? b = some o) -> ∀ {b p}, IsT2 s.heap b p -> IsT2 h2 b p := fun h2 kp {b p} x => x.move fun o z => kp _ _ (by6 (by1 (k _ _ z))) (ay1 _ (k _ _ z));have O := zc73 nd;rw [<- hvl] at O;refine ay0 (ey5 (dy3 slot_list_sort ⟨_, hL, rfl⟩ entry_list_sort (zy4 (κ := tuples' true) O hL (by rw [hvl]; exact h64) (fun h2 s' Q' kp hQ => ?_) (fun h2 s' i j C kp hi hj hij hC => ?_) fun qq q1 q2 => ⟨_, rfl, ?_⟩) (args_list_sort _)))
 ·obtain ⟨fs, k1, k2, k3⟩ : ∃ fs, KatTups s'.heap (bs.map cy7) fs /\ fs.length = (bs.map cy7).length /\ ∀ v ∈ fs, ∃ x t, v = .str x t := by
   have : ∀ (l : List Value), (∀ v ∈ l, ∃ b p, v = .ref b /\ IsT2 s'.heap b p) -> ∃ fs, KatTups s'.heap l fs /\ fs.length = l.length /\ ∀ v ∈ fs, ∃ x t, v = .str x t := by
    intro l
    induction l with
    | nil => intro _; exact ⟨[], .nil, rfl, fun v hv => absurd hv (by simp)⟩
    | cons a l ih =>
     intro h;obtain ⟨b, p, rfl, o, n, t, u, e1, e2, e3⟩ := h a ay9;obtain ⟨fs, f1, f2, f3⟩ := ih fun a ha => h a (by0 _ ha);refine ⟨.str p.1 t :: fs, .cons e1 e2 e3 rfl f1, by simp [f2], fun v hv => ?_⟩;rcases by7.mp hv with rfl | hv
     ·exact ⟨_, _, rfl⟩
     ·exact f3 v hv
   refine this _ fun v hv' => ?_;obtain ⟨i, hi, rfl⟩ := wy0.mp hv';obtain ⟨b, e1, e2⟩ := at2 i (by omega);refine ⟨b, _, ?_, mv s'.heap kp e2⟩;have hib : i < bs.length := by simpa using hi
   simpa [ly8, hib] using e1
  refine kat_kind (T := .type "str") k1 (by omega) (fun v hv' => ?_) (by decide) hQ;obtain ⟨x, t, rfl⟩ := k3 v hv';exact fun A Q E s _ q => py2 rfl q
 ·rw [hvl] at hi hj;obtain ⟨b1, e1, x1⟩ := at2 i hi;obtain ⟨b2, e2, x2⟩ := at2 j hj;obtain ⟨o1, m1, t1, u1, f1, c1, d1⟩ := mv s'.heap kp x1;obtain ⟨o2, m2, t2, u2, f2, c2, d2⟩ := mv s'.heap kp x2;unfold kas_ask;rw [e1, e2];refine kat_lt f1 d1 f2 d2 ?_;show KatLex _ _ _ _ _ _ [(.str (ps.getD i default).1 t1, .str (ps.getD j default).1 t2), (.str (ps.getD i default).2 u1, .str (ps.getD j default).2 u2)] 0 s';refine zc74 (fun z => hij ?_) hC;have e : ∀ k (hk : k < ps.length), ps.getD k default = ps[k] := fun k hk => by simp [ly8, hk]
  have z' : ps.getD i default = ps.getD j default := z;rw [e i hi, e j hj] at z';exact (jy9 nd).mp z'
 ·rw [hvl] at q1;obtain ⟨e, he⟩ := sortedHeap_at (out := (qq.map fun i => (bs.map cy7).getD i dy4).toArray) hL
  have hn : s.heap.get? h'.objs.size = none := by
   cases z : s.heap.get? h'.objs.size with
   | none => rfl
   | some o' => exact absurd (by1 (k _ _ z)) (ny2 _)
  have hvq : Vals (qq.map fun i => V.ref (bs.getD i 0)) (qq.map fun i => (bs.map cy7).getD i dy4) := by
   have : ∀ l : List Nat, (∀ i ∈ l, i < bs.length) -> Vals (l.map fun i => V.ref (bs.getD i 0)) (l.map fun i => (bs.map cy7).getD i dy4) := by
    intro l
    induction l with
    | nil => intro _; exact .nil
    | cons i l ih =>
     intro hl;have hi := hl i ay9;refine .cons ?_ (ih fun j hj => hl j (by0 _ hj));show (bs.map cy7).getD i dy4 = cy7 (bs.getD i 0);simp [ly8, hi]
   exact this qq fun i hi => by
    have := q1.mem_iff.mp hi;rw [hbl];simpa using this
  obtain ⟨hH, I'⟩ := I.ze69 (a := h'.objs.size) (o := .lst (qq.map fun i => V.ref (bs.getD i 0))) (h' := sortedHeap (h'.push (seqObj "list" (bs.map cy7).toArray 0)) h'.objs.size (bs.map cy7) (qq.map fun i => (bs.map cy7).getD i dy4).toArray) (t' := tk) (fun b o' z => by
   have hb := by1 (k _ _ z);rw [sortedHeap_old (by6 hb) (by rw [size_push']; exact ny0 hb)]
   exact ay1 _ (k _ _ z)) hn (show zb6 X.prog X.w _ _ _ (.lst (qq.map fun i => V.ref (bs.getD i 0))) from ⟨by rw [ay4, q1.length_eq, List.length_range, my8]; omega, _, e, hvq, by simpa [seqObj] using he⟩)
  exact ay2 ⟨_, rfl, .ref h'.objs.size, _, I', rfl, q _ bs qq hH hbl tup q1 q2⟩
end
section
variable {X : Bc} {W : Wl} {k : KB}
theorem zM0 {j : Nat} {kvs : List (List Key × El)} {ps : List (Str × Str)} (hc : X.calm = true) (hj : W[j]? = some (.dT kvs)) (hk : kvs.map (·.1) = ps.map fun p => [.inr p.1, .inr p.2]) (nd : ps.Nodup) (h64 : ps.length < 64)
  (h : ∀ ps' : List (Str × Str), ps'.Perm ps -> ps'.Pairwise (fun a b => ltQ a b = true) -> k (.o W.length) (W ++ [.lst (zb2 (ps'.map fun p => tupK [.inr p.1, .inr p.2]))])) : CB X (.builtin "sorted") [.o j] W k := .of (zC5 hc) fun F A H Q vs r zs q => by
 obtain ⟨v, rfl, a, ha, rfl⟩ := zg5 zs;obtain ⟨u, e, ws, rfl, p⟩ := r.obj j a _ ha hj
 have hkeys : ws.map (·.1) = kvs.map (·.1) := by
  clear e hj hk h
  induction p with
  | nil => rfl
  | cons a _ ih => simp [ih, a.1]
 refine ⟨a, ws, ps, rfl, e, hkeys.trans hk, nd, h64, fun l bs qq hl hbl tup q1 q2 => ?_⟩;have hql : ∀ i ∈ qq, i < ps.length := fun i hi => by have := q1.mem_iff.mp hi; simpa using this
 obtain ⟨F2, sF, eF, r2⟩ := r.zL4 ((ky2 ps.length).map fun i => (bs.getD i 0, [xy5 (ps.getD i default).1, xy5 (ps.getD i default).2].map kV)) fun pp hpp => by
  obtain ⟨i, hi, rfl⟩ := cy4.mp hpp;have hi : i < ps.length := by simpa using hi
  have hib : i < bs.length := by omega
  refine tup i _ _ ?_ ?_
  ·simp [ly8, hib]
  ·simp [ly8, hi]
 have ext : Ext F A F2 A := ⟨sF, ty7 _⟩
 refine (q.ext ext).zN9 r2 hl (o := .lst (zb2 ((qq.map fun i => ps.getD i default).map fun p => tupK [.inr p.1, .inr p.2]))) ⟨_, rfl, zf3 ?_⟩ (h _ (zy5 q1) (by
  rw [List.pairwise_map]
  exact q2))
 have : ∀ l : List Nat, (∀ i ∈ l, i < ps.length) -> Paired (fun d v => Rq X.K F2 v d) ((l.map fun i => ps.getD i default).map fun p => tupK [.inr p.1, .inr p.2]) (l.map fun i => V.ref (bs.getD i 0)) := by
  intro l
  induction l with
  | nil => intro _; exact .nil
  | cons i l ih =>
   intro hl';have hi := hl' i ay9;refine .cons ?_ (ih fun j hj => hl' j (by0 _ hj));exact Rq.tup (SqT.of (eF _ (cy4.mpr ⟨i, by simpa using hi, rfl⟩))) (Rqs.of zB0)
 exact this qq hql
theorem zc79 {ds : List PyData} {lo hi : Option Int} {ks : List Key} (hk : zm7 ds lo hi = ks.map zD8) (hl : ks.length < ds.length) (h : k (.p ks) W) : LB X (.d (.tuple ds)) lo hi W k := .of zb99 fun F A H Q vx r zx q => by
 obtain ⟨a, vs, rfl, hs, z⟩ := Rq.zg3 zx;refine ⟨a, vs, rfl, r.sub.zr7 hs, fun hw => ?_, fun p hp => ?_⟩
 ·have h1 := congrArg xy6 hk;rw [ay4] at h1;unfold zm7 at h1;rw [zb1 z, hw.1, hw.2] at h1;simp at h1;have := zb1 z;omega
 ·have z' := zF6 z lo hi;rw [hk] at z'
  have ev : zJ6 vs lo hi = ks.map kV := by
   have : ∀ {ks : List Key} {vs : List V}, Paired (fun d v => Rq X.K F v d) (ks.map zD8) vs -> vs = ks.map kV := by
    intro ks
    induction ks with
    | nil => intro vs h; cases h; rfl
    | cons a ks ih =>
     intro vs h;cases h with
     | cons x t =>
      rw [ih t, ey6]
      congr 1
      cases a with
      | inl i => exact Rq.zd7 x
      | inr y => exact Rq.zf2 x
   exact this z'
  rw [ev];obtain ⟨r', x⟩ := r.newF hp (.tup (ks.map kV));exact q _ _ _ _ (.p ks) _ x r' ⟨p, rfl, zb3⟩ h
end
end L2
namespace K1
open PySem L2
def top (i : Nat) : Stmt := PySem.Challenge.pw_talehands_k14_least_rows.main.body.getD i (.Pass ⟨0, 0, 0, 0⟩)
abbrev zw4 : Stmt := top 3
abbrev zH9 : Stmt := top 6
abbrev zl9 : Stmt := top 7
abbrev sCan : Stmt := top 12
abbrev sDo : Stmt := top 13
abbrev zn9 : Stmt := top 14
abbrev zg0 : Stmt := top 16
abbrev zx8 : Stmt := top 17
abbrev zf7 : Stmt := top 19
abbrev zh1 : Stmt := top 20
abbrev zs3 : Stmt := top 22
abbrev zM1 : Stmt := top 23
abbrev zw5 : Stmt := top 24
abbrev zw6 : Stmt := top 25
abbrev zh6 : Stmt := top 26
abbrev zk3 : Stmt := top 27
abbrev zM2 : Stmt := top 28
abbrev sRow : Stmt := top 29
abbrev zp5 : Stmt := top 30
abbrev zp6 : Stmt := top 31
abbrev zw7 : Stmt := top 32
abbrev zC6 : Stmt := top 33
abbrev zM3 : Stmt := top 34
abbrev zk4 : Stmt := top 35
abbrev sLaw : Stmt := top 36
theorem za66 : fy2 "isinstance" = some (.builtin "isinstance") := by decide +kernel
theorem ze71 : fy2 "int" = some (.type "int") := by decide +kernel
theorem zk5 : fy2 "tuple" = some (.type "tuple") := by decide +kernel
theorem zw8 : fy2 "len" = some (.builtin "len") := by decide +kernel
theorem ze72 : fy2 "all" = some (.builtin "all") := by decide +kernel
theorem zb64 : fy2 "divmod" = some (.builtin "divmod") := by decide +kernel
theorem ze73 : fy2 "sum" = some (.builtin "sum") := by decide +kernel
theorem zt3 : fy2 "sorted" = some (.builtin "sorted") := by decide +kernel
theorem zd83 : fy2 "str" = some (.type "str") := by decide +kernel
theorem ze74 : fy2 "set" = some (.type "set") := by decide +kernel
theorem za67 : fy2 "list" = some (.type "list") := by decide +kernel
theorem ze75 : fy2 "any" = some (.builtin "any") := by decide +kernel
theorem ze76 : fy2 "min" = some (.builtin "min") := by decide +kernel
theorem zd84 : fy2 "dict" = some (.type "dict") := by decide +kernel
structure Txt (mg : Str -> Option Value) : Prop where
 isi : mg "isinstance" = none
 int_ : mg "int" = none
 tuple_ : mg "tuple" = none
 len_ : mg "len" = none
 all_ : mg "all" = none
 abs_ : mg "abs" = none
 range_ : mg "range" = none
 divmod_ : mg "divmod" = none
 sum_ : mg "sum" = none
 sorted_ : mg "sorted" = none
 str_ : mg "str" = none
 enum_ : mg "enumerate" = none
 max_ : mg "max" = none
 set_ : mg "set" = none
 bool_ : mg "bool" = none
 dict_ : mg "dict" = none
 list_ : mg "list" = none
 any_ : mg "any" = none
 min_ : mg "min" = none
structure Def (K : ay5) (mg : Str -> Option Value) (x : Str) (st : Stmt) (f : Addr) (fd : fy7) (ps : List Str) : Prop where
 fn : Fun K x x st f fd
 bd : Binds K fd ps []
 at_ : mg x = some (.ref f)
def zV8 : Scope := { kind := .function, names := [], isGenerator := false, isCoroutine := false }
theorem zb7 {n : Nat} (h : n <= 100000) : n <= by2 := dy9 h (by decide)
theorem zt4 {W : Wl} {a b : OD} : (W ++ [a]).set W.length b = W ++ [b] := by simp
theorem zc6 {W : Wl} {a : OD} : (W ++ [a])[W.length]? = some a := by simp
abbrev bits (n : Int) : Nat := hy0 n
theorem zM4 {n : Int} {B : Nat} (h : n.natAbs < 2 ^ B) : bits n <= B := by
 unfold bits hy0
 by_cases h0 : n = 0
 ·subst h0; simp
 ·rw [if_neg (by simpa using h0)];have hn : n.natAbs ≠ 0 := by omega
  have := (Nat.log2_lt hn).mpr h;omega
def wl (n : Int) : OD := .lst [.d (.int n)]
def ze8 (W : Wl) (p : Nat) : Prop := ∃ n, W[p]? = some (wl n) /\ 0 <= n
def zf8 (W : Wl) (p : Nat) (W' : Wl) : Prop := ∃ n, W' = W.set p (wl n) /\ 0 <= n
theorem ze8.lt {W : Wl} {p : Nat} (h : ze8 W p) : p < W.length := by
 obtain ⟨n, h, _⟩ := h;exact (ay3.mp h).1
theorem zf8.at {W W' : Wl} {p : Nat} (h : zf8 W p W') (hp : p < W.length) : ze8 W' p := by
 obtain ⟨n, rfl, q⟩ := h;exact ⟨n, by rw [gy3 hp], q⟩
theorem ze8.self {W : Wl} {p : Nat} (h : ze8 W p) : zf8 W p W := by
 obtain ⟨n, e, q⟩ := h;refine ⟨n, ?_, q⟩;obtain ⟨hl, e⟩ := ay3.mp e;rw [<- e];exact (List.set_getElem_self hl).symm
theorem zf8.trans {W W1 W2 : Wl} {p : Nat} (h : zf8 W p W1) (h' : zf8 W1 p W2) : zf8 W p W2 := by
 obtain ⟨n, rfl, _⟩ := h;obtain ⟨n', rfl, q⟩ := h';exact ⟨n', by rw [List.set_set], q⟩
theorem zf8.len {W W' : Wl} {p : Nat} (h : zf8 W p W') : W'.length = W.length := by
 obtain ⟨n, rfl, _⟩ := h;simp
theorem zf8.get {W W' : Wl} {p j : Nat} (h : zf8 W p W') (hj : j ≠ p) : W'[j]? = W[j]? := by
 obtain ⟨n, rfl, _⟩ := h;rw [cy3 (fy4 hj)]
theorem zf8.app {W W' V : Wl} {p : Nat} (h : zf8 (W ++ V) p W') (hp : p < W.length) : ∃ W0, W' = W0 ++ V /\ zf8 W p W0 := by
 obtain ⟨n, rfl, q⟩ := h;exact ⟨W.set p (wl n), by rw [wy1 _ _ hp], n, rfl, q⟩
theorem zf8.closed {W W' : Wl} {p : Nat} (h : zf8 W p W') (hc : closed W) : L2.closed W' := by
 obtain ⟨n, rfl, _⟩ := h
 exact hc.set p fun e he => by
  simp at he;subst he;trivial
theorem ze8.app {W V : Wl} {p : Nat} (h : ze8 W p) : ze8 (W ++ V) p := by
 obtain ⟨n, e, q⟩ := h;exact ⟨n, by rw [ay8 (ay3.mp e).1]; exact e, q⟩
theorem zf8.last {U W' : Wl} {o : OD} (h : zf8 (U ++ [o]) U.length W') : ∃ n, W' = U ++ [wl n] /\ 0 <= n := by
 obtain ⟨n, e, pb⟩ := h;exact ⟨n, by rw [e]; simp, pb⟩
theorem ze8.last {U : Wl} {n : Int} (h : 0 <= n) : ze8 (U ++ [wl n]) U.length := ⟨n, by simp, h⟩
section
variable {P : cy8} {w : World} {K : ay5} {mg : Str -> Option Value} {base : Heap}
theorem zb65 : (10 : Int) ^ (60 : Int).toNat = 1000000000000000000000000000000000000000000000000000000000000 := by decide
theorem zd85 : bits 693147180559945309417232121458176568075500134360255254120683 <= 2 ^ 20 := dy9 (zM4 (B := 200) (by decide)) (by decide)
theorem zd86 : bits 1000000000000000000000000000000000000000000000000000000000000 <= 2 ^ 20 := dy9 (zM4 (B := 200) (by decide)) (by decide)
def zd87 : RB := fun as W k => ∃ n : Int, as = [.d (.int n)] /\ bits n <= 2 ^ 20 /\ ∀ m : Int, 0 <= m -> m < 1000000000000000000000000000000000000000000000000000000000000 -> k (.d (.int m)) W
theorem scMi : zc1 ["_law_cell"] ["_law_cell"] (za0 zs3) := ⟨rfl, rfl, rfl, by decide +kernel, rfl, by decide +kernel, by decide +kernel⟩
theorem zb66 {f : Addr} {fd : fy7} (F : Fun K "_law_mixed" "_law_mixed" zs3 f fd) : zj9 P w K mg base CX0 1 f fd ["_law_cell"] (spB K zd87) := by
 refine zs5 F scMi (fun as W k hR => by obtain ⟨n, e, _⟩ := hR; subst e; rfl) fun cdv A outer s H E hr F0 A0 as W k hcl hR => ?_;obtain ⟨n, e, hb, hk⟩ := hR;subst e;refine zb0 (ze7 (zg4 (zg4 (bv 0 rfl (za7 (za16 ⟨hb, zd85⟩ (zg4 (za7 (za7 (zc06 ⟨by decide, by decide, by decide⟩ (zc05 (by decide) ?_)))))))))));rw [zb65];exact hk _ (Int.emod_nonneg _ (by decide)) (Int.emod_lt_of_pos _ (by decide))
abbrev pPa : List Str := ["_law_script", "_law_k"]
abbrev nPk : List Str := ["_law_script", "_law_k", "_law_found", "_law_cell"]
theorem scPk : zc1 nPk pPa (za0 zM1) := ⟨rfl, rfl, rfl, by decide +kernel, rfl, by decide +kernel, by decide +kernel⟩
theorem ndPk : nPk.Nodup := by decide +kernel
def ze78 : RB := fun as W k => ∃ (ns : List Int) (j : Int), as = [.s ns, .d (.int j)] /\ (∀ m ∈ ns, bits m <= 2 ^ 20) /\ ns.length <= 63 /\ ∀ n : Int, 0 <= n -> k (.o W.length) (W ++ [wl n])
theorem zc80 {α : Type} {xs : List α} {lo hi : Option Int} {x : α} (h : x ∈ zm7 xs lo hi) : x ∈ xs := List.mem_of_mem_drop (my2 h)
theorem zC7 {α : Type} (xs : List α) (lo hi : Option Int) : (zm7 xs lo hi).length <= xs.length := by
 unfold zm7;rw [dy2, List.length_drop];omega
theorem zV9 {i : Nat} {n m : Int} (h0 : 0 <= n) (h : n.natAbs < 2 ^ (200 * i)) (m0 : 0 <= m) (m1 : m < 1000000000000000000000000000000000000000000000000000000000000) : (n * 1000000000000000000000000000000000000000000000000000000000000 + m).natAbs < 2 ^ (200 * (i + 1)) := by
 have e : 2 ^ (200 * (i + 1)) = 2 ^ (200 * i) * 2 ^ 200 := by rw [Nat.mul_add, Nat.pow_add]
 rw [e, show (2 : Nat) ^ 200 = 1606938044258990275541962092341162602522202993782792835301376 by decide];generalize 2 ^ (200 * i) = X at *;omega
theorem zc81 {f fM : Addr} {fd dM : fy7} (F : Fun K "_law_pack" "_law_pack" zM1 f fd) (DM : Def K mg "_law_mixed" zs3 fM dM ["_law_cell"]) : zj9 P w K mg base CX0 2 f fd pPa (spB K ze78) := by
 have N := @zb66 P w K mg base _ _ DM.fn;refine zs5 F scPk (fun as W k hR => by obtain ⟨ns, j, e, _⟩ := hR; subst e; rfl) fun cdv A outer s H E hr F0 A0 as W k hcl hR => ?_;obtain ⟨ns, j, e, hb, hl, hk⟩ := hR;subst e;have hlen : ∀ lo hi, ((zm7 ns lo hi).map PyData.int).length <= 63 := fun lo hi => by rw [ay4]; exact dy9 (zC7 _ _ _) hl
 refine za4 (zc4 (i := 2) ndPk rfl (Or.inl rfl) (za7 ?_));refine za4 (zv4 oy2 rfl (zA5 (ze1 (bv 0 rfl (zd8 (bv 1 rfl ⟨j, rfl, zd8 (zg4 (bv 1 rfl (za7 (zv0 ⟨_, rfl, za27 ⟨_, rfl, W.length, fun i S' W' => W' = W /\ ∃ (n : Int) (o3 : Option El), S' = [some (.s ns), some (.d (.int j)), some (.d (.int n)), o3] /\ 0 <= n /\ n.natAbs < 2 ^ (200 * i), ay6 _, dy5 _, ay6 _, ⟨rfl, 0, none, rfl, by decide, by decide⟩, fun _ _ _ _ _ => trivial, ?_, ?_⟩⟩))))⟩))))))
 ·rintro i d S' W' hd ⟨rfl, n, o3, rfl, h0, hn⟩;have hi : i < 63 := by8 (ay3.mp hd).1 (hlen _ _);rw [by3] at hd;cases hc : (zm7 ns (some j) (some (j + 2)))[i]? with
  | none => rw [hc] at hd; cases hd
  | some c =>
   rw [hc] at hd;cases hd;have hnb : bits n <= 2 ^ 20 := dy9 (zM4 hn) (by omega);refine zn3 (i := 3) ndPk rfl (Or.inl rfl) ?_;refine zb0 (zc4 (i := 2) ndPk rfl (Or.inl rfl) (zg4 (zg4 (bv 2 rfl (zg4 (za7 (za7 (zc06 ⟨by decide, by decide, by decide⟩ (za16 ⟨hnb, by rw [zb65]; exact zd86⟩ (za9 N (hr.mono (by decide)) rfl DM.at_ DM.fn.kp DM.bd (za1 (bv 3 rfl ⟨c, rfl, hb c (zc80 (cy5 hc)), fun m m0 m1 => zv0 ⟨rfl, _, _, rfl, ?_, ?_⟩⟩))))))))))))
   ·rw [zb65]; omega
   ·rw [zb65]; exact zV9 h0 hn m0 m1
 ·rintro S' W' ⟨rfl, n, o3, rfl, h0, hn⟩;exact zb0 (ze7 (zq4 (za1 (bv 2 rfl ⟨(by show 1 <= by2; decide), hk n h0⟩))))
def ze79 : RB := fun as W k => ∃ (p : Nat) (n : Int), as = [.o p, .d (.int n)] /\ ze8 W p /\ 1 <= n /\ n <= 1000000 /\ ∀ r W', 0 <= r -> r < n -> zf8 W p W' -> k (.d (.int r)) W'
abbrev pTk : List Str := ["_law_pack_here", "_law_size"]
abbrev nTk : List Str := ["_law_pack_here", "_law_size", "_law_digit"]
theorem scTk : zc1 nTk pTk (za0 zw5) := ⟨rfl, rfl, rfl, by decide +kernel, rfl, by decide +kernel, by decide +kernel⟩
theorem ndTk : nTk.Nodup := by decide +kernel
theorem zr0 {f : Addr} {fd : fy7} (F : Fun K "_law_take" "_law_take" zw5 f fd) (T : Txt mg) : zj9 P w K mg base CX0 1 f fd pTk (spB K ze79) := by
 refine zs5 F scTk (fun as W k hR => by obtain ⟨p, n, e, _⟩ := hR; subst e; rfl) fun cdv A outer s H E hr F0 A0 as W k hcl hR => ?_;obtain ⟨p, n, e, ⟨a, hp, ha0⟩, hn1, hn2, hk⟩ := hR;subst e;refine za4 (zs1 (zc9 rfl T.divmod_ zb64 (za2 (zd4 (by intro _ _; rfl) (bv 0 rfl (za7 (zr9 hp (e := .d (.int a)) rfl (za1 (bv 1 rfl (za21 ⟨by omega, by omega⟩ (zc62 rfl (zO7 (zG0 (bv 0 rfl (za7 (zd66 hp (m := 0) rfl (zO7 (zn3 (i := 2) ndTk rfl (Or.inl rfl) (zc61 ?_)))))))))))))))))));exact zb0 (ze7 (bv 2 rfl (hk _ _ (Int.emod_nonneg _ (by omega)) (Int.emod_lt_of_pos _ (by omega)) ⟨a / n, rfl, Int.ediv_nonneg ha0 (by omega)⟩)))
end
theorem rng (m : Nat) : zl3 0 (m : Int).toNat = (ky2 m).map fun (k : Nat) => PyData.int (k : Int) := by
 unfold zl3;simp
structure zb67 (hs : List Str) : Prop where
 nm : ∀ x ∈ hs, isNm x = true
 nd : hs.Nodup
 two : 2 <= hs.length
 le : hs.length <= 8
def tb0 : List Str := ["a", "b", "c", "d", "e"]
def tb1 : List Str := ["ab", "a", "abc", "b", "bc"]
def tb2 : List Str := ["me", "you", "them", "abcdefgh", "u"]
def tb3 : List Str := ["zz", "z", "yz", "y", "zzzzzzzz"]
def tblH : List (List Str) := [tb0, tb1, tb2, tb3]
def zo0 (hs : List Str) : Prop := ∃ tb ∈ tblH, ∃ m, m < 4 /\ hs = tb.take (2 + m)
theorem zd88 : ∀ tb ∈ tblH, tb.length = 5 /\ tb.all isNm = true /\ tb.Nodup := by decide +kernel
theorem zo0.names {hs : List Str} (h : zo0 hs) : zb67 hs := by
 obtain ⟨tb, ht, m, hm, rfl⟩ := h;obtain ⟨h1, h2, h3⟩ := zd88 tb ht;exact ⟨fun x hx => List.all_eq_true.mp h2 x (my2 hx), h3.sublist (ry9 _ _), by rw [dy2]; omega, by rw [dy2]; omega⟩
theorem zo0.le {hs : List Str} (h : zo0 hs) : hs.length <= 5 := by
 obtain ⟨tb, ht, m, hm, rfl⟩ := h;rw [dy2];omega
section
variable {P : cy8} {w : World} {K : ay5} {mg : Str -> Option Value} {base : Heap}
def zd89 : RB := fun as W k => ∃ p : Nat, as = [.o p] /\ ze8 W p /\ ∀ (hs : List Str) W', zo0 hs -> zf8 W p W' -> k (.d (.list (hs.map .str))) W'
abbrev nHa : List Str := ["_law_pack_here", "_law_some"]
theorem scHa : zc1 nHa ["_law_pack_here"] (za0 zw6) := ⟨rfl, rfl, rfl, by decide +kernel, rfl, by decide +kernel, by decide +kernel⟩
theorem ndHa : nHa.Nodup := by decide +kernel
def lE (l : List Str) : El := .d (.list (l.map .str))
theorem five : (5 : Nat) <= by2 := by decide
theorem zb68 {f fR : Addr} {fd dR : fy7} (F : Fun K "_law_hands" "_law_hands" zw6 f fd) (T : Txt mg) (DR : Def K mg "_law_take" zw5 fR dR pTk) : zj9 P w K mg base CX0 2 f fd ["_law_pack_here"] (spB K zd89) := by
 have N := @zr0 P w K mg base _ _ DR.fn T;refine zs5 F scHa (fun as W k hR => by obtain ⟨p, e, _⟩ := hR; subst e; rfl) fun cdv A outer s H E hr F0 A0 as W k hcl hR => ?_;obtain ⟨p, e, hp, hk⟩ := hR;subst e;have hpl := hp.lt;refine za4 ?_;refine zc4 (i := 1) ?_ ?_ ?_ ?_ ?_ ?_
 ·exact ndHa
 ·rfl
 ·exact Or.inl rfl
 rotate_left
 ·rfl
 ·exact .inl rfl
 refine zq4 ?_;refine za2 ?_;refine zf9 (za2 (zc2 (za2 (zc2 (za2 (zc2 (za2 (zc2 (za1 (zc2 ⟨tb0.map .str, rfl, five, ?_⟩))))))))));refine za2 ?_;refine zf9 (za2 (zc2 (za2 (zc2 (za2 (zc2 (za2 (zc2 (za1 (zc2 ⟨tb1.map .str, rfl, five, ?_⟩))))))))));refine za1 ?_;refine zf9 (za2 (zc2 (za2 (zc2 (za2 (zc2 (za2 (zc2 (za1 (zc2 ⟨tb2.map .str, rfl, five, (by show 3 <= by2; decide), ?_⟩))))))))));refine za4 (ze3 (zm8 gy0 iy1 iy2 (bv 1 rfl ⟨.inl ⟨rfl, _, zc6⟩, za1 (zf9 (za2 (zc2 (za2 (zc2 (za2 (zc2 (za2 (zc2 (za1 (zc2 ⟨tb3.map .str, rfl, five, zg6 zc6 (by show 3 < by2; decide) ?_⟩)))))))))))⟩)));rw [zt4];obtain ⟨es, hes⟩ : ∃ es, es = tblH.map lE := ⟨_, rfl⟩
 change BSs _ _ _ (W ++ [OD.lst (tblH.map lE)]) _ _;rw [<- hes];have hW : ∀ V : Wl, ze8 (W ++ V) p := fun V => hp.app;refine zb0 (zh4 (ze1 (zd4 (by intro _ _; rfl) (bv 1 rfl (za9 N (hr.mono (by decide)) rfl DR.at_ DR.fn.kp DR.bd (za2 (bv 0 rfl (za1 (za7 ⟨p, 4, rfl, hW _, by decide, by decide, fun r W1 a0 a1 pw1 => ?_⟩)))))))));obtain ⟨W1, rfl, qw1⟩ := pw1.app hpl;obtain ⟨q, rfl⟩ : ∃ n : Nat, r = n := ⟨r.toNat, by omega⟩
 obtain ⟨tb, htb⟩ : ∃ tb, tblH[q]? = some tb := ⟨tblH[q]'(by show q < 4; omega), by5 _⟩
 have hget : (W1 ++ [OD.lst es])[W.length]? = some (OD.lst es) := by rw [<- qw1.len]; exact zc6
 refine zr9 (es := es) hget (e := lE tb) (zh5 (by rw [hes, by3, htb]; rfl)) ?_;refine zi0 (zd8 (zg4 (za7 (za9 N (hr.mono (by decide)) rfl DR.at_ DR.fn.kp DR.bd (za2 (bv 0 rfl (za1 (za7 ⟨p, 4, rfl, (qw1.at hpl).app, by decide, by decide, fun r W2 b0 b1 pw2 => zv0 ⟨_, rfl, zy1 ?_⟩⟩))))))));obtain ⟨W2, rfl, qw2⟩ := pw2.app (by rw [qw1.len]; exact hpl);have pw := qw1.trans qw2;obtain ⟨m, rfl⟩ : ∃ n : Nat, r = n := ⟨r.toNat, by omega⟩
 have e1 : (2 : Int) + (m : Int) = ((2 + m : Nat) : Int) := by omega
 rw [e1, zp0, <- vy7];exact ⟨_, W2, _, rfl, rfl, pw.len.symm, pw.closed hcl, hk _ _ ⟨tb, cy5 htb, m, by omega, rfl⟩ pw⟩
def wdsS : List Str := ["x", "y", "xy", "hello", "x"]
theorem zd92 : ∀ z ∈ wdsS, isNm z = true := by decide +kernel
def zb69 : RB := fun as W k => ∃ (p : Nat) (hs : List Str), as = [.o p, .d (.list (hs.map .str))] /\ ze8 W p /\ zb67 hs /\ ∀ (d : za6) W', d.tk = false -> d.Ok -> d.x ∈ hs -> d.y ∈ hs -> d.w ∈ wdsS -> zf8 W p W' -> k (.d (dP d)) W'
abbrev pSe : List Str := ["_law_pack_here", "_law_hands_here"]
abbrev nSe : List Str := ["_law_pack_here", "_law_hands_here", "_law_one", "_law_others", "_law_other"]
theorem scSe : zc1 nSe pSe (za0 zh6) := ⟨rfl, rfl, rfl, by decide +kernel, rfl, by decide +kernel, by decide +kernel⟩
theorem ndSe : nSe.Nodup := by decide +kernel
def cSe : Scope := match za8 zh6 with
 | [_, .Assign _ (.ListComp _ _ sc _) _, _, _] => sc
 | _ => zV8
theorem csSe : zb4 nSe (za0 zh6) ["_law_hand_here"] ["_law_one"] [2] cSe := ⟨rfl, by decide +kernel, by decide +kernel, by decide +kernel, rfl, by decide +kernel⟩
theorem ndSh : (["_law_hand_here", "_law_one"] : List Str).Nodup := by decide +kernel
theorem zW0 {f fR : Addr} {fd dR : fy7} (F : Fun K "_law_sending" "_law_sending" zh6 f fd) (T : Txt mg) (DR : Def K mg "_law_take" zw5 fR dR pTk) : zj9 P w K mg base CX0 2 f fd pSe (spB K zb69) := by
 have N := @zr0 P w K mg base _ _ DR.fn T;refine zs5 F scSe (fun as W k hR => by obtain ⟨p, hs, e, _⟩ := hR; subst e; rfl) fun cdv A outer s H E hr F0 A0 as W k hcl hR => ?_;obtain ⟨p, hs, e, hp, hh, hk⟩ := hR;subst e;have hpl := hp.lt;have hhl := hh.le;have hh2 := hh.two;refine za4 (zc4 (i := 2) ndSe rfl (Or.inr rfl) (zd4 (by intro _ _; rfl) (bv 1 rfl (za9 N (hr.mono (by decide)) rfl DR.at_ DR.fn.kp DR.bd (za2 (bv 0 rfl (za1 (zc9 rfl T.len_ zw8 (za1 (bv 1 rfl (zq5 (.inl rfl) ⟨p, _, rfl, hp, ?_, ?_, fun a W3 a0 a1 pw3 => ?_⟩)))))))))))
 ·rw [ay4]; omega
 ·rw [ay4]; omega
 rw [ay4] at a1;obtain ⟨a, rfl⟩ : ∃ n : Nat, a = n := ⟨a.toNat, by omega⟩
 obtain ⟨x, hx⟩ : ∃ y, hs[a]? = some y := ⟨hs[a]'(by omega), by simp⟩
 have hxm := cy5 hx;refine zu9 (d := .str x) (zh5 (by simp [hx])) ?_;refine za4 (za26 (i := 3) ndSe rfl (Or.inl rfl) rfl csSe (zA5 (bv 1 rfl ⟨_, rfl, zl4 (fun d => match d with | .str y => decide (y ≠ x) | _ => false) id trivial ?_ ?_ ?_⟩)))
 ·rw [ay4]; exact zb7 (by omega)
 ·intro d hd;obtain ⟨y, hy, rfl⟩ := cy4.mp hd;refine zf0 (i := 0) ndSh rfl (by decide) (fun _ _ _ _ _ => Or.inl rfl) (fun _ _ _ _ _ => rfl) ⟨fun cl C ex s H => ?_, fun _ cl C ex s H => bv 0 rfl ⟨rfl, rfl⟩⟩;exact zd5 rfl (bv 0 rfl (bv 1 rfl (za17 ⟨_, rfl, by simp, rfl⟩)))
 ·have e : ((hs.map jy1).filter (fun d => match d with | .str y => decide (y ≠ x) | _ => false)).map id = (hs.filter fun y => decide (y ≠ x)).map .str := by
   rw [List.map_id, List.filter_map];rfl
  rw [e];have h0 := zT4 (x := x) hh2 hh.nd;have hol : (hs.filter fun y => decide (y ≠ x)).length <= hs.length := ny6 _ _;refine za4 (zc4 (i := 4) ndSe rfl (Or.inl rfl) (zd4 (by intro _ _; rfl) (bv 3 rfl (za9 N (hr.mono (by decide)) rfl DR.at_ DR.fn.kp DR.bd (za2 (bv 0 rfl (za1 (zc9 rfl T.len_ zw8 (za1 (bv 3 rfl (zq5 (.inl rfl) ⟨p, _, rfl, pw3.at hpl, ?_, ?_, fun b W4 b0 b1 pw4 => ?_⟩)))))))))))
  ·rw [ay4]; omega
  ·rw [ay4]; omega
  rw [ay4] at b1;obtain ⟨b, rfl⟩ : ∃ n : Nat, b = n := ⟨b.toNat, by omega⟩
  obtain ⟨y, hy⟩ : ∃ z, (hs.filter fun y => decide (y ≠ x))[b]? = some z := ⟨(hs.filter fun y => decide (y ≠ x))[b]'(by omega), by simp⟩
  have hym := gy5.mp (cy5 hy);have pw4 := pw3.trans pw4;refine zu9 (d := .str y) (zh5 (by rw [by3, hy]; rfl)) ?_;refine zb0 (ze7 (zo7 (za2 (zc2 (za2 (bv 2 rfl (za2 (bv 4 rfl (za1 (zd4 (by intro _ _; rfl) (zf9 (za2 (zc2 (za2 (zc2 (za2 (zc2 (za2 (zc2 (za1 (zc2 ⟨wdsS.map .str, rfl, five, za9 N (hr.mono (by decide)) rfl DR.at_ DR.fn.kp DR.bd (za2 (bv 0 rfl (za1 (za7 ⟨p, 5, rfl, pw4.at hpl, by decide, by decide, fun r W5 c0 c1 pw5 => ?_⟩))))⟩)))))))))))))))))))));obtain ⟨c, rfl⟩ : ∃ n : Nat, r = n := ⟨r.toNat, by omega⟩
  obtain ⟨z, hz⟩ : ∃ z, wdsS[c]? = some z := ⟨wdsS[c]'(by show c < 5; omega), by5 _⟩
  refine zu9 (d := .str z) (zh5 (by rw [by3, hz]; rfl)) ⟨[.str "send", .str x, .str y, .str z], rfl, (by show 4 <= by2; decide), hk ⟨false, x, y, z⟩ _ rfl ⟨hh.nm x hxm, hh.nm y hym.1, zd92 z (cy5 hz), ?_⟩ hxm hym.1 (cy5 hz) (pw4.trans pw5)⟩;have := hym.2;simp at this;exact fun z => this z.symm
end
abbrev Pr := Str × Str
abbrev prK (e : Pr) : List Key := [.inr e.1, .inr e.2]
abbrev prD (e : Pr) : PyData := tupK (prK e)
theorem zC8 {a b : Pr} (h : prK a = prK b) : a = b := by
 injection h with h1 h2
 injection h2 with h2 _
 exact Prod.ext (uy4 h1) (uy4 h2)
abbrev Uw := Pr × List Str
abbrev kvU (e : Uw) : List Key × El := (prK e.1, .d (.list (e.2.map .str)))
def zr1 (L : List Uw) (x y : Str) : List Str := ((L.find? fun e => decide (e.1 = (x, y))).map (·.2)).getD []
def zW1 (L : List Uw) (p : Pr) (ws : List Str) : List Uw := if (L.any fun a => decide (a.1 = p)) = true then L.map (fun a => if a.1 = p then (a.1, ws) else a) else L ++ [(p, ws)]
theorem zI0 (L : List Uw) (x y : Str) : (zm9 (L.map kvU) [.inr x, .inr y]).getD (.d (.list [])) = .d (.list ((zr1 L x y).map .str)) := by
 unfold zm9 zr1;rw [List.find?_map]
 have : ((fun kv : List Key × El => decide (kv.1 = [.inr x, .inr y])) ∘ kvU) = fun e : Uw => decide (e.1 = (x, y)) := by
  funext e
  show decide (prK e.1 = prK (x, y)) = decide (e.1 = (x, y));rw [decide_eq_decide];exact ⟨zC8, fun h => by rw [h]⟩
 rw [this];cases L.find? fun e => decide (e.1 = (x, y)) <;> rfl
theorem zM5 (L : List Uw) (p : Pr) (ws : List Str) : zD9 (L.map kvU) (prK p) (.d (.list (ws.map .str))) = (zW1 L p ws).map kvU := by
 have ha : ((L.map kvU).any fun a => decide (a.1 = prK p)) = L.any fun a => decide (a.1 = p) := by
  rw [List.any_map]
  congr 1
  funext a
  show decide (prK a.1 = prK p) = decide (a.1 = p);rw [decide_eq_decide];exact ⟨zC8, fun h => by rw [h]⟩
 unfold zD9 zW1;rw [ha]
 split
 ·rw [ey9, ey9];refine ny1 fun a _ => ?_;show (if (kvU a).1 = prK p then _ else _) = kvU (if a.1 = p then _ else _)
  by_cases h : a.1 = p
  ·rw [if_pos h, if_pos (by rw [<- h])]
  ·rw [if_neg h, if_neg (fun z => h (zC8 z))]
 ·rw [fy3];rfl
theorem zw9 (L : List Uw) (p : Pr) (ws : List Str) : (zW1 L p ws).map (·.1) = if (L.any fun a => decide (a.1 = p)) = true then L.map (·.1) else L.map (·.1) ++ [p] := by
 unfold zW1
 split
 ·rw [ey9];refine ny1 fun a _ => ?_;show (if a.1 = p then (a.1, ws) else a).1 = a.1
  split <;> rfl
 ·simp
theorem zc83 {L : List Uw} (nd : (L.map (·.1)).Nodup) (p : Pr) (ws : List Str) : ((zW1 L p ws).map (·.1)).Nodup := by
 rw [zw9]
 split
 ·exact nd
 ·rename_i hn
  rw [List.nodup_append];refine ⟨nd, by simp, fun a ha b hb z => hn ?_⟩;obtain ⟨c, hc, rfl⟩ := cy4.mp ha;simp at hb;exact wy6.mpr ⟨c, hc, by simp [z.trans hb]⟩
theorem zP9 {L : List Uw} {p : Pr} {ws : List Str} {e : Uw} (h : e ∈ zW1 L p ws) : e.1 ∈ L.map (·.1) \/ e.1 = p := by
 have : e.1 ∈ (zW1 L p ws).map (·.1) := cy4.mpr ⟨e, h, rfl⟩;rw [zw9] at this
 split at this
 ·exact .inl this
 ·rcases ey0.mp this with z | z
  ·exact .inl z
  ·exact .inr (by simpa using z)
theorem zb70 (L : List Uw) (p : Pr) (ws : List Str) : (zW1 L p ws).length <= L.length + 1 := by
 have := congrArg xy6 (zw9 L p ws);rw [ay4] at this
 split at this
 ·rw [ay4] at this; omega
 ·rw [cy1, ay4] at this; simp at this; omega
theorem za68 (L : List Uw) (p : Pr) (ws : List Str) (x y : Str) : zr1 (zW1 L p ws) x y = if (x, y) = p then ws else zr1 L x y := by
 have h1 := zI0 (zW1 L p ws) x y;rw [<- zM5, zP8] at h1
 by_cases e : (x, y) = p
 ·rw [if_pos e];rw [if_pos (by rw [<- e])] at h1;injection h1 with h1
  injection h1 with h1
  have inj : ∀ a b : List Str, a.map jy1 = b.map jy1 -> a = b := fun a b h => List.map_inj_right (fun _ _ z => by injection z) |>.mp h
  exact (inj _ _ h1).symm
 ·rw [if_neg e];rw [if_neg (fun z => e (zC8 z)), zI0] at h1;injection h1 with h1
  injection h1 with h1
  have inj : ∀ a b : List Str, a.map jy1 = b.map jy1 -> a = b := fun a b h => List.map_inj_right (fun _ _ z => by injection z) |>.mp h
  exact (inj _ _ h1).symm
theorem zp7 {e : Uw} : ∀ {L : List Uw}, (L.map (·.1)).Nodup -> e ∈ L -> zr1 L e.1.1 e.1.2 = e.2
 | [], _, h => by simp at h
 | a :: L, nd, h => by
  simp only [ey6, ly6] at nd;unfold zr1;rw [iy7]
  by_cases ha : a.1 = e.1
  ·have : a = e := by
    rcases by7.mp h with z | z
    ·exact z.symm
    ·exact absurd (cy4.mpr ⟨e, z, ha.symm⟩) nd.1
   subst this;simp
  ·have h' : e ∈ L := (by7.mp h).resolve_left fun z => ha (by rw [z]);have hd : decide (a.1 = (e.1.1, e.1.2)) = false := decide_eq_false ha;rw [hd];exact zp7 nd.2 h'
structure zk8 (hs : List Str) (ds : List za6) : Prop where
 ok : ∀ d ∈ ds, d.Ok
 x : ∀ d ∈ ds, d.x ∈ hs
 y : ∀ d ∈ ds, d.y ∈ hs
theorem zk8.snoc {hs : List Str} {ds : List za6} (h : zk8 hs ds) {d : za6} (h1 : d.Ok) (h2 : d.x ∈ hs) (h3 : d.y ∈ hs) : zk8 hs (ds ++ [d]) :=
 ⟨fun e he => (ey0.mp he).elim (h.ok e) fun z => by simp at z; subst z; exact h1, fun e he => (ey0.mp he).elim (h.x e) fun z => by simp at z; subst z; exact h2, fun e he => (ey0.mp he).elim (h.y e) fun z => by simp at z; subst z; exact h3⟩
structure TxtN (K : ay5) (mg : Str -> Option Value) (kA : Addr) : Prop where
 t : Txt mg
 letters : ∃ t, mg "LETTERS" = some (.str LET t)
 longest : ∃ t, mg "LONGEST_NAME" = some (.int 8 t)
 kinds : mg "KINDS" = some (.ref kA)
 kindsT : ∀ H, SqT K H kA [.str "send", .str "take"]
def nmD : PyData -> Bool
 | .str x => isNm x
 | _ => false
section
variable {P : cy8} {w : World} {K : ay5} {mg : Str -> Option Value} {base : Heap} {kA : Addr}
def zI1 : PyData -> Prop
 | .str x => x.length <= by2
 | _ => True
def ze81 : RB := fun es W k => ∃ d, es = [.d d] /\ zI1 d /\ k (.d (.bool (nmD d))) W
theorem zd93 : zc1 ["thing"] ["thing"] (za0 zw4) := ⟨rfl, rfl, rfl, by decide +kernel, rfl, by decide +kernel, by decide +kernel⟩
def ze82 : Scope := match za8 zw4 with
 | [_, .Return (some (.Call _ [.ListComp _ _ sc _] _ _)) _] => sc
 | _ => { kind := .function, names := [], isGenerator := false, isCoroutine := false }
theorem zc84 : (["sign"] : List Str).Nodup := by decide +kernel
theorem zd94 : zb4 ["thing"] (za0 zw4) ["sign"] [] [] ze82 := ⟨rfl, by decide +kernel, by decide +kernel, by decide +kernel, rfl, by decide +kernel⟩
theorem zy6 {x : Str} (h : ¬ 1 <= x.length \/ ¬ x.length <= 8) : isNm x = false := by
 unfold isNm;rcases h with h | h <;> simp [h]
theorem zc85 {f : Addr} {fd : fy7} (F : Fun K "is_name" "is_name" zw4 f fd) (T : TxtN K mg kA) : zj9 P w K mg base CX0 1 f fd ["thing"] (spB K ze81) := by
 obtain ⟨tl, hlong⟩ := T.longest;obtain ⟨tt, hlet⟩ := T.letters;refine zs5 F zd93 (fun es W k ⟨d, e, _⟩ => by subst e; rfl) fun cdv A outer s H E hr F0 A0 es W k hcl zR => ?_;obtain ⟨d, e, hd, hk⟩ := zR;subst e;refine za4 (zl2 (BW.bt (zA0 (zo6 (zj3 (zl1 rfl T.t.isi za66 rfl T.t.str_ zd83 (by simp) (bv 0 rfl ⟨d, .inl rfl, _, rfl, ?_⟩)))))));cases d with
 | str x =>
  refine zm5 (zu8 (zo6 (zb39 (za7 (zc9 rfl T.t.len_ zw8 (za1 (bv 0 rfl (zc57 hd (zd58 ⟨_, rfl, ?_⟩)))))))))
  by_cases h1 : 1 <= x.length
  ·rw [decide_eq_true (by omega)];refine zo4 (gI hlong (zd58 ⟨_, rfl, ?_⟩))
   by_cases h2 : x.length <= 8
   ·rw [decide_eq_true (by omega)];refine zm5 (zj5 ?_);refine zb0 (ze7 (zc9 rfl T.t.all_ ze72 (za1 (zn4 rfl zd94 (zd67 (bv 0 rfl ⟨x, rfl, zO1 (fun d => match d with | .str y => .bool (y.cps.toList.all fun c => decide (97 <= c) && decide (c <= 122)) | _ => .none) trivial ?_ ?_ ?_⟩))))))
    ·unfold zy2;rw [ay4];exact dy9 h2 (by decide)
    ·intro d hd';obtain ⟨c, hc, rfl⟩ := cy4.mp hd';refine zf0 (i := 0) zc84 rfl (by decide) (fun _ _ _ _ _ => Or.inl rfl) (fun _ _ _ _ _ => rfl) fun cl C ex s H => ?_;refine zF5 rfl (bv 0 rfl (gS hlet (zd62 ⟨?_, rfl⟩)));rw [zd68];simp
    ·refine zd63 rfl (bs := x.cps.toList.map fun c => (decide (97 <= c) && decide (c <= 122))) (.inl ?_) ?_
     ·unfold zy2;rw [ey9, ey9]
      congr 2
      apply ny1;intro c hc;simp
     ·have : nmD (.str x) = ((x.cps.toList.map fun c => (decide (97 <= c) && decide (c <= 122))).all id) := by
       show isNm x = _;unfold isNm;rw [decide_eq_true h1, decide_eq_true h2, List.all_map];rfl
      rw [<- this];exact hk
   ·rw [decide_eq_false (by omega)];have : nmD (.str x) = false := zy6 (.inr h2);rw [this] at hk;exact zo4 (zb0 (ze7 (zu6 hk)))
  ·rw [decide_eq_false (by omega)];have : nmD (.str x) = false := zy6 (.inl h1);rw [this] at hk;exact zm5 (zo4 (zb0 (ze7 (zu6 hk))))
 | _ => exact zo4 (zo4 (zb0 (ze7 (zu6 hk))))
end
def kdD : PyData -> Bool
 | .str x => decide (x = "send" \/ x = "take")
 | _ => false
def neqD : PyData -> PyData -> Bool
 | .str x, .str y => !decide (x = y)
 | _, _ => false
def za69 : PyData -> Bool
 | .tuple [a, b, c, d] => kdD a && (nmD b && nmD c && nmD d && neqD b c)
 | _ => false
def zc23 : PyData -> Prop
 | .tuple ds => ∀ d ∈ ds, zI1 d
 | _ => True
section
variable {P : cy8} {w : World} {K : ay5} {mg : Str -> Option Value} {base : Heap} {kA : Addr}
def ze83 : RB := fun es W k => ∃ d, es = [.d d] /\ zc23 d /\ k (.d (.bool (za69 d))) W
abbrev nDd : List Str := ["thing", "kind", "giver", "taker", "word"]
theorem zd95 : zc1 nDd ["thing"] (za0 zH9) := ⟨rfl, rfl, rfl, by decide +kernel, rfl, by decide +kernel, by decide +kernel⟩
theorem ndDd : nDd.Nodup := by decide +kernel
theorem zM6 {X : Bc} {S : Sl} {W : Wl} {k : KB} {a b : Expr} {rest : List Expr} {pos : Pos} {c : Bool} (h : BE X S W a fun x W1 => x = .d (.bool c) /\ (c = true -> BE X S W1 (.BoolOp .And (b :: rest) pos) k) /\ (c = false -> k (.d (.bool false)) W1)) : BE X S W (.BoolOp .And (a :: b :: rest) pos) k :=
 zd56 (h.mono fun x W1 ⟨e, h1, h2⟩ => ⟨c, e, by
  cases c with
  | true => exact zo4 (h1 rfl)
  | false => exact zm5 (h2 rfl)⟩)
theorem za70 {d : PyData} (h : nmD d = true) : ∃ x, d = .str x /\ isNm x = true := by
 cases d with
 | str x => exact ⟨x, rfl, h⟩
 | _ => cases h
theorem zc86 {f fN : Addr} {fd dN : fy7} (F : Fun K "is_deed" "is_deed" zH9 f fd) (T : TxtN K mg kA) (DN : Def K mg "is_name" zw4 fN dN ["thing"]) : zj9 P w K mg base CX0 2 f fd ["thing"] (spB K ze83) := by
 have N := @zc85 P w K mg base kA _ _ DN.fn T;refine zs5 F zd95 (fun es W k ⟨d, e, _⟩ => by subst e; rfl) fun cdv A outer s H E hr F0 A0 es W k hcl zR => ?_;obtain ⟨d, e, hd, hk⟩ := zR;subst e;refine za4 (zl2 (BW.bt (zA0 (zo6 (zj3 (zl1 rfl T.t.isi za66 rfl T.t.tuple_ zk5 (by simp) (bv 0 rfl ⟨d, .inl rfl, _, rfl, ?_⟩)))))));cases d with
 | tuple ds =>
  refine zm5 (zu8 (zd5 rfl (zc9 rfl T.t.len_ zw8 (za1 (bv 0 rfl (zA2 (za7 (zd61 ⟨_, rfl, ?_⟩))))))))
  by_cases h4 : ds.length = 4
  ·rw [decide_eq_true (by omega)];refine zm5 (zj5 ?_)
   obtain ⟨a, b, c, e, rfl⟩ : ∃ a b c e, ds = [a, b, c, e] := by
    match ds, h4 with
    | [a, b, c, e], _ => exact ⟨a, b, c, e, rfl⟩
   have hb : zI1 b := hd b (by simp);have hc : zI1 c := hd c (by simp);have he : zI1 e := hd e (by simp);refine za4 (zs1 (bv 0 rfl (zF9 rfl (.cons (i := 1) ndDd rfl (Or.inl rfl) (.cons (i := 2) ndDd rfl (Or.inl rfl) (.cons (i := 3) ndDd rfl (Or.inl rfl) (.cons (i := 4) ndDd rfl (Or.inl rfl) .nil)))) rfl ?_)));refine za4 (zl2 (BW.bt (zA0 (zo6 (zj3 (zl1 rfl T.t.isi za66 rfl T.t.str_ zd83 (by simp) (bv 1 rfl ⟨a, .inl rfl, _, rfl, ?_⟩)))))));cases a with
   | str x =>
    refine zm5 (zu8 (zd5 rfl (bv 1 rfl (zK1 rfl T.kinds (show RelV (.ref kA) _ from rfl) (fun F => Rq.tup (T.kindsT F) (.cons (.str _) (.cons (.str _) .nil))) (zc56 (xs := ["send", "take"]) (.inr rfl) ⟨_, rfl, ?_⟩)))))
    by_cases hx : x ∈ (["send", "take"] : List Str)
    ·rw [decide_eq_true hx]
     have hx' : kdD (.str x) = true := by
      show decide _ = true;simpa using hx
     have hD : za69 (.tuple [.str x, b, c, e]) = (nmD b && nmD c && nmD e && neqD b c) := by
      show (kdD (.str x) && _) = _;rw [hx', Bool.true_and]
     rw [hD] at hk;refine zm5 (zj5 (zb0 (ze7 ?_)));refine zM6 (za9 N (hr.mono (by decide)) rfl DN.at_ DN.fn.kp DN.bd (za1 (bv 2 rfl ⟨b, rfl, hb, rfl, fun h1 => ?_, fun h1 => ?_⟩)))
     ·refine zM6 (za9 N (hr.mono (by decide)) rfl DN.at_ DN.fn.kp DN.bd (za1 (bv 3 rfl ⟨c, rfl, hc, rfl, fun h2 => ?_, fun h2 => ?_⟩)))
      ·refine zM6 (za9 N (hr.mono (by decide)) rfl DN.at_ DN.fn.kp DN.bd (za1 (bv 4 rfl ⟨e, rfl, he, rfl, fun h3 => ?_, fun h3 => ?_⟩)))
       ·obtain ⟨y, rfl, _⟩ := za70 h1;obtain ⟨z, rfl, _⟩ := za70 h2;refine zc03 (zF5 rfl (bv 2 rfl (bv 3 rfl (za17 ?_))));rw [h1, h2, h3] at hk;exact hk
       ·rw [h3, Bool.and_false, qy9] at hk;exact hk
      ·rw [h2, Bool.and_false, qy9, qy9] at hk;exact hk
     ·rw [h1, qy9, qy9, qy9] at hk;exact hk
    ·rw [decide_eq_false hx]
     have hx' : kdD (.str x) = false := by
      show decide _ = false;simpa using hx
     have hD : za69 (.tuple [.str x, b, c, e]) = false := by
      show (kdD (.str x) && _) = _;rw [hx', qy9]
     rw [hD] at hk;exact zo4 (zb0 (ze7 (zu6 hk)))
   | _ => exact zo4 (zo4 (zb0 (ze7 (zu6 hk))))
  ·rw [decide_eq_false (by omega)]
   have hD : za69 (.tuple ds) = false := by
    match ds, h4 with
    | [], _ => rfl
    | [_], _ => rfl
    | [_, _], _ => rfl
    | [_, _, _], _ => rfl
    | [_, _, _, _], h => exact absurd rfl h
    | _ :: _ :: _ :: _ :: _ :: _, _ => rfl
   rw [hD] at hk;exact zo4 (zb0 (ze7 (zu6 hk)))
 | _ => exact zo4 (zo4 (zb0 (ze7 (zu6 hk))))
end
structure Ln where
 x : Str
 y : Str
 j : Nat
 ws : List Str
abbrev Ln.key (e : Ln) : List Key := [.inr e.x, .inr e.y]
def ze4 (L : List Ln) (x y : Str) : Option Ln := L.find? fun e => decide (e.key = [.inr x, .inr y])
def zi2 (L : List Ln) (x y : Str) : List Str := ((ze4 L x y).map (·.ws)).getD []
structure ze5 (W : Wl) (q : Nat) (L : List Ln) : Prop where
 at_ : W[q]? = some (.dT (L.map fun e => (e.key, El.o e.j)))
 obj : ∀ e ∈ L, W[e.j]? = some (.lst (zb2 (e.ws.map .str)))
 nd : (L.map (·.j)).Nodup
 nq : ∀ e ∈ L, e.j ≠ q
theorem zC9 (L : List Ln) (x y : Str) : zm9 (L.map fun e => (e.key, El.o e.j)) [.inr x, .inr y] = (ze4 L x y).map fun e => El.o e.j := by
 unfold zm9 ze4;rw [List.find?_map, Option.map_map];rfl
theorem zk6 {L : List Ln} {x y : Str} {e : Ln} (h : ze4 L x y = some e) : e ∈ L /\ e.x = x /\ e.y = y := by
 have h1 := List.mem_of_find?_eq_some h;have h2 := List.find?_some h;simp at h2;exact ⟨h1, h2.1, h2.2⟩
section
variable {P : cy8} {w : World} {K : ay5} {mg : Str -> Option Value} {base : Heap} {kA : Addr}
def rCan : RB := fun as W k => ∃ (q : Nat) (d : za6) (L : List Ln), as = [.o q, .d (dP d)] /\ d.Ok /\ ze5 W q L /\ (∀ e ∈ L, ∀ z ∈ e.ws, uy9 z = true) /\ k (.d (.bool (!d.tk || decide ((zi2 L d.x d.y).take 1 = [d.w])))) W
abbrev nCa : List Str := ["lines", "deed", "kind", "giver", "taker", "word"]
theorem scCa : zc1 nCa ["lines", "deed"] (za0 sCan) := ⟨rfl, rfl, rfl, by decide +kernel, rfl, by decide +kernel, by decide +kernel⟩
theorem ndCa : nCa.Nodup := by decide +kernel
theorem zc24 {f : Addr} {fd : fy7} (F : Fun K "can_be_done" "can_be_done" sCan f fd) (T : TxtN K mg kA) : zj9 P w K mg base CX0 1 f fd ["lines", "deed"] (spB K rCan) := by
 refine zs5 F scCa (fun as W k hR => by obtain ⟨q, d, L, e, _⟩ := hR; subst e; rfl) fun cdv A outer s H E hr F0 A0 as W k hcl hR => ?_;obtain ⟨q, d, L, e, hok, hL, hsk, hk⟩ := hR;subst e;refine za4 (zs1 (bv 1 rfl (zF9 rfl (.cons (i := 2) ndCa rfl (Or.inl rfl) (.cons (i := 3) ndCa rfl (Or.inl rfl) (.cons (i := 4) ndCa rfl (Or.inl rfl) (.cons (i := 5) ndCa rfl (Or.inl rfl) .nil)))) rfl ?_)));refine zb0 (ze7 (ze58 (zF5 rfl (bv 2 rfl (zc2 (zn0 ⟨_, rfl, ?_⟩))))))
 by_cases ht : d.tk = true
 ·have hkd : d.kd ≠ "send" := by
   unfold za6.kd;rw [ht];decide +kernel
  rw [decide_eq_false hkd];rw [ht] at hk;refine zm5 (zc03 (zF5 rfl (ze1 (zm8 iy6 qy7 vy3 (bv 0 rfl ⟨.inr ⟨rfl, .inr ⟨_, hL.at_⟩⟩, za2 (zo7 (za2 (bv 3 rfl (za1 (bv 4 rfl ⟨[.str d.x, .str d.y], rfl, (by show 2 <= by2; decide), ?_⟩)))))⟩)))));refine za1 (zf9 (zj4 ⟨[], rfl, dy5 _, zt2 (ks := [.inr d.x, .inr d.y]) hr.units hL.at_ ?_⟩));rw [zC9]
  have fin : ∀ zs : List Str, (∀ z ∈ zs, uy9 z = true) -> zi2 L d.x d.y = zs -> BE ⟨(cxOf CX0 P w K mg base nCa "can_be_done" (za0 sCan) f cdv A outer s H E).nox, F0, A0, fun _ _ _ => False⟩ [some (.o q), some (.d (dP d)), some (.d (.str d.kd)), some (.d (.str d.x)), some (.d (.str d.y)), some (.d (.str d.w))] W (match za8 sCan with | [_, .Return (some (.BoolOp _ [_, .Compare _ _ [r] _] _)) _] => r | _ => .Constant .none 0 ⟨0, 0, 0, 0⟩) (fun y W2 => OB ⟨(cxOf CX0 P w K mg base nCa "can_be_done" (za0 sCan) f cdv A outer s H E).nox, F0, A0, fun _ _ _ => False⟩ (hy5 .Eq) (.d (.list ((zs.take 1).map .str))) y W2 k) := fun zs hz hw => by
   refine zf9 (za1 (bv 5 rfl ⟨[.str d.w], rfl, (by show 1 <= by2; decide), ze60 hr.units (d := .list ((zs.take 1).map .str)) (e := .list ([d.w].map .str)) (.inl rfl) (.inl rfl) (zm2 fun z h => hz z (my2 h)) (zm2 (by simp [zi5 hok.w])) ?_⟩));rw [show py4 (.list ((zs.take 1).map .str)) (.list ([d.w].map .str)) = decide (zs.take 1 = [d.w]) by simp only [py4]; exact zA7 _ _, <- hw];simpa using hk
  cases hf : ze4 L d.x d.y with
  | none =>
   refine zi0 (zd8 (za7 ⟨1, rfl, zy1 ?_⟩));have := fin [] (by simp) (by unfold zi2; rw [hf]; rfl);rw [show zm7 ([] : List PyData) none (some 1) = [] from zp0 [] 1];exact this
  | some e =>
   obtain ⟨he, hx, hy⟩ := zk6 hf;refine zi0 (zd8 (za7 ⟨1, rfl, za13 (hL.obj e he) ?_⟩));have := fin e.ws (hsk e he) (by unfold zi2; rw [hf]; rfl);rw [show zm7 (e.ws.map jy1) none (some 1) = (e.ws.take 1).map .str by rw [vy7]; exact zp0 _ 1];exact this
 ·have ht : d.tk = false := by simpa using ht
  have hkd : d.kd = "send" := by unfold za6.kd; rw [ht]; rfl
  rw [decide_eq_true hkd];rw [ht] at hk;exact zo4 hk
end
structure zi8 (m : Nat) (L : List Ln) : Prop where
 len : L.length <= m
 ws : ∀ e ∈ L, e.ws.length <= m /\ ∀ z ∈ e.ws, isNm z = true
theorem zi8.sok {m : Nat} {L : List Ln} (h : zi8 m L) : ∀ e ∈ L, ∀ z ∈ e.ws, uy9 z = true := fun e he z hz => zi5 ((h.ws e he).2 z hz)
def zh2 (d : za6) (ws : List Str) : List Str := if d.tk then ws.tail else ws ++ [d.w]
structure Step (L : List Ln) (d : za6) (L' : List Ln) : Prop where
 here : (ze4 L' d.x d.y).map (·.ws) = some (zh2 d (zi2 L d.x d.y))
 else_ : ∀ x y, ¬ (x = d.x /\ y = d.y) -> (ze4 L' x y).map (·.ws) = (ze4 L x y).map (·.ws)
def Frame (W : Wl) (q : Nat) (L : List Ln) (W' : Wl) : Prop := W.length <= W'.length /\ ∀ i, i < W.length -> i ≠ q -> (∀ e ∈ L, e.j ≠ i) -> W'[i]? = W[i]?
def putL (L : List Ln) (x y : Str) (ws : List Str) : List Ln := L.map fun e => if e.key = [.inr x, .inr y] then { e with ws := ws } else e
theorem zQ0 (L : List Ln) (x y : Str) (ws : List Str) (x' y' : Str) : ze4 (putL L x y ws) x' y' = (ze4 L x' y').map fun e => if e.key = [.inr x, .inr y] then { e with ws := ws } else e := by
 unfold ze4 putL;rw [List.find?_map]
 congr 1
 apply congrArg (fun p => List.find? p L)
 funext e
 simp only [Function.comp]
 split <;> rfl
theorem za71 {L : List Ln} {n : Ln} {x y : Str} (h : ze4 L x y = none) : ze4 (L ++ [n]) x y = if n.key = [.inr x, .inr y] then some n else none := by
 unfold ze4 at *;rw [List.find?_append, h];simp [iy7]
 split <;> simp_all
theorem zW2 {L : List Ln} {n : Ln} {x y : Str} (h : ¬ n.key = [.inr x, .inr y]) : ze4 (L ++ [n]) x y = ze4 L x y := by
 unfold ze4;rw [List.find?_append, show List.find? (fun e : Ln => decide (e.key = [.inr x, .inr y])) [n] = none by rw [iy7]; simp only [decide_eq_false h]; rfl];simp
theorem zb72 (L : List Ln) (x y : Str) (ws : List Str) : (putL L x y ws).map (fun e => (e.key, El.o e.j)) = L.map fun e => (e.key, El.o e.j) := by
 unfold putL;rw [ey9];apply ny1;intro e he;simp only [Function.comp]
 split <;> rfl
theorem zd96 (L : List Ln) (x y : Str) (ws : List Str) : (putL L x y ws).map (·.j) = L.map (·.j) := by
 unfold putL;rw [ey9];apply ny1;intro e he;simp only [Function.comp]
 split <;> rfl
theorem ze84 {L : List Ln} (nd : (L.map (·.j)).Nodup) {a b : Ln} (ha : a ∈ L) (hb : b ∈ L) (h : a.j = b.j) : a = b := by
 induction L with
 | nil => simp at ha
 | cons c L ih =>
  rw [ey6, ly6] at nd;have no : ∀ z ∈ L, c.j ≠ z.j := fun z hz e => nd.1 (cy4.mpr ⟨z, hz, e.symm⟩);rcases by7.mp ha with ea | ha'
  ·rcases by7.mp hb with eb | hb'
   ·rw [ea, eb]
   ·rw [ea] at h;exact absurd h (no b hb')
  ·rcases by7.mp hb with eb | hb'
   ·rw [eb] at h;exact absurd h.symm (no a ha')
   ·exact ih nd.2 ha' hb'
theorem ze5.put {W : Wl} {q : Nat} {L : List Ln} (h : ze5 W q L) {e : Ln} {x y : Str} (he : ze4 L x y = some e) (ws : List Str) (V : Wl) (uniq : ∀ a ∈ L, a.key = [.inr x, .inr y] -> a = e) :
  ze5 ((W ++ V).set e.j (.lst (zb2 (ws.map .str)))) q (putL L x y ws) /\ Frame W q L ((W ++ V).set e.j (.lst (zb2 (ws.map .str)))) := by
 obtain ⟨hm, hx, hy⟩ := zk6 he;have hq : q < W.length := (ay3.mp h.at_).1;have hj : e.j < W.length := (ay3.mp (h.obj e hm)).1
 have old : ∀ {i : Nat} {o : OD}, W[i]? = some o -> i ≠ e.j -> ((W ++ V).set e.j (.lst (zb2 (ws.map .str))))[i]? = some o := fun {i o} ho hi => by
  have hl : i < W.length := (ay3.mp ho).1;rw [cy3 (fy4 hi), ay8 hl];exact ho
 refine ⟨⟨?_, fun a ha => ?_, by rw [zd96]; exact h.nd, fun a ha => ?_⟩, by simp, fun i hi iq hL => ?_⟩
 ·rw [zb72];exact old h.at_ (fy4 (h.nq e hm))
 ·obtain ⟨b, hb, rfl⟩ := cy4.mp ha
  by_cases hk : b.key = [.inr x, .inr y]
  ·rw [if_pos hk, uniq b hb hk];show ((W ++ V).set e.j _)[e.j]? = _;rw [gy3 (by rw [cy1]; omega)]
  ·rw [if_neg hk];refine old (h.obj b hb) fun z => hk ?_;rw [ze84 h.nd hb hm z, <- hx, <- hy]
 ·obtain ⟨b, hb, rfl⟩ := cy4.mp ha;have := h.nq b hb
  split <;> exact this
 ·rw [cy3 (hL e hm), ay8 hi]
def newW (W : Wl) (q : Nat) (L : List Ln) (x y : Str) (ws : List Str) : Wl := ((W ++ [OD.lst []]).set q (OD.dT (L.map (fun e : Ln => (e.key, El.o e.j)) ++ [([.inr x, .inr y], .o W.length)]))).set W.length (OD.lst (zb2 (ws.map .str)))
theorem ze5.new {W : Wl} {q : Nat} {L : List Ln} (h : ze5 W q L) (x y : Str) (ws : List Str) : ze5 (newW W q L x y ws) q (L ++ [⟨x, y, W.length, ws⟩]) /\ Frame W q L (newW W q L x y ws) := by
 unfold newW;have hq : q < W.length := (ay3.mp h.at_).1;have hj : ∀ e ∈ L, e.j < W.length := fun e he => (ay3.mp (h.obj e he)).1;refine ⟨⟨?_, fun a ha => ?_, ?_, fun a ha => ?_⟩, by simp, fun i hi iq hL => ?_⟩
 ·rw [cy3 (by omega), gy3 (by simp; omega), fy3];rfl
 ·rcases ey0.mp ha with ha | ha
  ·rw [cy3 (ky5 (hj a ha)), cy3 (fy4 (h.nq a ha)), ay8 (hj a ha)];exact h.obj a ha
  ·cases ey7.mp ha;show (List.set _ W.length _)[W.length]? = _;rw [gy3 (by simp)]
 ·rw [fy3]
  exact zv6 h.nd fun z => by
   obtain ⟨e, he, z⟩ := cy4.mp z;have := hj e he;simp at z;omega
 ·rcases ey0.mp ha with ha | ha
  ·exact h.nq a ha
  ·cases ey7.mp ha;show W.length ≠ q;omega
 ·rw [cy3 (by omega), cy3 (fy4 iq), ay8 hi]
def NewJ (n : Nat) (L L' : List Ln) : Prop := ∀ e ∈ L', (∃ e0 ∈ L, e0.j = e.j) \/ n <= e.j
theorem NewJ.put (n : Nat) (L : List Ln) (x y : Str) (ws : List Str) : NewJ n L (putL L x y ws) := fun a ha => by
 obtain ⟨b, hb, rfl⟩ := cy4.mp ha;refine .inl ⟨b, hb, ?_⟩
 split <;> rfl
theorem NewJ.new {n : Nat} {L : List Ln} {e : Ln} (h : n <= e.j) : NewJ n L (L ++ [e]) := fun a ha => by
 rcases ey0.mp ha with ha | ha
 ·exact .inl ⟨a, ha, rfl⟩
 ·cases ey7.mp ha;exact .inr h
def ze9 (L : List Ln) : Prop := (L.map Ln.key).Nodup
theorem ze9.uniq {L : List Ln} (h : ze9 L) {e : Ln} {x y : Str} (he : ze4 L x y = some e) : ∀ a ∈ L, a.key = [.inr x, .inr y] -> a = e := by
 obtain ⟨hm, hx, hy⟩ := zk6 he;have hk : e.key = [.inr x, .inr y] := by rw [<- hx, <- hy]
 unfold ze9 at h;clear he
 induction L with
 | nil => simp at hm
 | cons c L ih =>
  rw [ey6, ly6] at h;have no : ∀ z ∈ L, c.key ≠ z.key := fun z hz e => h.1 (cy4.mpr ⟨z, hz, e.symm⟩);intro a ha hak;rcases by7.mp ha with ea | ha'
  ·rcases by7.mp hm with eb | hb'
   ·rw [ea, eb]
   ·exact absurd (by rw [<- ea, hak, hk]) (no e hb')
  ·rcases by7.mp hm with eb | hb'
   ·exact absurd (by rw [<- eb, hak, hk]) (no a ha')
   ·exact ih h.2 hb' a ha' hak
theorem ze9.put {L : List Ln} (h : ze9 L) (x y : Str) (ws : List Str) : ze9 (putL L x y ws) := by
 unfold ze9 putL at *;rw [ey9, show (Ln.key ∘ fun e : Ln => if e.key = [.inr x, .inr y] then { e with ws := ws } else e) = Ln.key by funext e; simp only [Function.comp]; split <;> rfl];exact h
theorem find_none {L : List Ln} {x y : Str} (h : ze4 L x y = none) : ([.inr x, .inr y] : List Key) ∉ L.map Ln.key := fun z => by
 obtain ⟨e, he, hk⟩ := cy4.mp z;have := List.find?_eq_none.mp h e he;exact this (by simpa using hk)
theorem ze9.new {L : List Ln} (h : ze9 L) {x y : Str} (hn : ze4 L x y = none) (j : Nat) (ws : List Str) : ze9 (L ++ [⟨x, y, j, ws⟩]) := by
 unfold ze9 at *;rw [fy3];exact zv6 h (find_none hn)
theorem zi8.put {m : Nat} {L : List Ln} (h : zi8 m L) (x y : Str) {ws : List Str} (h1 : ws.length <= m + 1) (h2 : ∀ z ∈ ws, isNm z = true) : zi8 (m + 1) (putL L x y ws) := ⟨by unfold putL; rw [ay4]; exact vy9 h.len, fun a ha => by
 obtain ⟨b, hb, rfl⟩ := cy4.mp ha
 split
 ·exact ⟨h1, h2⟩
 ·exact ⟨vy9 (h.ws b hb).1, (h.ws b hb).2⟩⟩
theorem zi8.new {m : Nat} {L : List Ln} (h : zi8 m L) (x y : Str) (j : Nat) {ws : List Str} (h1 : ws.length <= m + 1) (h2 : ∀ z ∈ ws, isNm z = true) : zi8 (m + 1) (L ++ [⟨x, y, j, ws⟩]) := ⟨by rw [cy1]; exact Nat.succ_le_succ h.len, fun a ha => by
 rcases ey0.mp ha with ha | ha
 ·exact ⟨vy9 (h.ws a ha).1, (h.ws a ha).2⟩
 ·cases ey7.mp ha
  exact ⟨h1, h2⟩⟩
theorem Step.put {L : List Ln} {d : za6} {e : Ln} (he : ze4 L d.x d.y = some e) {ws : List Str} (hw : ws = zh2 d e.ws) : Step L d (putL L d.x d.y ws) := by
 have hk : e.key = [.inr d.x, .inr d.y] := by obtain ⟨_, hx, hy⟩ := zk6 he; rw [<- hx, <- hy]
 constructor
 ·rw [zQ0, he];simp only [xy3, if_pos hk];unfold zi2;rw [he, hw];rfl
 ·intro x y hne;rw [zQ0];cases h : ze4 L x y with
  | none => rfl
  | some a =>
   obtain ⟨_, hx, hy⟩ := zk6 h;have : ¬ a.key = [.inr d.x, .inr d.y] := fun z => hne (by rw [<- hx, <- hy]; simpa using z);simp only [xy3, if_neg this]
theorem Step.new {L : List Ln} {d : za6} (hn : ze4 L d.x d.y = none) (j : Nat) {ws : List Str} (hw : ws = zh2 d []) : Step L d (L ++ [⟨d.x, d.y, j, ws⟩]) := by
 constructor
 ·rw [za71 hn, if_pos rfl, hw];unfold zi2;rw [hn];rfl
 ·intro x y hne;rw [zW2 (fun z => hne (by simpa [eq_comm] using z))]
section
variable {P : cy8} {w : World} {K : ay5} {mg : Str -> Option Value} {base : Heap} {kA : Addr}
def rDo : RB := fun as W k => ∃ (q : Nat) (d : za6) (L : List Ln) (m : Nat), as = [.o q, .d (dP d)] /\ d.Ok /\ ze5 W q L /\ ze9 L /\ zi8 m L /\ m <= 1000 /\ (d.tk = true -> zi2 L d.x d.y ≠ []) /\
 ∀ W' L', ze5 W' q L' -> ze9 L' -> zi8 (m + 1) L' -> Step L d L' -> Frame W q L W' -> NewJ W.length L L' -> k (.d .none) W'
abbrev nDo : List Str := ["lines", "deed", "kind", "giver", "taker", "word", "words"]
theorem scDo : zc1 nDo ["lines", "deed"] (za0 sDo) := ⟨rfl, rfl, rfl, by decide +kernel, rfl, by decide +kernel, by decide +kernel⟩
theorem ndDo : nDo.Nodup := by decide +kernel
theorem zd98 {f : Addr} {fd : fy7} (F : Fun K "do_deed" "do_deed" sDo f fd) (T : TxtN K mg kA) : zj9 P w K mg base CX0 1 f fd ["lines", "deed"] (spB K rDo) := by
 refine zs5 F scDo (fun as W k hR => by obtain ⟨q, d, L, m, e, _⟩ := hR; subst e; rfl) fun cdv A outer s H E hr F0 A0 as W k hcl hR => ?_;obtain ⟨q, d, L, m, e, hok, hL, hK, hS, hm, ht, hk⟩ := hR;subst e;have hq : q < W.length := (ay3.mp hL.at_).1;have hL1 : ∀ {a : Nat}, a <= 2000 -> a < by2 := fun h => ly7 h (by8 (show 2000 < 3000 by decide) (zb7 (by decide)));refine za4 (zs1 (bv 1 rfl (zF9 rfl (.cons (i := 2) ndDo rfl (Or.inl rfl) (.cons (i := 3) ndDo rfl (Or.inl rfl) (.cons (i := 4) ndDo rfl (Or.inl rfl) (.cons (i := 5) ndDo rfl (Or.inl rfl) .nil)))) rfl ?_)));refine za4 (zc4 (i := 6) ndDo rfl (Or.inl rfl) (zm8 iy6 PySem.F.slot_dict_setdefault PySem.F.type_dict_setdefault (bv 0 rfl ⟨.inr ⟨rfl, .inr ⟨_, hL.at_⟩⟩, za2 (zK9 (za2 (bv 3 rfl (za1 (bv 4 rfl ⟨[.inr d.x, .inr d.y], rfl, (by show 2 <= by2; decide), za1 (zq4 (zj4 ⟨dy5 _, ?_⟩))⟩)))))⟩)));refine zT7 hr.units (by rw [ay8 hq]; exact hL.at_) (fun e he => ?_) (fun hn => ⟨?_, ?_⟩)
 ·rw [zC9] at he;cases hf : ze4 L d.x d.y with
  | none => rw [hf] at he; cases he
  | some l =>
   rw [hf] at he;cases he;obtain ⟨hmem, hx, hy⟩ := zk6 hf;obtain ⟨hwl, hwn⟩ := hS.ws l hmem;have hlj : l.j < W.length := (ay3.mp (hL.obj l hmem)).1;have hobj : (W ++ [OD.lst []])[l.j]? = some (.lst (zb2 (l.ws.map .str))) := by rw [ay8 hlj]; exact hL.obj l hmem
   have go : ∀ ws : List Str, ws = zh2 d l.ws -> ws.length <= m + 1 -> (∀ z ∈ ws, isNm z = true) -> k (.d .none) ((W ++ [OD.lst []]).set l.j (.lst (zb2 (ws.map .str)))) := fun ws e1 e2 e3 => by
    obtain ⟨a, b⟩ := hL.put hf ws [OD.lst []] (hK.uniq hf);exact hk _ _ a (hK.put _ _ _) (hS.put _ _ e2 e3) (Step.put hf e1) b (NewJ.put _ _ _ _ _)
   refine zb0 (zl2 (zd5 rfl (bv 2 rfl (zc2 (zn0 ⟨_, rfl, ?_⟩)))))
   by_cases htk : d.tk = true
   ·have hkd : d.kd ≠ "send" := by
     unfold za6.kd;rw [htk];decide +kernel
    rw [decide_eq_false hkd];have hne := ht htk;unfold zi2 at hne;rw [hf] at hne;cases hws : l.ws with
    | nil => exact absurd hws hne
    | cons z rest =>
     rw [hws] at hobj hwl hwn;refine zm5 (zb0 (ze3 (zm8 gy0 PySem.F.slot_list_pop PySem.F.type_list_pop (bv 6 rfl ⟨.inl ⟨rfl, _, hobj⟩, za1 (za7 (zK3 (y := .d (.str z)) (es := zb2 (rest.map .str)) hobj ?_))⟩))));exact go rest (by unfold zh2; rw [if_pos htk, hws]; rfl) (by simp at hwl; omega) fun y hy => hwn y (by0 _ hy)
   ·have htk : d.tk = false := by simpa using htk
    have hkd : d.kd = "send" := by unfold za6.kd; rw [htk]; rfl
    rw [decide_eq_true hkd];refine zo4 (zb0 (ze3 (zm8 gy0 iy1 iy2 (bv 6 rfl ⟨.inl ⟨rfl, _, hobj⟩, za1 (bv 5 rfl (zg6 hobj ?_ ?_))⟩))))
    ·simp only [zb2, ay4];exact hL1 (by omega)
    ·have := go (l.ws ++ [d.w]) (by unfold zh2; rw [htk]; rfl) (by rw [cy1]; simp; omega) (fun z hz => by
      rcases ey0.mp hz with hz | hz
      ·exact hwn z hz
      ·cases ey7.mp hz; exact hok.w)
     simpa [zb2] using this
 ·rw [ay4];have := hS.len;exact hL1 (by omega)
 ·rw [zC9] at hn
  have hf : ze4 L d.x d.y = none := by
   cases h : ze4 L d.x d.y with
   | none => rfl
   | some l => rw [h] at hn; cases hn
  have hw0 : zi2 L d.x d.y = [] := by unfold zi2; rw [hf]; rfl
  have htk : d.tk = false := by
   cases h : d.tk with
   | false => rfl
   | true => exact absurd hw0 (ht h)
  have hkd : d.kd = "send" := by unfold za6.kd; rw [htk]; rfl
  refine zb0 (zl2 (zd5 rfl (bv 2 rfl (zc2 (zn0 ⟨_, rfl, ?_⟩)))));rw [decide_eq_true hkd]
  have hobj : ((W ++ [OD.lst []]).set q (OD.dT (L.map (fun e : Ln => (e.key, El.o e.j)) ++ [([.inr d.x, .inr d.y], .o W.length)])))[W.length]? = some (.lst []) := by
   rw [cy3 (by omega)];simp
  refine zo4 (zb0 (ze3 (zm8 gy0 iy1 iy2 (bv 6 rfl ⟨.inl ⟨rfl, _, hobj⟩, za1 (bv 5 rfl (zg6 hobj (hL1 (by simp)) ?_))⟩))));obtain ⟨a, b⟩ := hL.new d.x d.y [d.w];exact hk _ _ a (hK.new hf _ _) (hS.new _ _ _ (by simp) (by simp [hok.w])) (Step.new hf _ (by unfold zh2; rw [htk]; rfl)) b (NewJ.new (ay6 _))
end
abbrev Wd := Str -> Str -> List Str
def zd1 (f : Wd) (d : za6) : Wd := fun x y => if x = d.x /\ y = d.y then zh2 d (f x y) else f x y
def zg1 (ds : List za6) : Wd := ds.foldl zd1 fun _ _ => []
def zm4 (f : Wd) (d : za6) : Bool := !d.tk || decide ((f d.x d.y).take 1 = [d.w])
def Goes (ds : List za6) : Prop := ∀ i d, ds[i]? = some d -> zm4 (zg1 (ds.take i)) d = true
theorem zQ1 {ds : List za6} {i : Nat} {d : za6} (h : ds[i]? = some d) : zg1 (ds.take (i + 1)) = zd1 (zg1 (ds.take i)) d := by
 unfold zg1;rw [ey8, h];simp [List.foldl_append]
theorem Step.words {L L' : List Ln} {d : za6} (h : Step L d L') {f : Wd} (hf : ∀ x y, zi2 L x y = f x y) : ∀ x y, zi2 L' x y = zd1 f d x y := fun x y => by
 unfold zd1
 by_cases e : x = d.x /\ y = d.y
 ·obtain ⟨rfl, rfl⟩ := e;rw [if_pos ⟨rfl, rfl⟩, <- hf];show ((ze4 L' d.x d.y).map (·.ws)).getD [] = _;rw [h.here];rfl
 ·rw [if_neg e, <- hf];show ((ze4 L' x y).map (·.ws)).getD [] = ((ze4 L x y).map (·.ws)).getD [];rw [h.else_ x y e]
structure zo1 (W : Wl) (q : Nat) (m : Nat) (f : Wd) (W' : Wl) (L : List Ln) : Prop where
 at_ : ze5 W' q L
 ks : ze9 L
 sm : zi8 m L
 fs : ∀ x y, zi2 L x y = f x y
 js : ∀ e ∈ L, W.length <= e.j
 le : W.length <= W'.length
 old : ∀ i, i < W.length -> i ≠ q -> W'[i]? = W[i]?
theorem zo1.step {W W1 W2 : Wl} {q m : Nat} {f : Wd} {L L2 : List Ln} {d : za6} (h : zo1 W q m f W1 L) (a : ze5 W2 q L2) (b : ze9 L2) (c : zi8 (m + 1) L2) (s : Step L d L2) (fr : Frame W1 q L W2) (nj : NewJ W1.length L L2) : zo1 W q (m + 1) (zd1 f d) W2 L2 where
 at_ := a
 ks := b
 sm := c
 fs := s.words h.fs
 js := fun e he => by
  rcases nj e he with ⟨e0, h0, h1⟩ | h1
  ·rw [<- h1]; exact h.js e0 h0
  ·exact dy9 h.le h1
 le := dy9 h.le fr.1
 old := fun i hi iq => (fr.2 i (by8 hi h.le) iq fun e he z => by have := h.js e he; omega).trans (h.old i hi iq)
theorem zc25 {f : Wd} {d : za6} (h : zm4 f d = true) (ht : d.tk = true) : f d.x d.y ≠ [] := fun z => by
 unfold zm4 at h;rw [ht, z] at h;simp at h
theorem ze9.self {L : List Ln} (h : ze9 L) {e : Ln} (he : e ∈ L) : ze4 L e.x e.y = some e := by
 cases hf : ze4 L e.x e.y with
 | none => exact absurd (cy4.mpr ⟨e, he, rfl⟩) (find_none hf)
 | some a => rw [h.uniq hf e he rfl]
theorem Step.keys {L L' : List Ln} {d : za6} {p : Str -> Str -> Prop} (h : Step L d L') (nd : ze9 L') (hK : ∀ e ∈ L, p e.x e.y) (hd : p d.x d.y) : ∀ e ∈ L', p e.x e.y := fun e he => by
 by_cases hx : e.x = d.x /\ e.y = d.y
 ·rw [hx.1, hx.2]; exact hd
 ·have h1 := h.else_ e.x e.y hx;rw [nd.self he] at h1;cases hf : ze4 L e.x e.y with
  | none => rw [hf] at h1; cases h1
  | some a =>
   obtain ⟨m, h2, h3⟩ := zk6 hf;have := hK a m;rw [h2, h3] at this;exact this
section
variable {P : cy8} {w : World} {K : ay5} {mg : Str -> Option Value} {base : Heap} {kA : Addr}
def zc87 : RB := fun as W k => ∃ ds : List za6, as = [.d (rP ds)] /\ (∀ d ∈ ds, d.Ok) /\ ds.length <= 900 /\ Goes ds /\ ∀ V L, zo1 W W.length ds.length (zg1 ds) (W ++ V) L -> (∀ e ∈ L, ∃ d ∈ ds, d.x = e.x /\ d.y = e.y) -> k (.o W.length) (W ++ V)
abbrev nBh : List Str := ["row", "lines", "number", "deed"]
theorem scBh : zc1 nBh ["row"] (za0 zn9) := ⟨rfl, rfl, rfl, by decide +kernel, rfl, by decide +kernel, by decide +kernel⟩
theorem ndBh : nBh.Nodup := by decide +kernel
theorem zc88 {d : za6} (h : d.Ok) : za69 (dP d) = true := by
 have hne : d.x ≠ d.y := h.ne
 have hk : kdD (.str d.kd) = true := by
  show decide _ = true;rcases zd69 d with e | e <;> simp [e]
 show (kdD (.str d.kd) && (nmD (.str d.x) && nmD (.str d.y) && nmD (.str d.w) && neqD (.str d.x) (.str d.y))) = true;rw [hk, show nmD (.str d.x) = true from h.x, show nmD (.str d.y) = true from h.y, show nmD (.str d.w) = true from h.w];simp [neqD, hne]
theorem zW3 (d : za6) (h : d.Ok) : zc23 (dP d) := fun e he => by
 have l1 := za28 h.x;have l2 := za28 h.y;have l3 := za28 h.w;have l4 := kd_len d;simp at he;rcases he with rfl | rfl | rfl | rfl <;> exact zb7 (by omega)
theorem zI2 {f fN fD fC fO : Addr} {fd dN dD dC dO : fy7} (F : Fun K "lines_behind" "lines_behind" zn9 f fd) (T : TxtN K mg kA) (DN : Def K mg "is_name" zw4 fN dN ["thing"]) (DD : Def K mg "is_deed" zH9 fD dD ["thing"]) (DC : Def K mg "can_be_done" sCan fC dC ["lines", "deed"]) (DO : Def K mg "do_deed" sDo fO dO ["lines", "deed"]) :
  zj9 P w K mg base CX0 3 f fd ["row"] (spB K zc87) := by
 have ND := @zc86 P w K mg base kA _ _ _ _ DD.fn T DN;have NC := @zc24 P w K mg base kA _ _ DC.fn T;have NO := @zd98 P w K mg base kA _ _ DO.fn T;refine zs5 F scBh (fun as W k hR => by obtain ⟨ds, e, _⟩ := hR; subst e; rfl) fun cdv A outer s H E hr F0 A0 as W k hcl hR => ?_;obtain ⟨ds, e, hok, hl, hgo, hk⟩ := hR;subst e;refine za4 (zl2 (zo6 (zj3 (zl1 rfl T.t.isi za66 rfl T.t.tuple_ zk5 (by simp) (bv 0 rfl ⟨_, .inl rfl, _, rfl, ?_⟩)))));refine zm5 (zj5 (za4 (zc4 (i := 1) ndBh rfl (Or.inl rfl) (zB1 ?_))));have start : zo1 W W.length 0 (fun _ _ => []) (W ++ [.dT []]) [] := ⟨⟨by simp, by simp, by simp, by simp⟩, by simp [ze9], ⟨by simp, by simp⟩, fun _ _ => rfl, by simp, by simp, fun i hi _ => ay8 hi⟩
 refine za4 (zc63 oy2 rfl rfl T.t.enum_ (za1 (bv 0 rfl ⟨ds.map dP, W.length, fun i S' W' => ∃ o2 o3 L, S' = [some (.d (rP ds)), some (.o W.length), o2, o3] /\ zo1 W W.length i (zg1 (ds.take i)) W' L /\ ∀ e ∈ L, ∃ d ∈ ds, d.x = e.x /\ d.y = e.y, rfl, ay6 _, by simp, ⟨none, none, [], rfl, start, by simp⟩, ?_, ?_⟩)))
 ·rintro i dd S' W' hd ⟨o2, o3, L, rfl, hL, hK⟩;rw [by3] at hd;cases hy : ds[i]? with
  | none => rw [hy] at hd; cases hd
  | some d =>
   rw [hy] at hd;cases hd;have hdk := hok d (cy5 hy);have hi : i < ds.length := (ay3.mp hy).1;have hcan := hgo i d hy;refine zF9 rfl (.cons (i := 2) ndBh rfl (Or.inl rfl) (.cons (i := 3) ndBh rfl (Or.inl rfl) .nil)) rfl ?_;refine za4 (zl2 (BW.bt (zA0 (zo6 (zj3 (za9 ND (hr.mono (by decide)) rfl DD.at_ DD.fn.kp DD.bd (za1 (bv 3 rfl ⟨dP d, rfl, zW3 d hdk, _, rfl, ?_⟩))))))));rw [zc88 hdk];refine zm5 (zu8 (zo6 (zj3 (za9 NC (hr.mono (by decide)) rfl DC.at_ DC.fn.kp DC.bd (za2 (bv 1 rfl (za1 (bv 3 rfl ⟨W.length, d, L, rfl, hdk, hL.at_, hL.sm.sok, _, rfl, ?_⟩))))))));rw [hL.fs];have hc' : (!d.tk || decide ((zg1 (ds.take i) d.x d.y).take 1 = [d.w])) = true := hcan;rw [hc'];refine zm5 (zj5 (zb0 (ze3 (za9 NO (hr.mono (by decide)) rfl DO.at_ DO.fn.kp DO.bd (za2 (bv 1 rfl (za1 (bv 3 rfl ⟨W.length, d, L, i, rfl, hdk, hL.at_, hL.ks, hL.sm, by omega, fun ht => by rw [hL.fs]; exact zc25 hcan ht, fun W2 L2 a b c st fr nj => ?_⟩))))))));refine ⟨_, _, L2, rfl, ?_, st.keys (p := fun x y => ∃ d ∈ ds, d.x = x /\ d.y = y) b hK ⟨d, cy5 hy, rfl, rfl⟩⟩;rw [zQ1 hy];exact hL.step a b c st fr nj
 ·rintro S' W' ⟨o2, o3, L, rfl, hL, hK⟩
  obtain ⟨V, rfl⟩ : ∃ V, W' = W ++ V := ⟨W'.drop W.length, by
   refine py5 fun i => ?_
   by_cases hi : i < W.length
   ·rw [ay8 hi];exact hL.old i hi (by6 hi)
   ·rw [cy9 (by omega), List.getElem?_drop]
    congr 1
    omega⟩
  rw [ay4, gy7] at hL;exact zb0 (ze7 (bv 1 rfl (hk V L hL hK)))
end
theorem zx0 {ds : List za6} {d : za6} (h : Goes ds) (hc : zm4 (zg1 ds) d = true) : Goes (ds ++ [d]) := fun i e hi => by
 by_cases hl : i < ds.length
 ·rw [ay8 hl] at hi;rw [List.take_append_of_le_length (by omega)];exact h i e hi
 ·have : i = ds.length := by
   have := (ay3.mp hi).1;simp at this;omega
  subst this;rw [cy9 (ay6 _)] at hi;simp at hi;subst hi;rw [List.take_left];exact hc
theorem zc89 (ds : List za6) (d : za6) : zg1 (ds ++ [d]) = zd1 (zg1 ds) d := by unfold zg1; rw [List.foldl_append]; rfl
theorem zc90 {f : Wd} {d : za6} (hf : ∀ x y, ∀ z ∈ f x y, isNm z = true) (hd : d.Ok) : ∀ x y, ∀ z ∈ zd1 f d x y, isNm z = true := fun x y z hz => by
 unfold zd1 at hz
 split at hz
 ·unfold zh2 at hz
  split at hz
  ·exact hf x y z (List.mem_of_mem_tail hz)
  ·rcases ey0.mp hz with h | h
   ·exact hf x y z h
   ·simp at h; rw [h]; exact hd.w
 ·exact hf x y z hz
theorem za72 : ∀ (ds : List za6) (f : Wd), (∀ x y, ∀ z ∈ f x y, isNm z = true) -> (∀ d ∈ ds, d.Ok) -> ∀ x y, ∀ z ∈ ds.foldl zd1 f x y, isNm z = true
 | [], f, hf, _ => hf
 | d :: ds, f, hf, hd => za72 ds (zd1 f d) (zc90 hf (hd d ay9)) fun e he => hd e (by0 _ he)
theorem zc26 {ds : List za6} (h : ∀ d ∈ ds, d.Ok) : ∀ x y, ∀ z ∈ zg1 ds x y, isNm z = true := za72 ds _ (fun _ _ z hz => by simp at hz) h
theorem zQ2 : ∀ (ds : List za6) (f : Wd) (n : Nat), (∀ x y, (f x y).length <= n) -> ∀ x y, (ds.foldl zd1 f x y).length <= n + ds.length
 | [], f, n, hf, x, y => by simpa using hf x y
 | d :: ds, f, n, hf, x, y => by
  have := zQ2 ds (zd1 f d) (n + 1) (fun x y => by
   have := hf x y;unfold zd1
   split
   ·unfold zh2
    split
    ·rw [List.length_tail]; omega
    ·rw [cy1]; simp; omega
   ·omega) x y
  rw [xy4, oy4];omega
theorem za73 (ds : List za6) (x y : Str) : (zg1 ds x y).length <= ds.length := by
 have := zQ2 ds (fun _ _ => []) 0 (fun _ _ => by simp) x y;unfold zg1;omega
structure QU (hs : List Str) (f : Wd) (L : List Uw) : Prop where
 nd : (L.map (·.1)).Nodup
 pr : ∀ e ∈ L, e.1.1 ∈ hs /\ e.1.2 ∈ hs
 at_ : ∀ x y, zr1 L x y = f x y
theorem QU.put {hs : List Str} {f : Wd} {L : List Uw} (h : QU hs f L) (d : za6) (hx : d.x ∈ hs) (hy : d.y ∈ hs) : QU hs (zd1 f d) (zW1 L (d.x, d.y) (zh2 d (f d.x d.y))) := ⟨zc83 h.nd _ _, fun e he => by
 rcases zP9 he with z | z
 ·obtain ⟨a, ha, e1⟩ := cy4.mp z;rw [<- e1];exact h.pr a ha
 ·rw [z]; exact ⟨hx, hy⟩, fun x y => by
 rw [za68];unfold zd1
 by_cases e : x = d.x /\ y = d.y
 ·obtain ⟨rfl, rfl⟩ := e;rw [if_pos rfl, if_pos ⟨rfl, rfl⟩]
 ·rw [if_neg e, if_neg (fun z => e ⟨congrArg Prod.fst z, congrArg Prod.snd z⟩), h.at_]⟩
theorem zb74 : ("take" : Str) ≠ "send" := by decide +kernel
theorem za74 {L : List Uw} {x y : Str} (h : zr1 L x y ≠ []) : zm9 (L.map kvU) [.inr x, .inr y] = some (.d (.list ((zr1 L x y).map .str))) := by
 have e := zI0 L x y;cases hv : zm9 (L.map kvU) [.inr x, .inr y] with
 | none =>
  rw [hv] at e;injection e with e
  injection e with e
  cases hl : zr1 L x y with
  | nil => exact absurd hl h
  | cons a b => rw [hl] at e; cases e
 | some v =>
  rw [hv] at e;exact congrArg some e
theorem hL {j : Nat} (h : j <= 1000) : j < by2 := ly7 h (by8 (show 1000 < 2000 by decide) (zb7 (by decide)))
section
variable {P : cy8} {w : World} {K : ay5} {mg : Str -> Option Value} {base : Heap}
def ze87 : RB := fun as W k => ∃ (u : Nat) (d : za6) (L : List Uw) (hs : List Str) (f : Wd), as = [.o u, .d (dP d)] /\ W[u]? = some (.dT (L.map kvU)) /\ QU hs f L /\ d.Ok /\ L.length <= 900 /\ (f d.x d.y).length <= 900 /\ (d.tk = true -> f d.x d.y ≠ []) /\ k (.d .none) (W.set u (.dT ((zW1 L (d.x, d.y) (zh2 d (f d.x d.y))).map kvU)))
abbrev pDn : List Str := ["_law_under", "_law_deed"]
abbrev nDn : List Str := ["_law_under", "_law_deed", "_law_pair"]
theorem scDn : zc1 nDn pDn (za0 zM2) := ⟨rfl, rfl, rfl, by decide +kernel, rfl, by decide +kernel, by decide +kernel⟩
theorem ndDn : nDn.Nodup := by decide +kernel
theorem zc91 {f : Addr} {fd : fy7} (F : Fun K "_law_done" "_law_done" zM2 f fd) (T : Txt mg) : zj9 P w K mg base CX0 1 f fd pDn (spB K ze87) := by
 refine zs5 F scDn (fun as W k hR => by obtain ⟨u, d, L, hs, g, e, _⟩ := hR; subst e; rfl) fun cdv A outer s H E hr F0 A0 as W k hcl hR => ?_;obtain ⟨u, d, L, hs, g, e, hu, Q, hd, hLl, hg, ht, hk⟩ := hR;subst e;refine za4 (zc4 (i := 2) ndDn rfl (Or.inl rfl) (ze1 (bv 1 rfl (zd8 (za7 ⟨1, rfl, zd8 (za7 ⟨3, rfl, zc79 (ks := prK (d.x, d.y)) rfl (by show 2 < 4; decide) ?_⟩)⟩)))));obtain ⟨tk, x, y, wd⟩ := d;refine zb0 (zl2 (zd5 rfl (zd4 (by intro _ _; rfl) (bv 1 rfl (za7 (zh9 (d := .str (za6.kd ⟨tk, x, y, wd⟩)) rfl (zc2 (zn0 ⟨_, rfl, ?_⟩))))))));have hat : zr1 L x y = g x y := Q.at_ x y;have hg : (g x y).length <= 900 := hg;cases tk with
 | false =>
  rw [decide_eq_true (show za6.kd ⟨false, x, y, wd⟩ = "send" from rfl)];refine zo4 (zb0 (zs1 (zg4 (zm8 iy6 qy7 vy3 (bv 0 rfl ⟨.inr ⟨rfl, .inr ⟨_, hu⟩⟩, za2 (zO6 (bv 2 rfl ⟨prK (x, y), rfl, za1 (zf9 (zj4 ⟨[], rfl, dy5 _, zt2 (ks := prK (x, y)) hr.units hu ?_⟩))⟩))⟩)))));rw [zI0, hat];refine zf9 (za1 (zd4 (by intro _ _; rfl) (bv 1 rfl (za7 (zh9 (d := .str wd) rfl ⟨[.str wd], rfl, (by show 1 <= by2; decide), zv1 (.inl rfl) (.inl rfl) (by rw [ay4]; exact zb7 (by show _ + 1 <= _; omega)) (zG0 (bv 0 rfl (bv 2 rfl (zb56 hr.units hu (hL (by rw [ay4]; omega)) ?_))))⟩)))));have e1 : (g x y).map jy1 ++ [.str wd] = (zh2 ⟨false, x, y, wd⟩ (g x y)).map .str := by simp [zh2]
  rw [e1, zM5];exact hk
 | true =>
  rw [decide_eq_false (show ¬ za6.kd ⟨true, x, y, wd⟩ = "send" from zb74)];have hne : g x y ≠ [] := ht rfl;have hv := za74 (L := L) (x := x) (y := y) (by rw [hat]; exact hne);rw [hat] at hv;refine zm5 (zb0 (zs1 (ze1 (zd4 (by intro _ _; rfl) (bv 0 rfl (zO6 (bv 2 rfl ⟨prK (x, y), rfl, zb46 (ks := prK (x, y)) hr.units hu hv (zd8 (za7 ⟨1, rfl, zi0 (zy1 (zG0 (bv 0 rfl (bv 2 rfl (zb56 hr.units hu (hL (by rw [ay4]; omega)) ?_)))))⟩))⟩)))))))
  have e1 : zm7 ((g x y).map jy1) (some 1) none = (zh2 ⟨true, x, y, wd⟩ (g x y)).map .str := by
   rw [show zm7 ((g x y).map jy1) (some 1) none = ((g x y).map jy1).drop 1 from zt1 _ 1];simp [zh2]
  rw [e1, zM5];exact hk
def zc92 : RB := fun as W k => ∃ (p u : Nat) (L : List Uw) (hs : List Str) (f : Wd), as = [.o p, .o u] /\ ze8 W p /\ u ≠ p /\ W[u]? = some (.dT (L.map kvU)) /\ QU hs f L /\ L.length <= 60 /\ (∀ x y, ∀ z ∈ f x y, isNm z = true) /\ (∃ e ∈ L, e.2 ≠ []) /\ ∀ (d : za6) (ws : List Str) W', d.tk = true -> f d.x d.y = d.w :: ws -> (d.x, d.y) ∈ L.map (·.1) -> zf8 W p W' -> k (.d (dP d)) W'
abbrev pTa : List Str := ["_law_pack_here", "_law_under"]
abbrev nTa : List Str := ["_law_pack_here", "_law_under", "_law_pairs", "_law_pair"]
theorem scTa : zc1 nTa pTa (za0 zk3) := ⟨rfl, rfl, rfl, by decide +kernel, rfl, by decide +kernel, by decide +kernel⟩
theorem ndTa : nTa.Nodup := by decide +kernel
def cTa : Scope := match za8 zk3 with
 | [.Assign _ (.ListComp _ _ sc _) _, _, _] => sc
 | _ => zV8
theorem csTa : zb4 nTa (za0 zk3) ["_law_pair"] ["_law_under"] [1] cTa := ⟨rfl, by decide +kernel, by decide +kernel, by decide +kernel, rfl, by decide +kernel⟩
theorem ndTp : (["_law_pair", "_law_under"] : List Str).Nodup := by decide +kernel
theorem za75 {a b : Pr} (h : prD a = prD b) : a = b := by
 simp only [prD, prK, ey6, List.map_nil, zD8, PyData.tuple.injEq, List.cons.injEq, PyData.str.injEq, and_true] at h;exact Prod.ext h.1 h.2
theorem za76 {L : List Uw} (nd : (L.map (·.1)).Nodup) {e : Pr} (he : e ∈ L.map (·.1)) : zm9 (L.map kvU) (prK e) = some (.d (.list ((zr1 L e.1 e.2).map .str))) := by
 obtain ⟨a, ha, rfl⟩ := cy4.mp he;rw [zp7 nd ha];have e := zI0 L a.1.1 a.1.2;rw [zp7 nd ha] at e;cases hv : zm9 (L.map kvU) (prK a.1) with
 | none =>
  unfold zm9 at hv;rw [Option.map_eq_none_iff, List.find?_eq_none] at hv;exact absurd (decide_eq_true (rfl : (kvU a).1 = prK a.1)) (hv (kvU a) (cy4.mpr ⟨a, ha, rfl⟩))
 | some v =>
  rw [show ([.inr a.1.1, .inr a.1.2] : List Key) = prK a.1 from rfl, hv] at e;exact congrArg some e
theorem za77 {f fR : Addr} {fd dR : fy7} (F : Fun K "_law_taking" "_law_taking" zk3 f fd) (T : Txt mg) (DR : Def K mg "_law_take" zw5 fR dR pTk) : zj9 P w K mg base CX0 2 f fd pTa (spB K zc92) := by
 classical
 have N := @zr0 P w K mg base _ _ DR.fn T;refine zs5 F scTa (fun as W k hR => by obtain ⟨p, u, L, hs, g, e, _⟩ := hR; subst e; rfl) fun cdv A outer s H E hr F0 A0 as W k hcl hR => ?_;obtain ⟨p, u, L, hs, g, e, hp, hup, hu, Q, hL, hnm, hex, hk⟩ := hR;subst e;have hpl := hp.lt;have hul : u < W.length := (ay3.mp hu).1;have hat : ∀ x y, zr1 L x y = g x y := Q.at_;refine za4 (za26 (i := 2) ndTa rfl (Or.inl rfl) rfl csTa (zc10 (zc9 rfl T.sorted_ zt3 (za1 (bv 1 rfl (zM0 (ps := L.map (·.1)) rfl hu (by rw [ey9, ey9]; rfl) Q.nd (by rw [ay4]; omega) fun ps pm _ => ⟨W.length, _, rfl, zc6, zl4 (fun z => decide (∃ e : Pr, z = prD e /\ g e.1 e.2 ≠ [])) id zc6 ?_ ?_ ?_⟩))))))
 ·rw [ay4, pm.length_eq, ay4]; exact zb7 (by omega)
 ·intro z hz;obtain ⟨e, he, rfl⟩ := cy4.mp hz;have he' := pm.mem_iff.mp he;refine zf0 (i := 0) ndTp rfl (by decide) (fun _ _ _ _ _ => Or.inl rfl) (fun _ _ _ _ _ => rfl) ⟨fun cl C ex s H => ?_, fun _ cl C ex s H => bv 0 rfl ⟨rfl, rfl⟩⟩;have hu' : (W ++ [OD.lst (zb2 (ps.map fun p => tupK [.inr p.1, .inr p.2]))])[u]? = some (.dT (L.map kvU)) := by rw [ay8 hul]; exact hu
  have hv := za76 Q.nd he';rw [hat] at hv;refine zd5 rfl (zd4 (by intro _ _; rfl) (bv 1 rfl (bv 0 rfl (zb46 (ks := prK e) hr.units hu' hv (zf9 (zj4 ⟨[], rfl, dy5 _, zS7 hr.units (d := .list ((g e.1 e.2).map .str)) (e := .list (([] : List Str).map .str)) (.inl rfl) (.inl rfl) (zm2 (za30 (hnm e.1 e.2))) (zm2 (by simp)) ⟨_, rfl, ?_, rfl⟩⟩))))));rw [zO3];have inj : (∃ e' : Pr, prD e = prD e' /\ g e'.1 e'.2 ≠ []) ↔ g e.1 e.2 ≠ [] := ⟨fun ⟨e', h1, h2⟩ => by rw [za75 h1]; exact h2, fun h => ⟨e, rfl, h⟩⟩
  show (!decide (g e.1 e.2 = [])) = decide (∃ e' : Pr, prD e = prD e' /\ g e'.1 e'.2 ≠ [])
  by_cases h0 : g e.1 e.2 = []
  ·rw [decide_eq_true h0, decide_eq_false (by rw [inj]; exact fun z => z h0)]; rfl
  ·rw [decide_eq_false h0, decide_eq_true (by rw [inj]; exact h0)]; rfl
 ·have e : ((ps.map fun p => tupK [.inr p.1, .inr p.2]).filter (fun z => decide (∃ e : Pr, z = prD e /\ g e.1 e.2 ≠ []))).map id = (ps.filter fun e => decide (g e.1 e.2 ≠ [])).map prD := by
   rw [List.map_id, List.filter_map]
   have : ps.filter ((fun z => decide (∃ e : Pr, z = prD e /\ g e.1 e.2 ≠ [])) ∘ fun p => tupK [.inr p.1, .inr p.2]) = ps.filter fun e => decide (g e.1 e.2 ≠ []) := by
    refine List.filter_congr fun e _ => ?_;show decide (∃ e' : Pr, prD e = prD e' /\ g e'.1 e'.2 ≠ []) = decide (g e.1 e.2 ≠ []);rw [decide_eq_decide];exact ⟨fun ⟨e', h1, h2⟩ => by rw [za75 h1]; exact h2, fun h => ⟨e, rfl, h⟩⟩
   rw [this]
  rw [e]
  have hfl : (ps.filter fun e => decide (g e.1 e.2 ≠ [])).length <= 60 := by
   have h2 := pm.length_eq;rw [ay4] at h2;exact dy9 (ny6 _ ps) (by omega)
  have hf0 : 0 < (ps.filter fun e => decide (g e.1 e.2 ≠ [])).length := by
   obtain ⟨a, ha, h2⟩ := hex;have h3 := zp7 Q.nd ha;rw [hat] at h3;exact List.length_pos_of_mem (a := a.1) (gy5.mpr ⟨pm.mem_iff.mpr (cy4.mpr ⟨a, ha, rfl⟩), decide_eq_true (by rw [h3]; exact h2)⟩)
  refine za4 (zc4 (i := 3) ndTa rfl (Or.inl rfl) (zd4 (by intro _ _; rfl) (bv 2 rfl (za9 N (hr.mono (by decide)) rfl DR.at_ DR.fn.kp DR.bd (za2 (bv 0 rfl (za1 (zc9 rfl T.len_ zw8 (za1 (bv 2 rfl (zq5 (.inl rfl) ⟨p, _, rfl, hp.app, ?_, ?_, fun b W4 b0 b1 pw4 => ?_⟩)))))))))))
  ·rw [ay4]; omega
  ·rw [ay4]; omega
  rw [ay4] at b1;obtain ⟨b, rfl⟩ : ∃ n : Nat, b = n := ⟨b.toNat, by omega⟩
  obtain ⟨y, hy⟩ : ∃ z, (ps.filter fun e => decide (g e.1 e.2 ≠ []))[b]? = some z := ⟨(ps.filter fun e => decide (g e.1 e.2 ≠ []))[b]'(by omega), by5 _⟩
  have hym := gy5.mp (cy5 hy);have hyL := pm.mem_iff.mp hym.1;have hyn : g y.1 y.2 ≠ [] := by simpa using hym.2
  obtain ⟨W5, rfl, qw4⟩ := pw4.app hpl
  have hu5 : (W5 ++ [OD.lst (zb2 (ps.map fun p => tupK [.inr p.1, .inr p.2]))])[u]? = some (.dT (L.map kvU)) := by
   rw [ay8 (by rw [qw4.len]; exact hul), qw4.get hup];exact hu
  obtain ⟨x, y⟩ := y
  obtain ⟨z, ws, hz⟩ : ∃ z ws, g x y = z :: ws := by
   cases h : g x y with
   | nil => exact absurd h hyn
   | cons z ws => exact ⟨z, ws, rfl⟩
  have hv := za76 Q.nd hyL;rw [hat, show g (x, y).1 (x, y).2 = z :: ws from hz] at hv;refine zu9 (d := prD (x, y)) (zh5 (by rw [by3, hy]; rfl)) ?_;refine zb0 (zh4 (zg4 (zg4 (zo7 (za1 (zc2 ⟨[.str "take"], rfl, (by show 1 <= by2; decide), bv 3 rfl (zA1 (by show 1 + 2 <= by2; decide) (zo7 (za1 (zd4 (by intro _ _; rfl) (zd4 (by intro _ _; rfl) (bv 1 rfl (bv 3 rfl (zb46 (ks := prK (x, y)) hr.units hu5 hv (za7 (zu9 (d := .str z) (zh5 (k := 0) rfl) ⟨[.str z], rfl, (by show 1 <= by2; decide), zA1 (by show 3 + 1 <= by2; decide) ⟨_, W5, _, rfl, rfl, qw4.len.symm, qw4.closed hcl, hk ⟨true, x, y, z⟩ ws W5 rfl hz hyL qw4⟩⟩))))))))))⟩))))))
end
abbrev kvP (e : Uw) : List Key × PyData := (prK e.1, .list (e.2.map .str))
theorem zd99 (L : List Uw) : L.map kvU = (L.map kvP).map fun e => (e.1, El.d e.2) := by
 rw [ey9];rfl
def lenD : PyData -> PyData
 | .list ws => .int ws.length
 | d => d
def zM7 (L : List Uw) : Int := (L.map fun e => (e.2.length : Int)).sum
theorem zQ3 : ∀ {L : List Uw}, 0 < zM7 L -> ∃ e ∈ L, e.2 ≠ []
 | [], h => by simp [zM7] at h
 | a :: L, h => by
  by_cases ha : a.2 = []
  ·have : zM7 (a :: L) = zM7 L := by simp [zM7, ha]
   rw [this] at h;obtain ⟨e, he, h2⟩ := zQ3 h;exact ⟨e, by0 _ he, h2⟩
  ·exact ⟨a, ay9, ha⟩
theorem zQ4 {α : Type} (xs : List α) (x : α) : atI (xs ++ [x]) (-1) = some x := by
 unfold atI
 have : ixN (xs ++ [x]).length (-1) = some xs.length := by
  unfold ixN;rw [cy1];simp;omega
 rw [this];simp
structure Under (hs : List Str) (ds : List za6) (L : List Uw) (i : Nat) : Prop where
 q : QU hs (zg1 ds) L
 go : Goes ds
 row : zk8 hs ds
 dl : ds.length <= i
 ll : L.length <= i
 ne : ∀ e ∈ L, e.1.1 ≠ e.1.2
theorem Under.nil {hs : List Str} : Under hs [] [] 0 := ⟨⟨by simp, by simp, fun _ _ => rfl⟩, fun i d h => by simp at h, ⟨by simp, by simp, by simp⟩, ay6 _, ay6 _, by simp⟩
theorem Under.more {hs : List Str} {ds : List za6} {L : List Uw} {i : Nat} (h : Under hs ds L i) : Under hs ds L (i + 1) := ⟨h.q, h.go, h.row, vy9 h.dl, vy9 h.ll, h.ne⟩
theorem Under.put {hs : List Str} {ds : List za6} {L : List Uw} {i : Nat} (h : Under hs ds L i) {d : za6} (hd : d.Ok) (hx : d.x ∈ hs) (hy : d.y ∈ hs) (hc : zm4 (zg1 ds) d = true) : Under hs (ds ++ [d]) (zW1 L (d.x, d.y) (zh2 d (zg1 ds d.x d.y))) (i + 1) :=
 ⟨by rw [zc89]; exact h.q.put d hx hy, zx0 h.go hc, h.row.snoc hd hx hy, by rw [cy1]; have := h.dl; simp; omega, dy9 (zb70 _ _ _) (by have := h.ll; omega), fun e he => by
  rcases zP9 he with z | z
  ·obtain ⟨a, ha, e1⟩ := cy4.mp z;rw [<- e1];exact h.ne a ha
  ·rw [z]; exact hd.ne⟩
theorem gU {W1 : Wl} {n : Nat} {a b : OD} (h : W1.length = n) : (W1 ++ [a, b])[n]? = some a := by rw [<- h]; simp
theorem gR {W1 : Wl} {n : Nat} {a b : OD} (h : W1.length = n) : (W1 ++ [a, b])[n + 1]? = some b := by rw [<- h]; simp
theorem sU {W1 : Wl} {n : Nat} {a b c : OD} (h : W1.length = n) : (W1 ++ [a, b]).set n c = W1 ++ [c, b] := by rw [<- h]; simp
theorem sR {W1 : Wl} {n : Nat} {a b c : OD} (h : W1.length = n) : (W1 ++ [a, b]).set (n + 1) c = W1 ++ [a, c] := by rw [<- h]; simp
def ze00 : PyData -> Bool
 | .tuple (.str k :: _) => decide (k = "send")
 | _ => false
section
variable {P : cy8} {w : World} {K : ay5} {mg : Str -> Option Value} {base : Heap}
def rRow : RB := fun as W k => ∃ (p m : Nat) (hs : List Str) (st : Bool), as = [.o p, .d (.list (hs.map .str)), .d (.int m), .d (.bool st)] /\ ze8 W p /\ zb67 hs /\ m <= 20 /\ ∀ (ds : List za6) W', zf8 W p W' -> zk8 hs ds -> Goes ds -> ds.length <= 2 * m -> k (.d (rP ds)) W'
abbrev pRo : List Str := ["_law_pack_here", "_law_hands_here", "_law_letters", "_law_story"]
abbrev nRo : List Str := ["_law_pack_here", "_law_hands_here", "_law_letters", "_law_story", "_law_under", "_law_row_here", "_law_k", "_law_waiting", "_law_sent", "_law_pick"]
theorem scRo : zc1 nRo pRo (za0 sRow) := ⟨rfl, rfl, rfl, by decide +kernel, rfl, by decide +kernel, by decide +kernel⟩
theorem ndRo : nRo.Nodup := by decide +kernel
def cRo1 : Scope := match za8 sRow with
 | [_, _, .For _ _ (.Assign _ (.Call _ [.ListComp _ _ sc _] _ _) _ :: _) _ _, _] => sc
 | _ => zV8
def cRo2 : Scope := match za8 sRow with
 | [_, _, .For _ _ (_ :: .Assign _ (.Call _ [.ListComp _ _ sc _] _ _) _ :: _) _ _, _] => sc
 | _ => zV8
theorem ze88 : zb4 nRo (za0 sRow) ["_law_words"] [] [] cRo1 := ⟨rfl, by decide +kernel, by decide +kernel, by decide +kernel, rfl, by decide +kernel⟩
theorem ze89 : zb4 nRo (za0 sRow) ["_law_deed"] [] [] cRo2 := ⟨rfl, by decide +kernel, by decide +kernel, by decide +kernel, rfl, by decide +kernel⟩
theorem ndWo : (["_law_words"] : List Str).Nodup := by decide +kernel
theorem ndDe : (["_law_deed"] : List Str).Nodup := by decide +kernel
structure ze01 (K : ay5) (mg : Str -> Option Value) (fR fS fT fD : Addr) (dR dS dT dD : fy7) : Prop where
 take : Def K mg "_law_take" zw5 fR dR pTk
 send : Def K mg "_law_sending" zh6 fS dS pSe
 taking : Def K mg "_law_taking" zk3 fT dT pTa
 done : Def K mg "_law_done" zM2 fD dD pDn
theorem ze02 {f fR fS fT fD : Addr} {fd dR dS dT dD : fy7} (F : Fun K "_law_row" "_law_row" sRow f fd) (T : Txt mg) (D : ze01 K mg fR fS fT fD dR dS dT dD) : zj9 P w K mg base CX0 3 f fd pRo (spB K rRow) := by
 have N := @zr0 P w K mg base _ _ D.take.fn T;have NS := @zW0 P w K mg base _ _ _ _ D.send.fn T D.take;have NT := @za77 P w K mg base _ _ _ _ D.taking.fn T D.take;have ND := @zc91 P w K mg base _ _ D.done.fn T;refine zs5 F scRo (fun as W k hR => by obtain ⟨p, m, hs, st, e, _⟩ := hR; subst e; rfl) fun cdv A outer s H E hr F0 A0 as W k hcl hR => ?_;obtain ⟨p, m, hs, st, e, hp, hh, hm, hk⟩ := hR;subst e;have hpl := hp.lt;refine za4 (zc4 (i := 4) ndRo rfl (Or.inl rfl) (zB1 ?_));refine za4 (zc4 (i := 5) ndRo rfl (Or.inl rfl) (zq4 (zj4 ⟨dy5 _, ?_⟩)));refine za4 (zv4 oy2 rfl (zo9 rfl T.range_ (zg4 (za7 (bv 2 rfl (za15 (.inl ⟨by decide, by decide⟩) ?_))))));rw [show (2 : Int) * (m : Int) = ((2 * m : Nat) : Int) by omega];have hrl : (zl3 0 ((2 * m : Nat) : Int).toNat).length = 2 * m := by rw [rng]; simp
 refine ⟨_, rfl, by omega, by omega, W.length, fun i S' W' => ∃ (o6 o7 o8 o9 : Option El) (W1 : Wl) (ds : List za6) (L : List Uw), S' = [some (.o p), some (.d (.list (hs.map .str))), some (.d (.int m)), some (.d (.bool st)), some (.o W.length), some (.o (W.length + 1)), o6, o7, o8, o9] /\ W' = W1 ++ [.dT (L.map kvU), .lst (zb2 (ds.map dP))] /\ zf8 W p W1 /\ Under hs ds L i, ay6 _, dy5 _, by simp, ⟨none, none, none, none, W, [], [], by simp [zG3], by simp [zb2], hp.self, .nil⟩, fun _ _ _ _ _ => trivial, ?_, ?_⟩
 ·rintro i z S' W' hz ⟨o6, o7, o8, o9, W1, ds, L, rfl, rfl, hw, U⟩;have hi : i < 2 * m := by rw [<- hrl]; exact (ay3.mp hz).1
  have hl := hw.len;have gP : (W1 ++ [OD.dT (L.map kvU), OD.lst (zb2 (ds.map dP))])[W.length]? = some (.dT ((L.map kvP).map fun e => (e.1, El.d e.2))) := by rw [<- zd99]; exact gU hl
  have hdl := U.dl;have hll := U.ll;refine zn3 (i := 6) ndRo rfl (Or.inl rfl) ?_;refine za4 (zc4 (i := 7) ndRo rfl (Or.inl rfl) (zc9 rfl T.sum_ ze73 (za1 (zd82 (j := W.length) gP fun o => zn4 rfl ze88 (zc78 (bv 4 rfl ⟨W.length, o, L.map kvP, rfl, ?_, zO1 lenD ?_ ?_ ?_ ⟨?_, ?_⟩⟩))))))
  ·rw [sU hl]; exact gU hl
  ·rw [sU hl]; exact gU hl
  ·rw [ay4, ay4]; exact zb7 (by omega)
  ·intro d hd;obtain ⟨kv, hkv, rfl⟩ := cy4.mp hd;obtain ⟨e, he, rfl⟩ := cy4.mp hkv;refine zf0 (i := 0) ndWo rfl (by decide) (fun _ _ _ _ _ => Or.inl rfl) (fun _ _ _ _ _ => rfl) fun cl C ex s H => ?_;exact zc9 rfl T.len_ zw8 (za1 (bv 0 rfl (zq5 (.inl rfl) ⟨rfl, rfl⟩)))
  ·rw [sU hl]; exact gU hl
  have back : ((W1 ++ [OD.dT (L.map kvU), OD.lst (zb2 (ds.map dP))]).set W.length (.fT o ((L.map kvP).map fun e => (e.1, El.d e.2)))).set W.length (.dT ((L.map kvP).map fun e => (e.1, El.d e.2))) = W1 ++ [OD.dT (L.map kvU), OD.lst (zb2 (ds.map dP))] := by rw [sU hl, sU hl, <- zd99]
  rw [back]
  have ei : ((L.map kvP).map (·.2)).map lenD = (L.map fun e => (e.2.length : Int)).map .int := by
   rw [ey9, ey9, ey9];refine ny1 fun e _ => ?_;show PyData.int _ = PyData.int _;rw [ay4]
  rw [ei];refine zd78 rfl (.inl rfl) ?_;refine za4 (zc4 (i := 8) ndRo rfl (Or.inl rfl) (zc9 rfl T.len_ zw8 (za1 (zn4 rfl ze89 (zc10 (bv 5 rfl ⟨W.length + 1, ds.map dP, rfl, gR hl, zl4 ze00 id (gR hl) ?_ ?_ (zq5 (.inl rfl) ?_)⟩))))))
  ·rw [ay4]; exact zb7 (by omega)
  ·intro z hz;obtain ⟨d, hd, rfl⟩ := cy4.mp hz;refine zf0 (i := 0) ndDe rfl (by decide) (fun _ _ _ _ _ => Or.inl rfl) (fun _ _ _ _ _ => rfl) ⟨fun cl C ex s H => ?_, fun _ cl C ex s H => bv 0 rfl ⟨rfl, rfl⟩⟩;exact zd5 rfl (zd4 (by intro _ _; rfl) (bv 0 rfl (za7 (zh9 (d := .str d.kd) rfl (zc2 (zn0 ⟨_, rfl, rfl, rfl⟩))))))
  generalize ((((ds.map dP).filter ze00).map id).length : Int) = sent;refine za4 (zc4 (i := 9) ndRo rfl (Or.inl rfl) (za9 N (hr.mono (by decide)) rfl D.take.at_ D.take.fn.kp D.take.bd (za2 (bv 0 rfl (za1 (za7 ⟨p, 5, rfl, (hw.at hpl).app, by decide, by decide, fun r W2 r0 r1 pw => ?_⟩))))));obtain ⟨W2, rfl, qw⟩ := pw.app (by rw [hl]; exact hpl);have hw2 := hw.trans qw;have hl2 := hw2.len;refine zb0 (zl2 (BT.mono (k := fun b Wc => Wc = W2 ++ [OD.dT (L.map kvU), OD.lst (zb2 (ds.map dP))]) (BW.bt (zy0 (zd5 rfl (bv 8 rfl (bv 2 rfl (zc53 ⟨_, rfl, ?_⟩)))))) fun b Wc hb => ?_))
  ·split
   ·refine zu7 (BW.bt (zA0 (zd5 rfl (bv 7 rfl (za7 (zd60 ⟨_, rfl, ?_⟩))))))
    split
    ·rfl
    ·exact zu8 (zd5 rfl (bv 9 rfl (za7 (zc53 ⟨_, rfl, rfl⟩))))
   ·rfl
  subst hb;have hrn : ∀ x y, (zg1 ds x y).length <= 900 := fun x y => dy9 (za73 ds x y) (by omega);cases b with
  | true =>
   refine zo4 (za4 (ze3 (zm8 gy0 iy1 iy2 (bv 5 rfl ⟨.inl ⟨rfl, _, gR hl2⟩, za1 (za9 NS (hr.mono (by decide)) rfl D.send.at_ D.send.fn.kp D.send.bd (za2 (bv 0 rfl (za1 (bv 1 rfl ⟨p, hs, rfl, (hw2.at hpl).app, hh, fun d W3 dt dk dx dy _ pw3 => ?_⟩)))))⟩))));obtain ⟨W3, rfl, qw3⟩ := pw3.app (by rw [hl2]; exact hpl);have hw3 := hw2.trans qw3;have hl3 := hw3.len;refine zg6 (gR hl3) (hL (by simp [zb2]; omega)) ?_;rw [sR hl3];refine zb0 (ze3 (za9 ND (hr.mono (by decide)) rfl D.done.at_ D.done.fn.kp D.done.bd (za2 (bv 4 rfl (za1 (zd4 (by intro _ _; rfl) (bv 5 rfl (za62 (za7 ⟨1, rfl, zr9 (gR hl3) (e := .d (dP d)) (zQ4 _ _) ⟨W.length, d, L, hs, zg1 ds, rfl, gU hl3, U.q, dk, by omega, hrn _ _, (fun z => by rw [dt] at z; cases z), ?_⟩⟩)))))))));rw [sU hl3];exact ⟨_, _, _, _, W3, ds ++ [d], _, rfl, by simp [zb2], hw3, U.put dk dx dy (by simp [zm4, dt])⟩
  | false =>
   refine zm5 (zb0 (zl2 (BT.mono (k := fun b Wc => Wc = W2 ++ [OD.dT (L.map kvU), OD.lst (zb2 (ds.map dP))] /\ (b = true -> 0 < zM7 L)) (BW.bt (zy0 (zd5 rfl (bv 7 rfl (za7 (zd59 ⟨_, rfl, ?_⟩)))))) fun b Wc hb => ?_)))
   ·split
    ·rename_i hgt
     have hgt : 0 < zM7 L := of_decide_eq_true hgt;refine zu7 (BW.bt (zA0 (zj3 (bv 3 rfl ⟨_, rfl, ?_⟩))))
     split
     ·exact ⟨rfl, fun _ => hgt⟩
     ·exact zu8 (zd5 rfl (bv 9 rfl (za7 (zc53 ⟨_, rfl, rfl, fun _ => hgt⟩))))
    ·exact ⟨rfl, fun z => by cases z⟩
   obtain ⟨rfl, hb⟩ := hb;cases b with
   | true =>
    have hnm := zc26 U.row.ok;refine zo4 (za4 (ze3 (zm8 gy0 iy1 iy2 (bv 5 rfl ⟨.inl ⟨rfl, _, gR hl2⟩, za1 (za9 NT (hr.mono (by decide)) rfl D.taking.at_ D.taking.fn.kp D.taking.bd (za2 (bv 0 rfl (za1 (bv 4 rfl ⟨p, W.length, L, hs, zg1 ds, rfl, (hw2.at hpl).app, by omega, gU hl2, U.q, by omega, hnm, zQ3 (hb rfl), fun d ws W3 dt dw dm pw3 => ?_⟩)))))⟩))));obtain ⟨W3, rfl, qw3⟩ := pw3.app (by rw [hl2]; exact hpl);have hw3 := hw2.trans qw3;have hl3 := hw3.len
    have dp : d.x ∈ hs /\ d.y ∈ hs := by
     obtain ⟨a, ha, e⟩ := cy4.mp dm;have := U.q.pr a ha;rw [e] at this;exact this
    have dn : d.x ≠ d.y := by
     obtain ⟨a, ha, e⟩ := cy4.mp dm;have := U.ne a ha;rw [e] at this;exact this
    have dk : d.Ok := ⟨hh.nm _ dp.1, hh.nm _ dp.2, hnm d.x d.y d.w (by rw [dw]; exact ay9), dn⟩
    refine zg6 (gR hl3) (hL (by simp [zb2]; omega)) ?_;rw [sR hl3];refine zb0 (ze3 (za9 ND (hr.mono (by decide)) rfl D.done.at_ D.done.fn.kp D.done.bd (za2 (bv 4 rfl (za1 (zd4 (by intro _ _; rfl) (bv 5 rfl (za62 (za7 ⟨1, rfl, zr9 (gR hl3) (e := .d (dP d)) (zQ4 _ _) ⟨W.length, d, L, hs, zg1 ds, rfl, gU hl3, U.q, dk, by omega, hrn _ _, (fun _ => by rw [dw]; simp), ?_⟩⟩)))))))));rw [sU hl3];exact ⟨_, _, _, _, W3, ds ++ [d], _, rfl, by simp [zb2], hw3, U.put dk dp.1 dp.2 (by simp [zm4, dw])⟩
   | false =>
    exact zm5 (zj5 ⟨_, _, _, _, W2, ds, L, rfl, rfl, hw2, U.more⟩)
 ·rintro S' W' ⟨o6, o7, o8, o9, W1, ds, L, rfl, rfl, hw, U⟩;have hdl := U.dl;rw [hrl] at hdl;exact zb0 (zh4 (zf4 rfl T.tuple_ zk5 (za1 (bv 5 rfl (zq6 (.inr ⟨_, rfl, gR hw.len⟩) ⟨_, W1, [_, _], rfl, rfl, hw.len.symm, hw.closed hcl, hk ds W1 hw U.row U.go hdl⟩)))))
end
def handOf (d : za6) : Str := if d.tk then d.y else d.x
def ze03 : PyData -> List Str
 | .tuple [_, .str x, .str y, _] => [x, y]
 | _ => []
def zM8 (ds : List za6) : List Str := ds.flatMap fun d => [d.x, d.y]
theorem za78 (ds : List za6) : (ds.map dP).flatMap ze03 = zM8 ds := by
 unfold zM8;rw [List.flatMap_map];rfl
theorem zI3 {α : Type} [DecidableEq α] : ∀ {a b : List α}, a.Nodup -> (∀ x ∈ a, x ∈ b) -> a.length <= b.length
 | [], b, _, _ => by simp
 | x :: a, b, nd, h => by
  simp only [ly6] at nd;have hx : x ∈ b := h x ay9;have := zI3 (a := a) (b := b.erase x) nd.2 fun y hy => (List.mem_erase_of_ne (fun z : y = x => nd.1 (z ▸ hy))).mpr (h y (by0 _ hy));rw [List.length_erase_of_mem hx] at this;have : 0 < b.length := List.length_pos_of_mem hx;simp only [oy4];omega
theorem zp8 {hs : List Str} {ds : List za6} (h : zk8 hs ds) (hh : hs.length <= 8) : (zc7 (zM8 ds)).length <= 8 /\ (zc7 (zM8 ds)).length ≠ 1 := by
 refine ⟨dy9 (zI3 (zp2 _) fun x hx => ?_) hh, fun e => ?_⟩
 ·obtain ⟨d, hd, hxd⟩ := ty8.mp (zg7.mp hx);simp at hxd;rcases hxd with rfl | rfl
  ·exact h.x d hd
  ·exact h.y d hd
 ·obtain ⟨z, hz⟩ := List.length_eq_one_iff.mp e;have hz1 : z ∈ zM8 ds := zg7.mp (by rw [hz]; simp);obtain ⟨d, hd, _⟩ := ty8.mp hz1;have m1 : d.x ∈ zc7 (zM8 ds) := zg7.mpr (ty8.mpr ⟨d, hd, by simp⟩);have m2 : d.y ∈ zc7 (zM8 ds) := zg7.mpr (ty8.mpr ⟨d, hd, by simp⟩);rw [hz] at m1 m2;simp at m1 m2;exact (h.ok d hd).ne (m1.trans m2.symm)
theorem zb75 (ds : List za6) : (zM8 ds).length = 2 * ds.length := by
 unfold zM8
 induction ds with
 | nil => rfl
 | cons d ds ih => rw [List.flatMap_cons, cy1, ih]; simp; omega
section
variable {P : cy8} {w : World} {K : ay5} {mg : Str -> Option Value} {base : Heap}
def zc93 : RB := fun as W k => ∃ d : za6, as = [.d (dP d)] /\ k (.d (.str (handOf d))) W
theorem scHo : zc1 ["deed"] ["deed"] (za0 zl9) := ⟨rfl, rfl, rfl, by decide +kernel, rfl, by decide +kernel, by decide +kernel⟩
theorem zc94 : ("send" : Str) ≠ "take" := by decide +kernel
theorem zI4 {f : Addr} {fd : fy7} (F : Fun K "hand_of" "hand_of" zl9 f fd) : zj9 P w K mg base CX0 1 f fd ["deed"] (spB K zc93) := by
 refine zs5 F scHo (fun as W k hR => by obtain ⟨d, e, _⟩ := hR; subst e; rfl) fun cdv A outer s H E hr F0 A0 as W k hcl hR => ?_;obtain ⟨d, e, hk⟩ := hR;subst e;obtain ⟨tk, x, y, z⟩ := d;refine zb0 (ze7 (ze59 (zd5 rfl (zd4 (by intro _ _; rfl) (bv 0 rfl (za7 (zh9 (d := .str (za6.kd ⟨tk, x, y, z⟩)) rfl (zc2 (zn0 ⟨_, rfl, ?_⟩)))))))));cases tk with
 | false =>
  rw [decide_eq_true (show za6.kd ⟨false, x, y, z⟩ = "send" from rfl)];exact zo4 (zd4 (by intro _ _; rfl) (bv 0 rfl (za7 (zh9 (d := .str x) rfl hk))))
 | true =>
  rw [decide_eq_false (show ¬ za6.kd ⟨true, x, y, z⟩ = "send" from zb74)];exact zm5 (zd4 (by intro _ _; rfl) (bv 0 rfl (za7 (zh9 (d := .str y) rfl hk))))
def zb76 : RB := fun as W k => ∃ (hs : List Str) (ds : List za6), as = [.d (rP ds)] /\ zk8 hs ds /\ hs.length <= 8 /\ ds.length <= 1000 /\ ∀ ss : List Str, ss.Perm (zc7 (zM8 ds)) -> PyProof.Rows.sortedS ss = true -> k (.d (.tuple (ss.map .str))) W
theorem scHs : zc1 ["row"] ["row"] (za0 zg0) := ⟨rfl, rfl, rfl, by decide +kernel, rfl, by decide +kernel, by decide +kernel⟩
def cHs : Scope := match za8 zg0 with
 | [.Return (some (.Call _ [.Call _ [.SetComp _ _ sc _] _ _] _ _)) _] => sc
 | _ => zV8
theorem csHs : zb4 ["row"] (za0 zg0) ["deed", "hand"] [] [] cHs := ⟨rfl, by decide +kernel, by decide +kernel, by decide +kernel, rfl, by decide +kernel⟩
theorem ndHs : (["deed", "hand"] : List Str).Nodup := by decide +kernel
theorem ze91 {d : za6} : zm7 [jy1 d.kd, .str d.x, .str d.y, .str d.w] (some 1) (some 3) = [.str d.x, .str d.y] := rfl
theorem zW4 {f : Addr} {fd : fy7} (F : Fun K "hands_of" "hands_of" zg0 f fd) (T : Txt mg) : zj9 P w K mg base CX0 1 f fd ["row"] (spB K zb76) := by
 refine zs5 F scHs (fun as W k hR => by obtain ⟨hs, ds, e, _⟩ := hR; subst e; rfl) fun cdv A outer s H E hr F0 A0 as W k hcl hR => ?_;obtain ⟨hs, ds, e, hok, hh, hl, hk⟩ := hR;subst e;obtain ⟨o1, o2⟩ := zp8 hok hh;have o3 := zb75 ds;refine zb0 (zh4 (zf4 rfl T.tuple_ zk5 (za1 (zV7 (O := ["deed", "hand"]) (Fv := []) (cap := []) (j1 := 0) (j2 := 1) rfl rfl T.sorted_ zt3 csHs ndHs rfl rfl (by decide) (by decide) (by decide) (fun _ _ _ _ _ => rfl) (fun _ _ _ _ _ => rfl) (zv3 (bv 0 rfl ⟨_, rfl, trivial, ze03, ?_, ?_, ?_⟩))))))
 ·intro z hz;obtain ⟨d, hd, rfl⟩ := cy4.mp hz;intro cl C ex s H;refine ze1 (bv 0 rfl (zd8 (za7 ⟨1, rfl, zd8 (za7 ⟨3, rfl, za12 ⟨rfl, ?_⟩⟩)⟩)));rw [ze91];rfl
 ·intro z hz x hx cl C ex s H;exact bv 1 rfl ⟨rfl, rfl⟩
 ·rw [za78];refine ⟨by rw [o3]; show _ < 4096; omega, by omega, o2, fun ss pm so => ?_⟩;exact zq6 (.inr ⟨_, rfl, zc6⟩) ⟨_, W, [_], rfl, rfl, rfl, hcl, hk ss pm so⟩
def viewOf (x : Str) (ds : List za6) : List za6 := ds.filter fun d => decide (handOf d = x)
def ze92 : RB := fun as W k => ∃ (x : Str) (ds : List za6), as = [.d (rP ds), .d (.str x)] /\ ds.length <= 1000 /\ k (.d (rP (viewOf x ds))) W
abbrev nVi : List Str := ["row", "hand"]
theorem scVi : zc1 nVi nVi (za0 zx8) := ⟨rfl, rfl, rfl, by decide +kernel, rfl, by decide +kernel, by decide +kernel⟩
def cVi : Scope := match za8 zx8 with
 | [.Return (some (.Call _ [.ListComp _ _ sc _] _ _)) _] => sc
 | _ => zV8
theorem csVi : zb4 nVi (za0 zx8) ["deed"] ["hand"] [1] cVi := ⟨rfl, by decide +kernel, by decide +kernel, by decide +kernel, rfl, by decide +kernel⟩
theorem ndVi : (["deed", "hand"] : List Str).Nodup := ndHs
def zI5 (x : Str) : PyData -> Bool
 | .tuple [.str kd, .str a, .str b, _] => decide ((if kd = "take" then b else a) = x)
 | _ => false
theorem zt5 (x : Str) (d : za6) : zI5 x (dP d) = decide (handOf d = x) := by
 obtain ⟨tk, a, b, z⟩ := d;cases tk with
 | false =>
  show decide ((if ("send" : Str) = "take" then b else a) = x) = decide (a = x);rw [if_neg zc94]
 | true =>
  show decide ((if ("take" : Str) = "take" then b else a) = x) = decide (b = x);rw [if_pos rfl]
theorem zc95 {f fO : Addr} {fd dO : fy7} (F : Fun K "view" "view" zx8 f fd) (T : Txt mg) (DO : Def K mg "hand_of" zl9 fO dO ["deed"]) : zj9 P w K mg base CX0 2 f fd nVi (spB K ze92) := by
 have NO := @zI4 P w K mg base _ _ DO.fn;refine zs5 F scVi (fun as W k hR => by obtain ⟨x, ds, e, _⟩ := hR; subst e; rfl) fun cdv A outer s H E hr F0 A0 as W k hcl hR => ?_;obtain ⟨x, ds, e, hl, hk⟩ := hR;subst e;refine zb0 (ze7 (zf4 rfl T.tuple_ zk5 (za1 (zn4 rfl csVi (zv3 (bv 0 rfl ⟨ds.map dP, rfl, zl4 (zI5 x) id trivial ?_ ?_ ?_⟩))))))
 ·rw [ay4]; exact zb7 (by omega)
 ·intro z hz;obtain ⟨d, hd, rfl⟩ := cy4.mp hz;refine zf0 (i := 0) ndVi rfl (by decide) (fun _ _ _ _ _ => Or.inl rfl) (fun _ _ _ _ _ => rfl) ⟨fun cl C ex s H => ?_, fun _ cl C ex s H => bv 0 rfl ⟨rfl, rfl⟩⟩;exact zd5 rfl (za9 NO (hr.mono (by decide)) rfl DO.at_ DO.fn.kp DO.bd (za1 (bv 0 rfl ⟨d, rfl, bv 1 rfl (zn0 ⟨_, rfl, (zt5 x d).symm, rfl⟩)⟩)))
 ·have e : ((ds.map dP).filter (zI5 x)).map id = (viewOf x ds).map dP := by
   rw [List.map_id, List.filter_map];unfold viewOf
   congr 1
   exact List.filter_congr fun d _ => zt5 x d
  rw [e];exact zq6 (.inl rfl) hk
end
def zy7 (kvs : List (List Key × El)) (f : Wd) : Prop := ∀ x y, (zm9 kvs [.inr x, .inr y]).getD (.d (.list [])) = .d (.list ((f x y).map .str))
theorem zy7.put {kvs : List (List Key × El)} {f : Wd} (h : zy7 kvs f) (d : za6) : zy7 (zD9 kvs [.inr d.x, .inr d.y] (.d (.list ((zh2 d (f d.x d.y)).map .str)))) (zd1 f d) := fun x y => by
 rw [zP8];unfold zd1
 by_cases e : x = d.x /\ y = d.y
 ·obtain ⟨rfl, rfl⟩ := e;rw [if_pos rfl, if_pos ⟨rfl, rfl⟩];rfl
 ·rw [if_neg e, if_neg (fun z => e ?_)]
  ·exact h x y
  ·injection z with z1 z2
   injection z2 with z2 _
   exact ⟨uy4 z1, uy4 z2⟩
theorem zy7.at {kvs : List (List Key × El)} {f : Wd} (h : zy7 kvs f) {x y : Str} (hn : f x y ≠ []) : zm9 kvs [.inr x, .inr y] = some (.d (.list ((f x y).map .str))) := by
 have e := h x y;cases hv : zm9 kvs [.inr x, .inr y] with
 | none =>
  rw [hv] at e;injection e with e
  injection e with e
  cases hl : f x y with
  | nil => exact absurd hl hn
  | cons a b => rw [hl] at e; cases e
 | some v =>
  rw [hv] at e;exact congrArg some e
theorem zc96 {a b : List Str} (h : ∀ x, x ∈ a ↔ x ∈ b) : (zc7 a).Perm (zc7 b) := (List.perm_ext_iff_of_nodup (zp2 _) (zp2 _)).mpr fun x => by rw [zg7, zg7]; exact h x
def xD : PyData -> PyData
 | .tuple [_, x, _, _] => x
 | d => d
def yD : PyData -> PyData
 | .tuple [_, _, y, _] => y
 | d => d
theorem ze04 (ds : List za6) (x : Str) : x ∈ ds.map (·.x) ++ ds.map (·.y) ↔ x ∈ zM8 ds := by
 unfold zM8;simp only [ey0, cy4, ty8, by7, ky1, or_false];constructor
 ·rintro (⟨d, hd, rfl⟩ | ⟨d, hd, rfl⟩)
  ·exact ⟨d, hd, .inl rfl⟩
  ·exact ⟨d, hd, .inr rfl⟩
 ·rintro ⟨d, hd, rfl | rfl⟩
  ·exact .inl ⟨d, hd, rfl⟩
  ·exact .inr ⟨d, hd, rfl⟩
theorem za79 {X : Bc} {S : Sl} {W : Wl} {tg iter : Expr} {ki : Nat -> (Wl -> Prop) -> List PyData -> Wl -> Prop} {ds : List PyData} {x : PyData} (hx : x = .tuple ds \/ x = .list ds) (h : ki 0 GT ds W) (he : ∀ {k : KB}, k (.d x) W -> BE X S W iter k) : BI X S W tg iter ki := by
 rcases hx with rfl | rfl
 ·exact zv3 (he ⟨ds, rfl, h⟩)
 ·exact zA5 (he ⟨ds, rfl, h⟩)
section
variable {P : cy8} {w : World} {K : ay5} {mg : Str -> Option Value} {base : Heap}
def ze05 : RB := fun as W k => ∃ d : za6, as = [.d (dP d)] /\ k (.d (.str (handOf d))) W
theorem scHl : zc1 ["_law_deed"] ["_law_deed"] (za0 zp5) := ⟨rfl, rfl, rfl, by decide +kernel, rfl, by decide +kernel, by decide +kernel⟩
theorem zD0 {f : Addr} {fd : fy7} (F : Fun K "_law_hand" "_law_hand" zp5 f fd) (T : Txt mg) : zj9 P w K mg base CX0 1 f fd ["_law_deed"] (spB K ze05) := by
 refine zs5 F scHl (fun as W k hR => by obtain ⟨d, e, _⟩ := hR; subst e; rfl) fun cdv A outer s H E hr F0 A0 as W k hcl hR => ?_;obtain ⟨d, e, hk⟩ := hR;subst e;obtain ⟨tk, x, y, z⟩ := d;refine zb0 (ze7 (zd4 (by intro _ _; rfl) (zf9 (za2 (zd4 (by intro _ _; rfl) (bv 0 rfl (za7 (zh9 (d := .str y) rfl (za1 (zd4 (by intro _ _; rfl) (bv 0 rfl (za7 (zh9 (d := .str x) rfl ⟨[.str y, .str x], rfl, (by show 2 <= by2; decide), zf4 rfl T.int_ ze71 (za1 (zF5 rfl (zd4 (by intro _ _; rfl) (bv 0 rfl (za7 (zh9 (d := .str (za6.kd ⟨tk, x, y, z⟩)) rfl (zc2 (zn0 (zc58 ?_)))))))))⟩)))))))))))));cases tk with
 | false =>
  rw [decide_eq_true (show za6.kd ⟨false, x, y, z⟩ = "send" from rfl)];exact zu9 (d := .str x) rfl hk
 | true =>
  rw [decide_eq_false (show ¬ za6.kd ⟨true, x, y, z⟩ = "send" from zb74)];exact zu9 (d := .str y) rfl hk
def ze06 : RB := fun as W k => ∃ (x : Str) (ds : List za6), as = [.d (rP ds), .d (.str x)] /\ ds.length <= 1000 /\ k (.d (rP (viewOf x ds))) W
abbrev nVl : List Str := ["_law_row_here", "_law_hand_here"]
theorem scVl : zc1 nVl nVl (za0 zp6) := ⟨rfl, rfl, rfl, by decide +kernel, rfl, by decide +kernel, by decide +kernel⟩
def cVl : Scope := match za8 zp6 with
 | [.Return (some (.Call _ [.ListComp _ _ sc _] _ _)) _] => sc
 | _ => zV8
theorem csVl : zb4 nVl (za0 zp6) ["_law_deed"] ["_law_hand_here"] [1] cVl := ⟨rfl, by decide +kernel, by decide +kernel, by decide +kernel, rfl, by decide +kernel⟩
theorem ndVl : (["_law_deed", "_law_hand_here"] : List Str).Nodup := by decide +kernel
theorem zb77 {f fO : Addr} {fd dO : fy7} (F : Fun K "_law_view" "_law_view" zp6 f fd) (T : Txt mg) (DO : Def K mg "_law_hand" zp5 fO dO ["_law_deed"]) : zj9 P w K mg base CX0 2 f fd nVl (spB K ze06) := by
 have NO := @zD0 P w K mg base _ _ DO.fn T;refine zs5 F scVl (fun as W k hR => by obtain ⟨x, ds, e, _⟩ := hR; subst e; rfl) fun cdv A outer s H E hr F0 A0 as W k hcl hR => ?_;obtain ⟨x, ds, e, hl, hk⟩ := hR;subst e;refine zb0 (ze7 (zf4 rfl T.tuple_ zk5 (za1 (zn4 rfl csVl (zv3 (bv 0 rfl ⟨ds.map dP, rfl, zl4 (zI5 x) id trivial ?_ ?_ ?_⟩))))))
 ·rw [ay4]; exact zb7 (by omega)
 ·intro z hz;obtain ⟨d, hd, rfl⟩ := cy4.mp hz;refine zf0 (i := 0) ndVl rfl (by decide) (fun _ _ _ _ _ => Or.inl rfl) (fun _ _ _ _ _ => rfl) ⟨fun cl C ex s H => ?_, fun _ cl C ex s H => bv 0 rfl ⟨rfl, rfl⟩⟩;exact zd5 rfl (za9 NO (hr.mono (by decide)) rfl DO.at_ DO.fn.kp DO.bd (za1 (bv 0 rfl ⟨d, rfl, bv 1 rfl (zn0 ⟨_, rfl, (zt5 x d).symm, rfl⟩)⟩)))
 ·have e : ((ds.map dP).filter (zI5 x)).map id = (viewOf x ds).map dP := by
   rw [List.map_id, List.filter_map];unfold viewOf
   congr 1
   exact List.filter_congr fun d _ => zt5 x d
  rw [e];exact zq6 (.inl rfl) hk
def ze93 : RB := fun as W k => ∃ (hs : List Str) (ds : List za6), as = [.d (rP ds)] /\ zk8 hs ds /\ hs.length <= 8 /\ ds.length <= 900 /\ ∀ ss : List Str, ss.Perm (zc7 (zM8 ds)) -> PyProof.Rows.sortedS ss = true -> k (.d (.list (ss.map .str))) W
theorem scAh : zc1 ["_law_row_here"] ["_law_row_here"] (za0 zw7) := ⟨rfl, rfl, rfl, by decide +kernel, rfl, by decide +kernel, by decide +kernel⟩
def cAh1 : Scope := match za8 zw7 with
 | [.Return (some (.Call _ [.Call _ [.BinOp (.ListComp _ _ sc _) _ _ _] _ _] _ _)) _] => sc
 | _ => zV8
def cAh2 : Scope := match za8 zw7 with
 | [.Return (some (.Call _ [.Call _ [.BinOp _ _ (.ListComp _ _ sc _) _] _ _] _ _)) _] => sc
 | _ => zV8
theorem ze94 : zb4 ["_law_row_here"] (za0 zw7) ["_law_deed"] [] [] cAh1 := ⟨rfl, by decide +kernel, by decide +kernel, by decide +kernel, rfl, by decide +kernel⟩
theorem ze95 : zb4 ["_law_row_here"] (za0 zw7) ["_law_deed"] [] [] cAh2 := ⟨rfl, by decide +kernel, by decide +kernel, by decide +kernel, rfl, by decide +kernel⟩
theorem zc97 {f : Addr} {fd : fy7} (F : Fun K "_law_all_hands" "_law_all_hands" zw7 f fd) (T : Txt mg) : zj9 P w K mg base CX0 1 f fd ["_law_row_here"] (spB K ze93) := by
 refine zs5 F scAh (fun as W k hR => by obtain ⟨hs, ds, e, _⟩ := hR; subst e; rfl) fun cdv A outer s H E hr F0 A0 as W k hcl hR => ?_;obtain ⟨hs, ds, e, hok, hh, hl, hk⟩ := hR;subst e;obtain ⟨o1, o2⟩ := zp8 hok hh;have pe := zc96 (ze04 ds);have o3 := pe.length_eq;have e1 : (ds.map dP).map xD = (ds.map (·.x)).map .str := by rw [ey9, ey9]; rfl
 have e2 : (ds.map dP).map yD = (ds.map (·.y)).map .str := by rw [ey9, ey9]; rfl
 refine zb0 (zb38 (zU8 rfl rfl T.sorted_ zt3 rfl T.set_ ze74 (zg4 (zn4 rfl ze94 (zv3 (bv 0 rfl ⟨ds.map dP, rfl, zO1 xD trivial ?_ ?_ (zn4 rfl ze95 (zv3 (bv 0 rfl ⟨ds.map dP, rfl, zO1 yD trivial ?_ ?_ (zv1 (.inl rfl) (.inl rfl) ?_ ⟨ds.map (·.x) ++ ds.map (·.y), ?_, by omega, by omega, ?_, fun ss pm so => ?_⟩)⟩)))⟩))))))
 ·rw [ay4]; exact zb7 (by omega)
 ·intro z hz;obtain ⟨d, hd, rfl⟩ := cy4.mp hz;refine zf0 (i := 0) ndDe rfl (by decide) (fun _ _ _ _ _ => Or.inl rfl) (fun _ _ _ _ _ => rfl) fun cl C ex s H => ?_;exact zd4 (by intro _ _; rfl) (bv 0 rfl (za7 (zh9 (d := .str d.x) rfl ⟨rfl, rfl⟩)))
 ·rw [ay4]; exact zb7 (by omega)
 ·intro z hz;obtain ⟨d, hd, rfl⟩ := cy4.mp hz;refine zf0 (i := 0) ndDe rfl (by decide) (fun _ _ _ _ _ => Or.inl rfl) (fun _ _ _ _ _ => rfl) fun cl C ex s H => ?_;exact zd4 (by intro _ _; rfl) (bv 0 rfl (za7 (zh9 (d := .str d.y) rfl ⟨rfl, rfl⟩)))
 ·simp only [ay4]; exact zb7 (by omega)
 ·rw [e1, e2, <- fy3]; exact .inl rfl
 ·rw [cy1, ay4, ay4]; show _ < 4096; omega
 ·exact ⟨_, W, [], rfl, rfl, rfl, hcl, hk ss (pm.trans pe) so⟩
def ze96 : RB := fun as W k => ∃ (x : PyData) (ds : List za6), as = [.d x] /\ (x = .tuple (ds.map dP) \/ x = .list (ds.map dP)) /\ (∀ d ∈ ds, d.Ok) /\ ds.length <= 450 /\ ∀ c : Bool, (c = true ↔ Goes ds) -> k (.d (.bool c)) W
def ze97 : RB := fun as W k => ∃ (ds : List za6), as = [.d (rP ds)] /\ (∀ d ∈ ds, d.Ok) /\ ds.length <= 450 /\ ∀ c : Bool, (c = true ↔ Goes ds) -> k (.d (.bool c)) W
abbrev nCl : List Str := ["_law_row_here", "_law_under", "_law_kind", "_law_one", "_law_other", "_law_word"]
theorem scCl : zc1 nCl ["_law_row_here"] (za0 zC6) := ⟨rfl, rfl, rfl, by decide +kernel, rfl, by decide +kernel, by decide +kernel⟩
theorem ndCl : nCl.Nodup := by decide +kernel
theorem za80 {f : Addr} {fd : fy7} (F : Fun K "_law_can" "_law_can" zC6 f fd) (T : Txt mg) : zj9 P w K mg base CX0 1 f fd ["_law_row_here"] (spB K ze96) := by
 refine zs5 F scCl (fun as W k hR => by obtain ⟨x, ds, e, _⟩ := hR; subst e; rfl) fun cdv A outer s H E hr F0 A0 as W k hcl hR => ?_;obtain ⟨xx, ds, e, hxx, hok, hl, hk⟩ := hR;subst e;refine za4 (zc4 (i := 1) ndCl rfl (Or.inl rfl) (zB1 ?_));refine za4 (zv4 oy2 rfl (za79 hxx ⟨W.length, fun i S' W' => ∃ (o2 o3 o4 o5 : Option El) (kvs : List (List Key × El)), S' = [some (.d xx), some (.o W.length), o2, o3, o4, o5] /\ W' = W ++ [.dT kvs] /\ zy7 kvs (zg1 (ds.take i)) /\ Goes (ds.take i) /\ kvs.length <= i, ay6 _, dy5 _, by simp, ⟨none, none, none, none, [], rfl, rfl, fun _ _ => rfl, fun i d h => by simp at h, by simp⟩, fun _ _ _ _ _ => trivial, ?_, ?_⟩ fun h => bv 0 rfl h))
 ·rintro i z S' W' hz ⟨o2, o3, o4, o5, kvs, rfl, rfl, hT, hg, hkl⟩;rw [by3] at hz;cases hd : ds[i]? with
  | none => rw [hd] at hz; cases hz
  | some d =>
  rw [hd] at hz;cases hz;have hi : i < ds.length := (ay3.mp hd).1;have hdk := hok d (cy5 hd);have hw := zc26 (ds := ds.take i) (fun e he => hok e (my2 he)) d.x d.y;have hwl : (zg1 (ds.take i) d.x d.y).length <= 450 := by have := za73 (ds.take i) d.x d.y; rw [dy2] at this; omega
  have hgs : zm4 (zg1 (ds.take i)) d = true -> Goes (ds.take (i + 1)) := fun h => by
   rw [ey8, hd];exact zx0 hg h
  have hr1 : zg1 (ds.take (i + 1)) = zd1 (zg1 (ds.take i)) d := zQ1 hd;have hTp := hT.put d;rw [<- hr1] at hTp;have hkl' := zb57 kvs [.inr d.x, .inr d.y] (.d (.list ((zh2 d (zg1 (ds.take i) d.x d.y)).map .str)));obtain ⟨tk, x, yy, wd⟩ := d;have hwl : (zg1 (ds.take i) x yy).length <= 450 := hwl;refine zF9 rfl (.cons (i := 2) ndCl rfl (Or.inl rfl) (.cons (i := 3) ndCl rfl (Or.inl rfl) (.cons (i := 4) ndCl rfl (Or.inl rfl) (.cons (i := 5) ndCl rfl (Or.inl rfl) .nil)))) rfl ?_;refine zb0 (zl2 (zd5 rfl (bv 2 rfl (zc2 (zn0 ⟨_, rfl, ?_⟩)))));cases tk with
  | false =>
   rw [decide_eq_true (show za6.kd ⟨false, x, yy, wd⟩ = "send" from rfl)];refine zo4 (zb0 (zs1 (zg4 (zm8 iy6 qy7 vy3 (bv 1 rfl ⟨.inr ⟨rfl, .inr ⟨_, zc6⟩⟩, za2 (zo7 (za2 (bv 3 rfl (za1 (bv 4 rfl ⟨[.str x, .str yy], rfl, (by show 2 <= by2; decide), za1 (zf9 (zj4 ⟨[], rfl, dy5 _, zt2 (ks := [.inr x, .inr yy]) hr.units zc6 ?_⟩))⟩)))))⟩)))));rw [hT x yy];refine zf9 (za1 (bv 5 rfl ⟨[.str wd], rfl, (by show 1 <= by2; decide), zv1 (.inl rfl) (.inl rfl) (by rw [ay4]; exact zb7 (by show _ + 1 <= _; omega)) (zG0 (bv 1 rfl (zK9 (za2 (bv 3 rfl (za1 (bv 4 rfl ⟨[.inr x, .inr yy], rfl, (by show 2 <= by2; decide), zb56 hr.units zc6 (hL (by omega)) ?_⟩)))))))⟩));have e1 : (zg1 (ds.take i) x yy).map jy1 ++ [.str wd] = (zh2 ⟨false, x, yy, wd⟩ (zg1 (ds.take i) x yy)).map .str := by simp [zh2]
   rw [e1, zt4];exact ⟨_, _, _, _, _, rfl, rfl, hTp, hgs (by simp [zm4]), dy9 hkl' (by omega)⟩
  | true =>
   rw [decide_eq_false (show ¬ za6.kd ⟨true, x, yy, wd⟩ = "send" from zb74)]
   have hc1 : zm7 ((zg1 (ds.take i) x yy).map jy1) none (some 1) = ((zg1 (ds.take i) x yy).take 1).map .str := by
    rw [show zm7 ((zg1 (ds.take i) x yy).map jy1) none (some 1) = ((zg1 (ds.take i) x yy).map jy1).take 1 from zp0 _ 1, vy7]
   refine zm5 (zb0 (zl2 (zd5 rfl (ze1 (zm8 iy6 qy7 vy3 (bv 1 rfl ⟨.inr ⟨rfl, .inr ⟨_, zc6⟩⟩, za2 (zo7 (za2 (bv 3 rfl (za1 (bv 4 rfl ⟨[.str x, .str yy], rfl, (by show 2 <= by2; decide), za1 (zf9 (zj4 ⟨[], rfl, dy5 _, zt2 (ks := [.inr x, .inr yy]) hr.units zc6 ?_⟩))⟩)))))⟩))))));rw [hT x yy];refine zi0 (zd8 (za7 ⟨1, rfl, zy1 (zf9 (za1 (bv 5 rfl ⟨[.str wd], rfl, (by show 1 <= by2; decide), ?_⟩)))⟩));rw [hc1];refine zS7 hr.units (d := .list (((zg1 (ds.take i) x yy).take 1).map .str)) (e := .list ([wd].map .str)) (.inl rfl) (.inl rfl) (zm2 fun z h => zi5 (hw z (my2 h))) (zm2 (by simp [zi5 hdk.w])) ⟨_, rfl, ?_⟩;rw [zO3]
   by_cases hcan : (zg1 (ds.take i) x yy).take 1 = [wd]
   ·rw [decide_eq_true hcan];have hne : zg1 (ds.take i) x yy ≠ [] := fun z => by rw [z] at hcan; simp at hcan
    refine zm5 (zb0 (zs1 (ze1 (zd4 (by intro _ _; rfl) (bv 1 rfl (zo7 (za2 (bv 3 rfl (za1 (bv 4 rfl ⟨[.str x, .str yy], rfl, (by show 2 <= by2; decide), zb46 (ks := [.inr x, .inr yy]) hr.units zc6 (hT.at hne) (zd8 (za7 ⟨1, rfl, zi0 (zy1 (zG0 (bv 1 rfl (zK9 (za2 (bv 3 rfl (za1 (bv 4 rfl ⟨[.inr x, .inr yy], rfl, (by show 2 <= by2; decide), zb56 hr.units zc6 (hL (by omega)) ?_⟩))))))))⟩))⟩))))))))))
    have e1 : zm7 ((zg1 (ds.take i) x yy).map jy1) (some 1) none = (zh2 ⟨true, x, yy, wd⟩ (zg1 (ds.take i) x yy)).map .str := by
     rw [show zm7 ((zg1 (ds.take i) x yy).map jy1) (some 1) none = ((zg1 (ds.take i) x yy).map jy1).drop 1 from zt1 _ 1];simp [zh2]
    rw [e1, zt4];exact ⟨_, _, _, _, _, rfl, rfl, hTp, hgs (by simp [zm4, hcan]), dy9 hkl' (by omega)⟩
   ·rw [decide_eq_false hcan];refine zo4 (zb0 (zh4 (zu6 ⟨_, W, [_], rfl, rfl, rfl, hcl, hk false ⟨(fun z => by cases z), fun hgo => ?_⟩⟩)));have := hgo i _ hd;simp [zm4, hcan] at this
 ·rintro S' W' ⟨o2, o3, o4, o5, kvs, rfl, rfl, hT, hg, hkl⟩;rw [ay4, gy7] at hg;exact zb0 (zh4 (zu6 ⟨_, W, [_], rfl, rfl, rfl, hcl, hk true ⟨fun _ => hg, fun _ => rfl⟩⟩))
theorem za81 {f : Addr} {fd : fy7} (F : Fun K "_law_can" "_law_can" zC6 f fd) (T : Txt mg) : zj9 P w K mg base CX0 1 f fd ["_law_row_here"] (spB K ze97) :=
 (za80 F T).imp fun vs H Q E ⟨F, A, W, es, k, r, z, ⟨ds, e, h⟩, q⟩ => ⟨F, A, W, es, k, r, z, ⟨_, ds, e, .inl rfl, h⟩, q⟩
end
def zx1 (ds : List za6) (a : Nat) (d1 d2 : za6) : List za6 := ds.take a ++ [d2, d1] ++ ds.drop (a + 2)
theorem za82 {α : Type} {ds : List α} {a : Nat} {d1 d2 : α} (h1 : ds[a]? = some d1) (h2 : ds[a + 1]? = some d2) : ds = ds.take a ++ [d1, d2] ++ ds.drop (a + 2) := by
 obtain ⟨l1, e1⟩ := ay3.mp h1;obtain ⟨l2, e2⟩ := ay3.mp h2;have h : ds.drop a = d1 :: d2 :: ds.drop (a + 2) := by rw [List.drop_eq_getElem_cons l1, e1, List.drop_eq_getElem_cons l2, e2]
 have := (List.take_append_drop a ds).symm;rw [h] at this;rw [iy0];exact this
theorem zi9 (x : Str) (a b : List za6) : viewOf x (a ++ b) = viewOf x a ++ viewOf x b := by unfold viewOf; rw [qy6]
theorem zb78 {d1 d2 : za6} (h : handOf d1 ≠ handOf d2) (x : Str) : viewOf x [d2, d1] = viewOf x [d1, d2] := by
 unfold viewOf
 by_cases h1 : handOf d1 = x
 ·have h2 : handOf d2 ≠ x := fun z => h (h1.trans z.symm);simp [h1, h2]
 ·by_cases h2 : handOf d2 = x
  ·simp [h1, h2]
  ·simp [h1, h2]
theorem za83 {ds : List za6} {a : Nat} {d1 d2 : za6} (h1 : ds[a]? = some d1) (h2 : ds[a + 1]? = some d2) (h : handOf d1 ≠ handOf d2) (x : Str) : viewOf x (zx1 ds a d1 d2) = viewOf x ds := by
 conv => rhs; rw [za82 h1 h2]
 unfold zx1;rw [zi9, zi9, zi9, zi9, zb78 h]
theorem zQ5 {ds : List za6} {a : Nat} {d1 d2 : za6} (h1 : ds[a]? = some d1) (h2 : ds[a + 1]? = some d2) : (zx1 ds a d1 d2).length = ds.length := by
 conv => rhs; rw [za82 h1 h2]
 unfold zx1;simp
theorem zb79 {ds : List za6} {a : Nat} {d1 d2 : za6} (h1 : ds[a]? = some d1) (h2 : ds[a + 1]? = some d2) {d : za6} (h : d ∈ zx1 ds a d1 d2) : d ∈ ds := by
 rw [za82 h1 h2];unfold zx1 at h;simp only [ey0, by7, ky1, or_false] at h ⊢;rcases h with (h | h | h) | h
 ·exact .inl (.inl h)
 ·exact .inl (.inr (.inr h))
 ·exact .inl (.inr (.inl h))
 ·exact .inr h
theorem zk8.of {hs : List Str} {ds es : List za6} (h : zk8 hs ds) (hm : ∀ d ∈ es, d ∈ ds) : zk8 hs es := ⟨fun d hd => h.ok d (hm d hd), fun d hd => h.x d (hm d hd), fun d hd => h.y d (hm d hd)⟩
structure zm6 (hs : List Str) (ds es : List za6) : Prop where
 row : zk8 hs es
 go : Goes es
 len : es.length = ds.length
 view : ∀ x, viewOf x es = viewOf x ds
theorem za84 (ds : List za6) (a : Nat) (d1 d2 : za6) : ((ds.map dP).take a ++ [dP d2, dP d1]) ++ (ds.map dP).drop (a + 2) = (zx1 ds a d1 d2).map dP := by
 unfold zx1;rw [fy3, fy3, vy7, List.map_drop];rfl
section
variable {P : cy8} {w : World} {K : ay5} {mg : Str -> Option Value} {base : Heap}
def ze98 : RB := fun as W k => ∃ (p n : Nat) (hs : List Str) (ds : List za6), as = [.o p, .d (rP ds), .d (.int n)] /\ ze8 W p /\ zk8 hs ds /\ Goes ds /\ ds.length <= 400 /\ n <= 1000 /\ ∀ (es : List za6) W', zm6 hs ds es -> zf8 W p W' -> k (.d (rP es)) W'
abbrev pSf : List Str := ["_law_pack_here", "_law_row_here", "_law_turns"]
abbrev nSf : List Str := ["_law_pack_here", "_law_row_here", "_law_turns", "_law_here", "_law_k", "_law_at", "_law_other"]
theorem scSf : zc1 nSf pSf (za0 zM3) := ⟨rfl, rfl, rfl, by decide +kernel, rfl, by decide +kernel, by decide +kernel⟩
theorem ndSf : nSf.Nodup := by decide +kernel
theorem zc98 {f fR fO fC : Addr} {fd dR dO dC : fy7} (F : Fun K "_law_shuffled" "_law_shuffled" zM3 f fd) (T : Txt mg) (DR : Def K mg "_law_take" zw5 fR dR pTk) (DO : Def K mg "_law_hand" zp5 fO dO ["_law_deed"]) (DC : Def K mg "_law_can" zC6 fC dC ["_law_row_here"]) : zj9 P w K mg base CX0 2 f fd pSf (spB K ze98) := by
 have N := @zr0 P w K mg base _ _ DR.fn T;have NO := @zD0 P w K mg base _ _ DO.fn T;have NC := @za81 P w K mg base _ _ DC.fn T;refine zs5 F scSf (fun as W k hR => by obtain ⟨p, n, hs, ds, e, _⟩ := hR; subst e; rfl) fun cdv A outer s H E hr F0 A0 as W k hcl hR => ?_;obtain ⟨p, n, hs, ds, e, hp, hok, hgo, hl, hn, hk⟩ := hR;subst e;have hpl := hp.lt;refine za4 (zc4 (i := 3) ndSf rfl (Or.inl rfl) (bv 1 rfl ?_));refine za4 (zv4 oy2 rfl (zo9 rfl T.range_ (bv 2 rfl ⟨_, rfl, by omega, by omega, W.length, fun i S' W' => ∃ (o4 o5 o6 : Option El) (es : List za6), S' = [some (.o p), some (.d (rP ds)), some (.d (.int n)), some (.d (rP es)), o4, o5, o6] /\ zf8 W p W' /\ zm6 hs ds es, ay6 _, dy5 _, by simp, ⟨none, none, none, ds, rfl, hp.self, hok, hgo, rfl, fun _ => rfl⟩, fun _ _ _ _ _ => trivial, ?_, ?_⟩)))
 ·rintro i z S' W1 hz ⟨o4, o5, o6, es, rfl, hw, Sm⟩;refine zn3 (i := 4) ndSf rfl (Or.inl rfl) ?_;have hel := Sm.len;refine zb0 (zl2 (zd5 rfl (zc9 rfl T.len_ zw8 (za1 (bv 3 rfl (zA2 (za7 (zd59 ⟨_, rfl, ?_⟩))))))));rw [ay4]
  by_cases h1 : (1 : Int) < es.length
  ·rw [decide_eq_true h1];refine zo4 (za4 (zc4 (i := 5) ndSf rfl (Or.inl rfl) (za9 N (hr.mono (by decide)) rfl DR.at_ DR.fn.kp DR.bd (za2 (bv 0 rfl (za1 (zg4 (zc9 rfl T.len_ zw8 (za1 (bv 3 rfl (zA2 (za7 (zd57 ⟨p, _, rfl, hw.at hpl, ?_, ?_, fun r W2 r0 r1 pw => ?_⟩)))))))))))))
   ·rw [ay4]; omega
   ·rw [ay4]; omega
   rw [ay4] at r1;have hw2 := hw.trans pw;obtain ⟨a, rfl⟩ : ∃ n : Nat, r = n := ⟨r.toNat, by omega⟩
   obtain ⟨d1, hd1⟩ : ∃ d, es[a]? = some d := ⟨es[a]'(by omega), by5 _⟩
   obtain ⟨d2, hd2⟩ : ∃ d, es[a + 1]? = some d := ⟨es[a + 1]'(by omega), by5 _⟩
   have m1 : (es.map dP)[a]? = some (dP d1) := by rw [by3, hd1]; rfl
   have m2 : (es.map dP)[a + 1]? = some (dP d2) := by rw [by3, hd2]; rfl
   have c1 : (a : Int) + 1 = ((a + 1 : Nat) : Int) := by omega
   have c2 : (a : Int) + 2 = ((a + 2 : Nat) : Int) := by omega
   have a2 : atI (es.map dP) ((a : Int) + 1) = some (dP d2) := by rw [c1]; exact zh5 m2
   have l1 : ((zm7 (es.map dP) none (some (a : Int))).length + [dP d2, dP d1].length) <= by2 := by
    have := zC7 (es.map dP) none (some (a : Int));rw [ay4] at this;exact zb7 (by show _ + 2 <= _; omega)
   have l2 : (zm7 (es.map dP) none (some (a : Int)) ++ [dP d2, dP d1]).length + (zm7 (es.map dP) (some ((a : Int) + 2)) none).length <= by2 := by
    have h1 := zC7 (es.map dP) none (some (a : Int));have h2 := zC7 (es.map dP) (some ((a : Int) + 2)) none;rw [ay4] at h1 h2;rw [cy1];exact zb7 (by show _ + 2 + _ <= _; omega)
   refine za4 (zc4 (i := 6) ndSf rfl (Or.inl rfl) (zg4 (zg4 (ze1 (bv 3 rfl (zi0 (zd8 (bv 5 rfl ⟨_, rfl, za12 (zo7 (za2 (zd4 (by intro _ _; rfl) (bv 3 rfl (zg4 (bv 5 rfl (za7 (zv0 (zh9 a2 (za1 (zd4 (by intro _ _; rfl) (bv 3 rfl (bv 5 rfl (zh9 (zh5 m1) ⟨[dP d2, dP d1], rfl, (by show 2 <= by2; decide), zA1 l1 (ze1 (bv 3 rfl (zd8 (zg4 (bv 5 rfl (za7 (zv0 ⟨_, rfl, zi0 (za12 (zA1 l2 ?_))⟩)))))))⟩))))))))))))))⟩))))))));rw [c2, zp0, zt1, za84];refine zb0 (zl2 (BW.bt (zy0 (zd5 rfl (za9 NO (hr.mono (by decide)) rfl DO.at_ DO.fn.kp DO.bd (za1 (zd4 (by intro _ _; rfl) (bv 3 rfl (bv 5 rfl (zh9 (zh5 m1) ⟨d1, rfl, za9 NO (hr.mono (by decide)) rfl DO.at_ DO.fn.kp DO.bd (za1 (zd4 (by intro _ _; rfl) (bv 3 rfl (zg4 (bv 5 rfl (za7 (zv0 (zh9 a2 ⟨d2, rfl, za17 ⟨_, rfl, ?_⟩⟩))))))))⟩))))))))))
   by_cases hh : handOf d1 = handOf d2
   ·rw [decide_eq_true hh];exact zm5 (zm5 (zj5 ⟨_, _, _, es, rfl, hw2, Sm⟩))
   ·rw [decide_eq_false hh];have hrow : zk8 hs (zx1 es a d1 d2) := Sm.row.of fun d hd => zb79 hd1 hd2 hd;refine zo4 (zu7 (zj3 (za9 NC (hr.mono (by decide)) rfl DC.at_ DC.fn.kp DC.bd (za1 (bv 6 rfl ⟨zx1 es a d1 d2, rfl, hrow.ok, by rw [zQ5 hd1 hd2]; omega, fun c hc => ⟨_, rfl, ?_⟩⟩)))));cases c with
    | true =>
     refine zo4 (zb0 (zc4 (i := 3) ndSf rfl (Or.inl rfl) (bv 6 rfl ?_)));exact ⟨_, _, _, zx1 es a d1 d2, rfl, hw2, hrow, hc.mp rfl, by rw [zQ5 hd1 hd2]; exact hel, fun x => by rw [za83 hd1 hd2 hh]; exact Sm.view x⟩
    | false => exact zm5 (zj5 ⟨_, _, _, es, rfl, hw2, Sm⟩)
  ·rw [decide_eq_false h1];exact zm5 (zj5 ⟨_, _, _, es, rfl, hw, Sm⟩)
 ·rintro S' W' ⟨o4, o5, o6, es, rfl, hw, Sm⟩;exact zb0 (ze7 (bv 3 rfl (hk es W' Sm hw)))
end
end K1
namespace L2
open PySem PySem.Spec PyProof.Rows PySem.SeqAt PySem.MeetsSeq
section
variable {X : Bc} {S : Sl} {W : Wl} {k : KB}
end
end L2
namespace L2
open PySem PySem.Spec PyProof.Rows
section
variable {X : Cx}
end
section
variable {X : Bc} {S : Sl} {W : Wl} {k : KB}
end
end L2
namespace K1
open PySem L2
def goF : Wd -> List za6 -> Prop
 | _, [] => True
 | f, d :: ds => zm4 f d = true /\ goF (zd1 f d) ds
theorem zM9 : ∀ (ds : List za6) (f : Wd), (∀ i d, ds[i]? = some d -> zm4 ((ds.take i).foldl zd1 f) d = true) ↔ goF f ds
 | [], f => ⟨fun _ => trivial, fun _ i d h => by simp at h⟩
 | e :: ds, f => by
  constructor
  ·intro h;refine ⟨h 0 e rfl, (zM9 ds _).mp fun i d hi => ?_⟩;have := h (i + 1) d (by simpa using hi);simpa using this
  ·rintro ⟨h1, h2⟩ i d hi;cases i with
   | zero =>
    simp at hi;subst hi;exact h1
   | succ i =>
    have := (zM9 ds _).mpr h2 i d (by simpa using hi);simpa using this
theorem zp9 (ds : List za6) : Goes ds ↔ goF (fun _ _ => []) ds := zM9 ds _
theorem za85 : ∀ (a b : List za6) (f : Wd), goF f (a ++ b) ↔ goF f a /\ goF (a.foldl zd1 f) b
 | [], b, f => by simp [goF]
 | d :: a, b, f => by
  show zm4 f d = true /\ goF (zd1 f d) (a ++ b) ↔ (zm4 f d = true /\ goF (zd1 f d) a) /\ goF (a.foldl zd1 (zd1 f d)) b;rw [za85 a b, and_assoc]
theorem zy8 {x d : za6} (hh : handOf x ≠ handOf d) (hx : x.x = d.x) (hy : x.y = d.y) : x.tk ≠ d.tk := fun e => hh (by unfold handOf; rw [e, hx, hy])
theorem zQ6 {f : Wd} {x d : za6} (hh : handOf x ≠ handOf d) (h : zm4 f d = true) : zm4 (zd1 f x) d = true := by
 unfold zm4 at h ⊢;cases ht : d.tk with
 | false => rfl
 | true =>
  rw [ht] at h;have h : (f d.x d.y).take 1 = [d.w] := by simpa using h
  have : (zd1 f x d.x d.y).take 1 = [d.w] := by
   unfold zd1
   by_cases e : d.x = x.x /\ d.y = x.y
   ·rw [if_pos e]
    have hx : x.tk = false := by
     cases hx : x.tk with
     | false => rfl
     | true => exact absurd (hx.trans ht.symm) (zy8 hh e.1.symm e.2.symm)
    unfold zh2;rw [hx];cases hf : f d.x d.y with
    | nil => rw [hf] at h; simp at h
    | cons z ws => rw [hf] at h; simpa using h
   ·rw [if_neg e]; exact h
  simp [this]
theorem za86 {f : Wd} {x d : za6} (hh : handOf x ≠ handOf d) (hx : zm4 f x = true) (hd : zm4 f d = true) : zd1 (zd1 f x) d = zd1 (zd1 f d) x := by
 funext a b
 by_cases e : x.x = d.x /\ x.y = d.y
 ·have ht := zy8 hh e.1 e.2;unfold zd1
  by_cases e1 : a = x.x /\ b = x.y
  ·have e2 : a = d.x /\ b = d.y := ⟨e1.1.trans e.1, e1.2.trans e.2⟩
   simp only [if_pos e2, if_pos e1]
   have e3 : f a b ≠ [] := by
    unfold zm4 at hx hd;intro z;cases h1 : x.tk with
    | true =>
     rw [h1, <- e1.1, <- e1.2, z] at hx;simp at hx
    | false =>
     cases h2 : d.tk with
     | true =>
      rw [h2, <- e2.1, <- e2.2, z] at hd;simp at hd
     | false => exact ht (h1.trans h2.symm)
   unfold zh2;cases h1 : x.tk with
   | true =>
    have h2 : d.tk = false := by
     cases h2 : d.tk with
     | false => rfl
     | true => exact absurd (h1.trans h2.symm) ht
    rw [h2];cases hf : f a b with
    | nil => exact absurd hf e3
    | cons z ws => simp
   | false =>
    have h2 : d.tk = true := by
     cases h2 : d.tk with
     | true => rfl
     | false => exact absurd (h1.trans h2.symm) ht
    rw [h2];cases hf : f a b with
    | nil => exact absurd hf e3
    | cons z ws => simp
  ·have e2 : ¬ (a = d.x /\ b = d.y) := fun z => e1 ⟨z.1.trans e.1.symm, z.2.trans e.2.symm⟩;simp only [if_neg e2, if_neg e1]
 ·unfold zd1
  by_cases e1 : a = x.x /\ b = x.y
  ·have e2 : ¬ (a = d.x /\ b = d.y) := fun z => e ⟨e1.1.symm.trans z.1, e1.2.symm.trans z.2⟩;simp only [if_neg e2, if_pos e1]
  ·by_cases e2 : a = d.x /\ b = d.y
   ·simp only [if_pos e2, if_neg e1]
   ·simp only [if_neg e2, if_neg e1]
theorem zb80 {f : Wd} {x d : za6} {r : List za6} (h : goF f (x :: d :: r)) (hh : handOf x ≠ handOf d) (hd : zm4 f d = true) : goF f (d :: x :: r) :=
 ⟨hd, zQ6 (fy4 hh) h.1, by rw [<- za86 hh h.1 hd]; exact h.2.2⟩
theorem zD1 {d : za6} : ∀ {R vs : List za6}, viewOf (handOf d) R = d :: vs -> ∃ B C, R = B ++ d :: C /\ ∀ b ∈ B, handOf b ≠ handOf d
 | [], _, h => by simp [viewOf] at h
 | r :: R, vs, h => by
  by_cases e : handOf r = handOf d
  ·have : viewOf (handOf d) (r :: R) = r :: viewOf (handOf d) R := by simp [viewOf, e]
   rw [this] at h;injection h with h1 h2
   subst h1;exact ⟨[], R, rfl, by simp⟩
  ·have : viewOf (handOf d) (r :: R) = viewOf (handOf d) R := by simp [viewOf, e]
   rw [this] at h;obtain ⟨B, C, rfl, hB⟩ := zD1 h;refine ⟨r :: B, C, rfl, fun b hb => ?_⟩;rcases by7.mp hb with z | z
   ·rw [z]; exact e
   ·exact hB b z
theorem zj8 {x : Str} : ∀ {B : List za6}, (∀ b ∈ B, handOf b ≠ x) -> viewOf x B = [] := fun {B} h => by
 unfold viewOf;exact List.filter_eq_nil_iff.mpr fun b hb => by simpa using h b hb
theorem zi3 (x : Str) (d : za6) (r : List za6) : viewOf x (d :: r) = if handOf d = x then d :: viewOf x r else viewOf x r := by
 unfold viewOf;rw [List.filter_cons];simp
theorem za87 {d : za6} {B C T : List za6} (hB : ∀ b ∈ B, handOf b ≠ handOf d) (h : ∀ x, viewOf x (B ++ d :: C) = viewOf x (d :: T)) : ∀ x, viewOf x (B ++ C) = viewOf x T := fun x => by
 have h1 := h x;rw [zi9, zi3, zi3] at h1;rw [zi9]
 by_cases e : handOf d = x
 ·rw [if_pos e, if_pos e, zj8 (fun b hb => by rw [<- e]; exact hB b hb)] at h1;rw [zj8 (fun b hb => by rw [<- e]; exact hB b hb)];injection h1
 ·rw [if_neg e, if_neg e] at h1;exact h1
theorem zb81 {R : List za6} (h : ∀ x, viewOf x R = viewOf x []) : R = [] := by
 cases R with
 | nil => rfl
 | cons d R =>
  have := h (handOf d);rw [zi3, if_pos rfl] at this;simp [viewOf] at this
end K1
namespace L2
open PySem PySem.Spec PyProof.Rows
section
variable {prog : cy8} {w : World} {A : Around} {E : Value -> Shared -> Prop} {s : Shared} {R : Result -> Shared -> Prop}
theorem codeAny_compStart_dict {kx vx : Expr} {gens : List Comprehension} {scope : Scope} {pos : Pos} {it acc : Value} {env : Env} {d : Nat} {g : Comprehension} (hg : gens[d]? = some g) (ha : g.is_async = 0)
  (h1 : ly4 (model prog w) A (.compLoop (.DictComp kx vx gens scope pos) d it acc env) R s)
  (h2 : wpAny (model prog w) A (pyIter it) (fun it' s' => ly4 (model prog w) A (.compLoop (.DictComp kx vx gens scope pos) d it' acc env) R s') (fun _ _ => False) s) :
  ly4 (model prog w) A (.compStart (.DictComp kx vx gens scope pos) d it acc env) R s := by
 refine codeAny_of_tree ?_;show wpAny _ A ((compStart (.DictComp kx vx gens scope pos) d it acc env).onRaise (fun x => do noteFrame x env; standAt theWindowsPlace)) _ _ s;refine wpAny_notedAt ?_;unfold compStart;have e1 : (clausesOf (.DictComp kx vx gens scope pos))[d]? = some g := hg;have e2 : ((some g).elim false (·.is_async != 0)) = false := by simp [ha]
 rw [e1, e2];refine ay0 (wpAny_askSetting (wpAny_ite ?_))
 by_cases hq : ((model prog w).w.params.followText "comprehension-iter-twice") = true
 ·rw [if_pos hq];exact ay0 (ay2 (ay2 ⟨rfl, h1⟩))
 ·rw [if_neg hq];refine ay0 (my9 (ay0 (ly5 (ay0 (fy9 h2 (fun it' s' h' => ay2 ⟨rfl, h'⟩) fun _ _ h => h.elim)))))
theorem zW5 {kx vx target iter : Expr} {scope : Scope} {pos : Pos} {it : Value} {D : Addr} {env : Env} (J : Nat -> Shared -> Prop)
  (turn : ∀ n s, J n s -> wpAny (model prog w) A (pyNext it) (fun r s1 => match r with
   | none => R (.ok .next) s1
   | some v => wpAny (model prog w) A (py6 target it v) (fun _ s1' => wpAny (model prog w) A (assign target env v) (fun _ s2 =>
     wpAny (model prog w) A (eval kx env) (fun kv s3 => wpAny (model prog w) A (eval vx env) (fun vv s4 => wpAny (model prog w) A (dictSet D kv vv) (fun _ s5 => ∃ m, m < n /\ J m s5)
      (fun _ _ => False) s4) (fun _ _ => False) s3) (fun _ _ => False) s2) (fun _ _ => False) s1') (fun _ _ => False) s1) (fun _ _ => False) s)
  (n : Nat) (h : J n s) : ly4 (model prog w) A (.compLoop (.DictComp kx vx [⟨target, iter, [], 0⟩] scope pos) 0 it (.ref D) env) R s := by
 refine codeAny_loop rfl J (fun n s hI => ?_) n h;show wpAny _ A ((compTurn (.DictComp kx vx [⟨target, iter, [], 0⟩] scope pos) 0 it (.ref D) env).onRaise (fun x => do noteFrame x env; theTreesLotGoes x)) _ _ s;refine wpAny_noted ?_;unfold compTurn;refine ay0 (ly5 (ay0 (fy9 (turn n s hI) (fun r s1 h1 => ?_) fun _ _ h' => h'.elim)));cases r with
 | none => exact ay2 h1
 | some v =>
  refine ay0 (fy9 h1 (fun _ s1' h1' => ?_) fun _ _ h' => h'.elim);refine ay0 (fy9 h1' (fun _ s2 h2 => ?_) fun _ _ h' => h'.elim);refine ay0 (ay2 ?_);refine ay0 (ay0 (fy9 h2 (fun kv s3 h3 => ?_) fun _ _ h' => h'.elim));refine ay0 (ey5 (fy9 h3 (fun vv s4 h4 => ?_) fun _ _ h' => h'.elim));refine ay0 (ly5 ?_);exact ey5 (fy9 h4 (fun _ s5 h5 => ay2 ⟨rfl, h5⟩) fun _ _ h' => h'.elim)
end
theorem zi4 {P : cy8} {w : World} {h h' : Heap} {a : Addr} {vs : List (Key × Value)} (x : h.DictOf (zb5 P w) a vs) (k : ∀ o, h.get? a = some o -> h'.get? a = some o) : h'.DictOf (zb5 P w) a vs := by
 obtain ⟨o, es, ep, ho, r⟩ := x;exact ⟨o, es, ep, k o ho, r⟩
theorem zW6 {P : cy8} {w : World} {h : Heap} {a : Addr} {vs : List (Key × Value)} (x : h.DictOf (zb5 P w) a vs) : ∃ o, h.get? a = some o /\ ∀ v, o.data ≠ .cell v := by
 obtain ⟨o, es, ep, ho, _, hd, _⟩ := x;exact ⟨o, ho, fun v z => by rw [hd] at z; cases z⟩
def tDC (wi : TI) (O : List Str) (cap : List Nat) (g : TG) (tk tv : TE) : TE := fun σ H Q => wi σ H fun J H1 => ∃ W : Nat -> Nat -> List (Key × V) -> Hp -> Prop, (∃ m, W 0 m [] H1) /\ ∀ i m kvs H, W i m kvs H -> kvs.length < by2 /\
  ((J.stop i H /\ ∀ l, H l = none -> Q (.ref l) (upd H l (.dK kvs))) \/
   (J.go i H /\ ∀ x H', J.yld i H x H' -> g x (zc0 O cap σ) H' fun σ2 H2 => tk σ2 H2 fun kz H3 => ∃ k : Str, kz = .str k /\ tv σ2 H3 fun z H4 => ∃ m', m' < m /\ W (i + 1) m' (putK kvs (.inr k) z) H4))
section
variable {X : Cx} {tg iter kx vx : Expr} {scope : Scope} {pos : Pos} {wi : TI} {g : TG} {tk tv : TE} {O F : List Str} {cap : List Nat}
theorem zy9 {use : Option (Value -> Sem Unit)} {R : Value -> Shared -> Prop} {pins : List (Addr × Obj)} {s : Shared} {σ : St} {H : Hp} {Q : VK} {ps0 : Pos} (hc : X.calm = true) (S : zb4 X.N X.env.scope O F cap scope) (hi : PI X tg iter wi)
  (hg : ∀ cl C ex s H, PG (zb8 X (O ++ F) scope cl C ex s H) tg g) (hk : ∀ cl C ex s H, PE (zb8 X (O ++ F) scope cl C ex s H) kx tk) (hv : ∀ cl C ex s H, PE (zb8 X (O ++ F) scope cl C ex s H) vx tv)
  (ho : Own O.length g) (hs : ∀ x, ey1 iter X.env x = pure x) (I : Inv X pins σ H s) (h : tDC wi O cap g tk tv σ H Q)
  (post : ∀ (s4 : Shared) (D C : Addr) (H4 : Hp) (kvs : List (Key × V)), (∃ m, s4.heap.Ns C m) -> D ≠ C -> (∀ h', fy5 C s4.heap h' -> Inv X pins σ (upd H4 D (.dK kvs)) { s4 with heap := h' }) -> zs4 X pins (upd H4 D (.dK kvs)) C -> Q (.ref D) (upd H4 D (.dK kvs)) ->
   compPost (model X.prog X.w) X.A X.xe use R (.ref D) C (.ok .next) s4) :
  wpAny (model X.prog X.w) X.A (comprehension (.DictComp kx vx [⟨tg, iter, [], 0⟩] scope pos) scope X.env ps0 newDict false (eval iter X.env) use) R X.xe s := by
 have hfr : ∀ y ∈ scope.names, y.2 = .free -> ∃ c, X.env.cells.lookup y.1 = some c := fun y hy e => I.ok.has y.1 (S.frees y hy e);refine wpAny_comprehension_free (use := use) rfl hs (zq2 hfr) S.kind S.names (thn (hi pins s σ H _ I h) fun v s1 h1 => thn h1 fun itv s2 h2 => ?_);obtain ⟨it, fp, tn, J, H2, e, I2, T, st2, f2, W, ⟨m0, w0⟩, turn⟩ := h2;subst e;refine dy8 (wpAny_newFunctionEnv S.nocell (by intro y hy; simp at hy) (fun h1 hns1 hsb1 => ?_) S.kind);dsimp only at hns1 hsb1 ⊢;have hS0 : (s2.heap.push { cls := .type "dict", data := .dict #[] }).DictOf (zb5 X.prog X.w) s2.heap.objs.size [] := Heap.DictOf.new _;generalize hH0 : s2.heap.push { cls := .type "dict", data := .dict #[] } = h0 at hns1 hsb1 hS0 ⊢;have h0s : h0.objs.size = s2.heap.objs.size + 1 := by rw [<- hH0, ny3]
 have k0 : ∀ b o, s2.heap.get? b = some o -> h0.get? b = some o := fun b o e => hH0 ▸ ay1 _ e;have k1 : ∀ b o, h0.get? b = some o -> h1.get? b = some o := fun b o e => hsb1.extBut b o (by6 (by1 e)) (ay1 _ e);have hDC : s2.heap.objs.size < h0.objs.size := by rw [h0s]; exact my3 _
 have hsC : s2.heap.objs.size <= h0.objs.size := ky9 hDC
 have flt : ∀ b ∈ fp, b < s2.heap.objs.size := fun b hb => by
  obtain ⟨o, e, _⟩ := T.obj _ _ st2 b hb;exact by1 e
 have Dfp : s2.heap.objs.size ∉ fp := fun z => ny2 _ (flt _ z)
 have I3 : Inv (zb8 X (O ++ F) scope (zs8 X.env.cells scope.names []) h0.objs.size (s2.heap.objs.size :: fp) { s2 with heap := h0 } H2) [] (zc0 O cap σ) H2 { s2 with heap := h1, toks := s2.toks + ([] : List (Str × Value)).length } :=
  I2.comp S f2 (T.obj _ _ st2) hsC s2.heap.objs.size (ay6 _) hDC rfl k0 k1 hns1
 generalize hX' : zb8 X (O ++ F) scope (zs8 X.env.cells scope.names []) h0.objs.size (s2.heap.objs.size :: fp) { s2 with heap := h0 } H2 = X' at I3;have hg' : PG X' tg g := hX' ▸ hg _ _ _ _ _;have hk' : PE X' kx tk := hX' ▸ hk _ _ _ _ _;have hv' : PE X' vx tv := hX' ▸ hv _ _ _ _ _;have epn : X'.pn = [] := by rw [<- hX']; rfl
 have fpok : ∀ {H' : Hp} {b : Addr}, b ∈ s2.heap.objs.size :: fp -> H' b = none -> zs4 X' [] H' b := fun {H' b} hb hn => by
  have hex : b ∈ X'.ex := by rw [<- hX']; exact hb
  refine ⟨hn, (I3.ok.exf b hex).1, I3.ok.exfs b hex, .inl hex, (I3.ok.exf b hex).2, fun p hp => ?_⟩;rw [epn] at hp;exact absurd (show p ∈ ([] : List (Addr × Obj)) from hp) (by simp)
 have eP : X'.prog = X.prog := by rw [<- hX']; rfl
 have eW : X'.w = X.w := by rw [<- hX']; rfl
 have eK : X'.K = X.K := by rw [<- hX']; rfl
 have eA : X'.A = X.A := by rw [<- hX']; rfl
 have eC : X'.calm = true := by rw [<- hX']; exact hc
 have eE : X'.env = compEnvC scope (zs8 X.env.cells scope.names []) h0.objs.size X.env := by rw [<- hX']; rfl
 have eX : X'.xe = fun _ _ => False := by rw [<- hX']; rfl
 have sys : (s2.heap.objs.size == ly9) = false := beq_eq_false_iff_ne.mpr (fy4 (by6 I2.big))
 have loop : ∀ s3 : Shared, s3 = { s2 with heap := h1, toks := s2.toks + ([] : List (Str × Value)).length } ->
   ly4 (model X.prog X.w) X.A (.compLoop (.DictComp kx vx [⟨tg, iter, [], 0⟩] scope pos) 0 (.ref it) (.ref s2.heap.objs.size) (compEnvC scope (zs8 X.env.cells scope.names []) h0.objs.size X.env))
    (compPost (model X.prog X.w) X.A X.xe use R (.ref s2.heap.objs.size) h0.objs.size) s3 := by
  rintro s3 rfl
  refine zW5 (fun n s' => ∃ i kvs vs H', Inv X' [] (zc0 O cap σ) H' s' /\ tn i s'.heap /\ (∀ b ∈ s2.heap.objs.size :: fp, H' b = none) /\ s'.heap.DictOf (zb5 X.prog X.w) s2.heap.objs.size vs /\ KV kvs vs /\ W i n kvs H') ?_ m0
   ⟨0, [], [], H2, I3, T.keep _ _ _ st2 (fun b _ o e => k1 b o (k0 b o e)), fun b hb => ?_, zi4 hS0 fun o e => k1 _ _ e, .nil, w0⟩
  ·rintro n s3 ⟨i, kvs, vs, H3, I3', st3, fr3, hS3, rv3, w3⟩;obtain ⟨hz, step⟩ := turn i n kvs H3 w3;obtain ⟨oD, gD, cD⟩ := zW6 hS3;have hD3 : H3 s2.heap.objs.size = none := fr3 _ ay9
   have J3 : Inv X' ([] ++ ze6 [s2.heap.objs.size] s3.heap) (zc0 O cap σ) H3 s3 := I3'.pinned (fp := [s2.heap.objs.size]) (fun b hb => by
    have e : b = s2.heap.objs.size := by simpa using hb
    subst e; exact fpok ay9 hD3) fun b hb => by
    have e : b = s2.heap.objs.size := by simpa using hb
    subst e; exact ⟨oD, gD, cD⟩
   have fpJ : ∀ b ∈ fp, zs4 X' ([] ++ ze6 [s2.heap.objs.size] s3.heap) H3 b := fun b hb => (fpok (by0 _ hb) (fr3 b (by0 _ hb))).more fun p hp => by
    have := (zg2 hp).1;have e : p.1 = s2.heap.objs.size := by simpa using this
    rw [e];exact fun z => Dfp (z ▸ hb)
   rcases step with ⟨stop, q⟩ | ⟨go, step⟩
   ·have fin := T.done X' eP eW eK eC i _ s3 (zc0 O cap σ) H3 (fun _ _ => False) J3 fpJ st3 stop;rw [eA] at fin;refine thn fin fun r s4 zR => ?_;obtain ⟨hr, J4⟩ := zR;subst hr;have g4 := J4.zn7 (b := s2.heap.objs.size) (by simp) gD;have hS4 : s4.heap.DictOf (zb5 X.prog X.w) s2.heap.objs.size vs := zi4 hS3 fun o e => by rw [gD] at e; cases e; exact g4.1
    have I4 : Inv X' [] (zc0 O cap σ) H3 s4 := J4.zC0;obtain ⟨m, hm, _⟩ := id I4.loc;rw [eE] at hm
    have fC : H3 h0.objs.size = none := by
     have := I4.free;rw [eE] at this;exact this
    have nCD : h0.objs.size ≠ s2.heap.objs.size := ky5 hDC;refine post s4 s2.heap.objs.size h0.objs.size H3 kvs ⟨m, hm⟩ (fy4 nCD) (fun h' sb => ?_) (I2.zY5 hsC (by rw [za5 nCD]; exact fC)) (q _ hD3);rw [<- hX'] at I4;refine I2.za49 f2 hsC (ay6 _) hDC k0 I4 hD3 (zc16 (ky9 hz) sys rv3 (zi4 hS4 fun o e => ?_)) sb;exact (sb.2 _ (by6 hDC)).trans e
   ·have it3 := T.item X' eP eW eK eC i _ s3 (zc0 O cap σ) H3 (fun _ _ => False) J3 fpJ st3 go;rw [eA] at it3;refine thn it3 fun r s4 zR => ?_;obtain ⟨u, hr, h4⟩ := zR;subst hr;refine thn h4 fun _ s5 zR => ?_;obtain ⟨x, H5, I5, r5, y5, st5, fr5⟩ := zR;have g5 := I5.zn7 (b := s2.heap.objs.size) (by simp) gD;have hS5 : s5.heap.DictOf (zb5 X.prog X.w) s2.heap.objs.size vs := zi4 hS3 fun o e => by rw [gD] at e; cases e; exact g5.1
    have fr5' : ∀ b ∈ s2.heap.objs.size :: fp, H5 b = none := fun b hb => (by7.mp hb).elim (fun z => by rw [z]; exact g5.2) (fr5 b)
    have ob5 : ∀ b ∈ s2.heap.objs.size :: fp, ∃ o, s5.heap.get? b = some o /\ ∀ v, o.data ≠ .cell v := fun b hb => by
     rcases by7.mp hb with e | hb
     ·subst e; exact ⟨oD, g5.1, cD⟩
     ·exact T.obj _ _ st5 b hb
    have I5' : Inv X' ([] ++ ze6 (s2.heap.objs.size :: fp) s5.heap) (zc0 O cap σ) H5 s5 := I5.zC0.pinned (fp := s2.heap.objs.size :: fp) (fun b hb => fpok hb (fr5' b hb)) ob5;have a5 := hg' _ s5 (zc0 O cap σ) H5 x u _ I5' r5 (ho _ _ _ _ (step x H5 y5));rw [eP, eW, eA, eE, eX] at a5;refine thn a5 fun _ s6 zR => ?_;obtain ⟨σ6, H6, I6, ⟨l6, w6⟩, q6⟩ := zR;have e7 := hk' _ s6 σ6 H6 _ I6 q6;rw [eP, eW, eA, eE, eX] at e7;refine thn e7 fun ku s7 zR => ?_;obtain ⟨kz, H7, I7, r7, k, hkz, q7⟩ := zR;subst hkz;obtain ⟨tk7, rfl⟩ := r7;have e8 := hv' _ s7 σ6 H7 _ I7 q7;rw [eP, eW, eA, eE, eX] at e8;refine thn e8 fun y s8 zR => ?_;obtain ⟨z, H8, I8, r8, m', hm', w8⟩ := zR;have g8 := I8.zn7 (b := s2.heap.objs.size) ay9 g5.1;have hS8 : s8.heap.DictOf (zb5 X.prog X.w) s2.heap.objs.size vs := zi4 hS5 fun o e => by rw [g5.1] at e; cases e; exact g8.1
    have w6' : ∀ (j : Nat) v, (zc0 O cap σ)[j]? = some (some v) -> σ6[j]? = some (some v) := fun j v e => by
     by_cases hj : O.length <= j
     ·rw [w6 j hj]; exact e
     ·exfalso;unfold zc0 at e;rw [ay8 (by simpa using Nat.not_le.mp hj), by3] at e;cases q : O[j]? with
      | none => rw [q] at e; cases e
      | some z => rw [q] at e; cases e
    have I9 : Inv X' [] (zc0 O cap σ) H8 s8 := I8.zC0.weak l6.symm w6';refine wpAny_dictSet_pairs (zt7 X.prog X.w k tk7) hS8 (fun h' hS9 sb => ?_) (by rw [<- rv3.length]; exact ky9 hz);obtain ⟨q0, q1, q2, q3, q4, q5⟩ := fpok ay9 g8.2;refine ⟨m', hm', i + 1, putK kvs (.inr k) z, stored vs (.inr k) y, H8, I9.turned (t' := s8.toks + 1) (fun b o hb e => (sb.2 b hb).trans e) q0 q1 q3 q4 q5, ?_, fun b hb => ?_, hS9, rv3.put _ r8, w8⟩
    ·refine T.keep _ _ _ st5 fun b hb o e => (sb.2 b (fun z => Dfp (z ▸ hb))).trans (I8.zn7 (by0 _ hb) e).1
    ·obtain ⟨o, e, _⟩ := ob5 b hb;exact (I8.zn7 hb e).2
  ·rcases by7.mp hb with e | hb
   ·rw [e]; exact I2.hok.fresh (ay6 _)
   ·exact (f2 b hb).1
 exact codeAny_compStart_dict (g := ⟨tg, iter, [], 0⟩) rfl rfl (loop _ rfl) (T.self _ 0 _ _ _ (T.keep _ _ _ st2 (fun b _ o e => k1 b o (k0 b o e))) (loop _ rfl))
theorem zb82 (hc : X.calm = true) (S : zb4 X.N X.env.scope O F cap scope) (hi : PI X tg iter wi)
  (hg : ∀ cl C ex s H, PG (zb8 X (O ++ F) scope cl C ex s H) tg g) (hk : ∀ cl C ex s H, PE (zb8 X (O ++ F) scope cl C ex s H) kx tk) (hv : ∀ cl C ex s H, PE (zb8 X (O ++ F) scope cl C ex s H) vx tv)
  (ho : Own O.length g) (hs : ∀ x, ey1 iter X.env x = pure x := by intro _; rfl) : PE X (.DictComp kx vx [⟨tg, iter, [], 0⟩] scope pos) (tDC wi O cap g tk tv) := by
 intro pins s σ H Q I h;rw [arm_eval_DictComp];exact zy9 (use := none) (R := EP X pins σ Q) hc S hi hg hk hv ho hs I h fun s4 D C H4 ys hm hDC hI fp q => hm.elim fun m hm => ⟨m, hm, fun h' sb => ⟨.ref D, _, hI h' sb, rfl, q⟩⟩
end
section
variable {X : Bc} {n : Nat} {S : Sl} {W : Wl} {D : DB} {k : KB} {tg iter kx vx : Expr} {O Fv : List Str} {cap : List Nat} {scope : Scope} {pos : Pos}
abbrev KD (X : Bc) (O Fv : List Str) (cap : List Nat) (scope : Scope) (S : Sl) (tg kx vx : Expr) (k : List (Key × El) -> Wl -> Prop) : Nat -> (Wl -> Prop) -> List PyData -> Wl -> Prop := fun m G ds W1 => ∃ P : Nat -> List (Key × El) -> Wl -> Prop,
 P 0 [] W1 /\ (∀ i kvs W', i <= ds.length -> P i kvs W' -> G W' /\ kvs.length < by2) /\
  (∀ i d kvs W', ds[i]? = some d -> P i kvs W' -> BGc X (O ++ Fv) scope O.length (zK6 O cap S) W' tg (.d d) fun S2 W2 => BEc X (O ++ Fv) scope S2 W2 kx fun kz W3 => ∃ x : Str, kz = .d (.str x) /\ BEc X (O ++ Fv) scope S2 W3 vx fun z W4 => P (i + 1) (zD9 kvs (.inr x) z) W4) /\
  ∀ kvs W', P ds.length kvs W' -> k kvs W'
theorem zW7 {F : Hp} {A : List Addr} {σ : St} {H : Hp} {Q : VK} {k : List (Key × El) -> Wl -> Prop} (h : BI X S W tg iter (KD X O Fv cap scope S tg kx vx k)) (x0 : X.Am F A) (r : RW X.K F A W H) (sr : SR X.K F A S σ)
  (q : ∀ F' A' W' H' kvs vs p, Ext F A F' A' -> RW X.K F' A' W' H' -> Paired (fun p q => p.1 = q.1 /\ ElR X.K F' A' p.2 q.2) kvs vs -> H' p = none -> k kvs W' -> Q (.ref p) (upd H' p (.dK vs))) :
  tDC (tUI X tg iter) O cap (zT1 X (O ++ Fv) scope O.length tg) (zG1 X (O ++ Fv) scope kx) (zG1 X (O ++ Fv) scope vx) σ H Q :=
 h F A σ H _ x0 r sr fun m G F1 A1 W1 H1 ds J e1 r1 hm1 wk zR => by
  obtain ⟨P, p0, hG, hs, hd⟩ := zR;have up : ∀ {F F' : Hp} {A A' : List Addr} {a : List (Key × El)} {b : List (Key × V)}, Ext F A F' A' -> Paired (fun p q => p.1 = q.1 /\ ElR X.K F A p.2 q.2) a b -> Paired (fun p q => p.1 = q.1 /\ ElR X.K F' A' p.2 q.2) a b := fun e p => zd6 (fun _ _ t => ⟨t.1, t.2.ext e⟩) p;refine ⟨fun i μ vs H' => μ = ds.length - i /\ i <= ds.length /\ ∃ F' A' W' kvs, Ext F1 A1 F' A' /\ RW X.K F' A' W' H' /\ Paired (fun p q => p.1 = q.1 /\ ElR X.K F' A' p.2 q.2) kvs vs /\ P i kvs W', ⟨ds.length, by simp, dy5 _, F1, A1, W1, [], .refl, r1, .nil, p0⟩, ?_⟩;rintro i μ vs H' ⟨rfl, hi, F', A', W', kvs, x, r', z', p⟩;obtain ⟨g, hz⟩ := hG i kvs W' hi p;refine ⟨by rw [<- zb1 z']; exact hz, ?_⟩
  by_cases hlt : i < ds.length
  ·refine .inr ⟨wk.go i F' A' W' H' hlt (x.ex1 hm1) r' g, fun v H'' hy => ?_⟩;obtain ⟨rfl, d, hd', zd⟩ := wk.yld i F' A' W' H' v H'' hlt (x.ex1 hm1) r' g hy;have srx := sr.ext (e1.trans x);refine hs i d kvs W' hd' p F' A' (zc0 O cap σ) H'' v _ r' srx.cmp zd fun S2 σ2 sr2 h2 => ?_;refine ⟨tD X S2 W' _, fun cl C ex s H => h2 cl C ex s H, F', A', x0.trans (e1.trans x), r', sr2, fun F3 A3 W3 H3 kz vk e3 r3 z3 ⟨y, hy, h3⟩ => ?_⟩;subst hy;obtain rfl := Rq.zf2 z3;refine ⟨y, rfl, tD X S2 W3 _, fun cl C ex s H => h3 cl C ex s H, F3, A3, (x0.trans (e1.trans x)).trans e3, r3, sr2.ext e3, fun F4 A4 W4 H4 z vz e4 r4 z4 h4 => ?_⟩;exact ⟨ds.length - (i + 1), by omega, rfl, hlt, F4, A4, W4, zD9 kvs (.inr y) z, (x.trans e3).trans e4, r4, za52 z4 (up (e3.trans e4) z'), h4⟩
  ·have hie : i = ds.length := by omega
   subst hie;exact .inl ⟨wk.stop F' A' W' H' (x.ex1 hm1) r' g, fun l hl => q F' A' W' H' kvs vs l (e1.trans x) r' z' hl (hd kvs W' p)⟩
theorem zb83 (hc : X.calm = true) (cs : zb4 X.N X.env.scope O Fv cap scope) (h : BI X S W tg iter (KD X O Fv cap scope S tg kx vx fun kvs W' => k (.o W'.length) (W' ++ [.dK kvs])))
  (hs : ∀ x, ey1 iter X.env x = pure x := by intro _; rfl) : BE X S W (.DictComp kx vx [⟨tg, iter, [], 0⟩] scope pos) k :=
 .of (zb82 (g := zT1 X (O ++ Fv) scope O.length tg) (tk := zG1 X (O ++ Fv) scope kx) (tv := zG1 X (O ++ Fv) scope vx) hc cs pi_U (fun cl C ex s H => fun pins s' σ' H' v u Q I r ⟨t, h, _, q⟩ => h cl C ex s H pins s' σ' H' v u Q I r q) (fun cl C ex s H => fun pins s' σ' H' Q I ⟨t, h, q⟩ => h cl C ex s H pins s' σ' H' Q I q)
  (fun cl C ex s H => fun pins s' σ' H' Q I ⟨t, h, q⟩ => h cl C ex s H pins s' σ' H' Q I q) zT2 hs) fun F A σ H Q x0 r sr q => zW7 h x0 r sr fun F' A' W' H' kvs vs p x r' z hp hk => (q.ext x).zN9 r' hp (o := .dK kvs) ⟨vs, rfl, z⟩ hk
end
section
variable {X : Cx} {tg iter kx vx : Expr} {scope : Scope} {pos : Pos} {wi : TI} {g : TG} {tk tv : TE} {O F : List Str} {cap : List Nat}
theorem zc99 {i : Nat} {x : Str} {pos' spos : Pos} (hN : X.N.Nodup) (hix : X.N[i]? = some x) (hx : Loc X.env.scope x) (hc : X.calm = true) (S : zb4 X.N X.env.scope O F cap scope) (hi : PI X tg iter wi)
  (hg : ∀ cl C ex s H, PG (zb8 X (O ++ F) scope cl C ex s H) tg g) (hk : ∀ cl C ex s H, PE (zb8 X (O ++ F) scope cl C ex s H) kx tk) (hv : ∀ cl C ex s H, PE (zb8 X (O ++ F) scope cl C ex s H) vx tv)
  (ho : Own O.length g) (hsw : swapsWith (.DictComp kx vx [⟨tg, iter, [], 0⟩] scope pos) (some (.Name x pos')) spos.line X.env = pure true := by rfl) (hs : ∀ x, ey1 iter X.env x = pure x := by intro _; rfl)
  (hf : X.fn x = true \/ X.env.scope.names.lookup x = some .local := by first | exact .inl rfl | exact .inr rfl | assumption) :
  PS X (.Assign [.Name x pos'] (.DictComp kx vx [⟨tg, iter, [], 0⟩] scope pos) spos) (tAsg (tDC wi O cap g tk tv) (zn2 i)) := by
 intro pins s σ H D I h;rw [exec_Assign_Name_used _ _ _ _ hsw];refine ay0 (ly5 (ay0 ?_));show wpAny _ X.A (do let _ <- comprehension (.DictComp kx vx [⟨tg, iter, [], 0⟩] scope pos) scope X.env _ newDict false (eval iter X.env) (some (assign (.Name x pos') X.env))) _ _ s;refine ay0 (fy9 (zy9 (R := fun _ s' => SP X pins D .next s') hc S hi hg hk hv ho hs I h ?_) (fun _ s' hq => ay2 (ay2 hq)) fun _ _ e => e);intro s4 D' C H4 kvs ⟨m, hm⟩ hDC hI fp q;show wpAny (model X.prog X.w) X.A (assign (.Name x pos') X.env (.ref D')) (fun _ s'' => ∃ m, s''.heap.Ns C m /\ ∀ h', fy5 C s''.heap h' -> SP X pins D .next { s'' with heap := h' }) X.xe s4;obtain ⟨f0, f1, f2, f3, f4, f5⟩ := fp;refine wpAny_assign_Name (zt8 (v := .ref D') (hI s4.heap ⟨rfl, fun _ _ => rfl⟩) hN hix hx rfl (fun s5 I5 z => ?_) hf);obtain ⟨a, sb, ha⟩ := z
 have hCa : C ≠ a := by
  rcases ha with e | e
  ·rw [e]; exact f1
  ·exact fy4 (f4 x a e)
 refine ⟨m, hm.sameBut sb hCa, fun h' sb' => ?_⟩;exact ⟨_, upd H4 D' (.dK kvs), I5.turned (t' := s5.toks) (fun b o hb e => (sb'.2 b hb).trans e) f0 f1 f3 f4 f5, q⟩
end
section
variable {X : Bc} {n : Nat} {S : Sl} {W : Wl} {D : DB} {tg iter kx vx : Expr} {O Fv : List Str} {cap : List Nat} {scope : Scope} {pos : Pos}
end
def ltL : List Str -> List Str -> Bool
 | x :: xs, y :: ys => if x = y then ltL xs ys else ltS x y
 | _, _ => false
theorem za88 : ∀ xs : List Str, ltL xs xs = false
 | [] => rfl
 | x :: xs => by simp [ltL, za88 xs]
theorem zx2 : ∀ {a b c : List Str}, a.length = b.length -> b.length = c.length -> ltL a b = true -> ltL b c = true -> ltL a c = true
 | [], _, _, _, _, h, _ => by simp [ltL] at h
 | x :: a, [], _, h1, _, _, _ => by simp at h1
 | x :: a, y :: b, [], _, h2, _, _ => by simp at h2
 | x :: a, y :: b, z :: c, h1, h2, h, h' => by
  have h1 : a.length = b.length := by simpa using h1
  have h2 : b.length = c.length := by simpa using h2
  unfold ltL at h h' ⊢
  by_cases e : x = y
  ·rw [if_pos e] at h
   by_cases e' : y = z
   ·rw [if_pos e'] at h'; rw [if_pos (e.trans e')]; exact zx2 h1 h2 h h'
   ·rw [if_neg e'] at h'; rw [if_neg (by rw [e]; exact e'), e]; exact h'
  ·rw [if_neg e] at h
   by_cases e' : y = z
   ·rw [if_pos e'] at h'; rw [if_neg (by rw [<- e']; exact e), <- e']; exact h
   ·rw [if_neg e'] at h';have h3 := zw3 h h';have : x ≠ z := fun w => by rw [w, za58] at h3; cases h3
    rw [if_neg this]; exact h3
theorem za89 : ∀ {a b : List Str}, a.length = b.length -> a ≠ b -> ltL a b = false -> ltL b a = true
 | [], [], _, h, _ => absurd rfl h
 | [], _ :: _, h, _, _ => by simp at h
 | _ :: _, [], h, _, _ => by simp at h
 | x :: a, y :: b, h1, h, h' => by
  have h1 : a.length = b.length := by simpa using h1
  unfold ltL at h' ⊢
  by_cases e : x = y
  ·rw [if_pos e] at h'; rw [if_pos e.symm];exact za89 h1 (fun z => h (by rw [e, z])) h'
  ·rw [if_neg e] at h'; rw [if_neg (fy4 e)];exact zL7 e h'
section
variable {prog : cy8} {w : World} {A : Around} {E : Value -> Shared -> Prop} {s : Shared}
theorem zQ7 {β : Type} {f : Value × Value -> β -> Sem (ForInStep β)} {b0 : β} {fin : Bool -> β}
  (heq : ∀ (x : Str) (t u : Tok) (Q : ForInStep β -> Shared -> Prop) (s : Shared), Q (.yield b0) s -> wpAny (model prog w) A (f (.str x t, .str x u) b0) Q E s)
  (hne : ∀ (x y : Str) (t u : Tok) (Q : ForInStep β -> Shared -> Prop) (s : Shared), x ≠ y -> Q (.done (fin (ltS x y))) s -> wpAny (model prog w) A (f (.str x t, .str y u) b0) Q E s) :
  ∀ (xs ys : List Str) (its its2 : List Value), Vals (xs.map V.str) its -> Vals (ys.map V.str) its2 -> xs.length = ys.length -> ∀ (Q : β -> Shared -> Prop) (s : Shared), (xs = ys -> Q b0 s) -> (xs ≠ ys -> Q (fin (ltL xs ys)) s) -> wpAny (model prog w) A (forIn (its.zip its2) b0 f) Q E s
 | [], [], _, _, .nil, .nil, _, Q, s, h1, _ => by
  rw [List.zip_nil_left];exact ay2 (h1 rfl)
 | [], _ :: _, _, _, _, _, h, _, _, _, _ => by simp at h
 | _ :: _, [], _, _, _, _, h, _, _, _, _ => by simp at h
 | x :: xs, y :: ys, _, _, .cons (b := v) rx r, .cons (b := v') ry r', hl, Q, s, h1, h2 => by
  obtain ⟨t, rfl⟩ := rx;obtain ⟨u, rfl⟩ := ry;rw [List.zip_cons_cons, List.forIn_cons]
  by_cases e : x = y
  ·subst e;refine ay0 (heq x t u _ s ?_);refine zQ7 heq hne xs ys _ _ r r' (by simpa using hl) Q s (fun z => h1 (by rw [z])) fun z => ?_;have := h2 (fun z' => z (by injection z'));unfold ltL at this;rw [if_pos rfl] at this;exact this
  ·refine ay0 (hne x y t u _ s e (ay2 ?_));have := h2 (fun z' => e (by injection z'));unfold ltL at this;rw [if_neg e] at this;exact this
theorem zb84 {xs ys : List Str} {its its2 : List Value} {a b : Addr} {oa ob : Obj} {n m : Nat} {Q : Bool -> Shared -> Prop} (hu : A.units < cLine) (ha : s.heap.get? a = some oa) (ca : oa.cls = .type "tuple") (da : oa.data = .seq its.toArray n)
  (hb : s.heap.get? b = some ob) (cb : ob.cls = .type "tuple") (db : ob.data = .seq its2.toArray m) (rx : Vals (xs.map V.str) its) (ry : Vals (ys.map V.str) its2) (hl : xs.length = ys.length) (hne : xs ≠ ys) (h : Q (ltL xs ys) s) : wpAny (model prog w) A (hy5 .Lt (.ref a) (.ref b)) (PySem.W.BoolBack Q) E s := by
 have hTa : s.TypeIs (.ref a) "tuple" := ⟨_, ha, ca⟩
 have hTb : s.TypeIs (.ref b) "tuple" := ⟨_, hb, cb⟩
 refine wpAny_richCompare_same_room (op := .Lt) hTa hTb F.slot_tuple_lt (dy3 F.slot_tuple_lt hTa F.entry_tuple_lt ?_ (F.args_tuple_lt_2 _ _)) hu;show wpAny _ _ (isInstance (.ref b) (.type "tuple") >>= _) _ _ s;refine ay0 (ky8 hTb isSubtype_tuple_tuple ?_);simp only [Bool.not_true, iy3, if_false];refine ay0 (wpAny_tupleItemsOf ha da (ay0 (wpAny_tupleItemsOf hb db (ay0 ?_))));show wpAny _ _ (forIn (its.zip its2) _ _) _ _ s;refine zQ7 (fin := fun c => ⟨some (.done (.ret (.bool c))), ⟨⟩⟩) ?_ ?_ xs ys its its2 rx ry hl _ s (fun z => absurd z hne) (fun _ => ?_)
 ·intro x t u Q s hq;refine ay0 (qy2 ?_);rw [decide_eq_true rfl];simp only [Bool.not_true, iy3, if_false];exact ay2 hq
 ·intro x y t u Q s e hq;refine ay0 (qy2 ?_);rw [decide_eq_false e];simp only [Bool.not_false, if_true];refine ay0 (my9 (ay0 (PySem.P.lt_str ?_)));exact ay0 (ay2 (ay2 hq))
 ·exact ay2 ⟨_, rfl, by simp, h⟩
end
theorem zQ8 {a b : List Str} (hl : a.length = b.length) (h : ltL a b = true) : ltL b a = false := by
 cases h' : ltL b a with
 | false => rfl
 | true =>
  have := zx2 hl hl.symm h h';rw [za88] at this;cases this
theorem za90 {ks : List (List Str)} {m : Nat} (nd : ks.Nodup) (hm : ∀ k ∈ ks, k.length = m) : Ord ks.length fun i j => ltL (ks.getD i []) (ks.getD j []) := by
 have e : ∀ k (hk : k < ks.length), ks.getD k [] = ks[k] := fun k hk => by simp [ly8, hk]
 have hl : ∀ k (hk : k < ks.length), (ks.getD k []).length = m := fun k hk => by rw [e k hk]; exact hm _ (qy4 hk)
 refine ⟨fun i j hi hj h => zQ8 ((hl i hi).trans (hl j hj).symm) h, fun i j k hi hj hk h h' => zx2 ((hl i hi).trans (hl j hj).symm) ((hl j hj).trans (hl k hk).symm) h h', fun i j hi hj hij h => ?_⟩;refine za89 ((hl i hi).trans (hl j hj).symm) (fun z => hij ?_) h;rw [e i hi, e j hj] at z;exact (jy9 nd).mp z
end L2
namespace L2
open PySem PySem.Spec PyProof.Rows
open PySem.W
section
variable {prog : cy8} {w : World} {A : Around} {E : Value -> Shared -> Prop} {s : Shared}
theorem zQ9 {fin : Bool} {Q : Bool -> Shared -> Prop} : ∀ (xs ys : List Str) (its its2 : List Value) (i : Nat), Vals (xs.map V.str) its -> Vals (ys.map V.str) its2 -> xs.length = ys.length -> xs ≠ ys -> Q (ltL xs ys) s -> KatLex prog w A true fin Q (its.zip its2) (i + 1) s
 | [], [], _, _, _, _, _, _, h, _ => absurd rfl h
 | [], _ :: _, _, _, _, _, _, h, _, _ => by simp at h
 | _ :: _, [], _, _, _, _, _, h, _, _ => by simp at h
 | x :: xs, y :: ys, _, _, i, .cons rx r, .cons ry r', hl, hne, h => by
  obtain ⟨t, rfl⟩ := rx;obtain ⟨u, rfl⟩ := ry;rw [List.zip_cons_cons, KatLex.eq_2];refine qy2 ?_;unfold ltL at h
  by_cases e : x = y
  ·rw [decide_eq_true e, if_pos rfl];rw [if_pos e] at h;exact zQ9 xs ys _ _ (i + 1) r r' (by simpa using hl) (fun z => hne (by rw [e, z])) h
  ·rw [decide_eq_false e, if_neg (by decide)];rw [if_neg e] at h;exact kat_one _ _ (PySem.P.lt_str h)
theorem za91 {fin : Bool} {Q : Bool -> Shared -> Prop} {xs ys : List Str} {its its2 : List Value} (rx : Vals (xs.map V.str) its) (ry : Vals (ys.map V.str) its2) (hl : xs.length = ys.length) (hne : xs ≠ ys) (h : Q (ltL xs ys) s) : KatLex prog w A true fin Q (its.zip its2) 0 s := by
 cases xs with
 | nil =>
  cases ys with
  | nil => exact absurd rfl hne
  | cons y ys => simp at hl
 | cons x xs =>
  cases ys with
  | nil => simp at hl
  | cons y ys =>
   cases rx with
   | cons rx r =>
    cases ry with
    | cons ry r' =>
     obtain ⟨t, rfl⟩ := rx;obtain ⟨u, rfl⟩ := ry;rw [List.zip_cons_cons, KatLex.eq_2];refine qy2 ?_;unfold ltL at h
     by_cases e : x = y
     ·rw [decide_eq_true e, if_pos rfl];rw [if_pos e] at h;exact zQ9 xs ys _ _ 0 r r' (by simpa using hl) (fun z => hne (by rw [e, z])) h
     ·rw [decide_eq_false e, if_neg (by decide)];rw [if_neg e] at h;refine strKind_oneLt prog w A _ s _ _ x.cps.toList y.cps.toList rfl rfl ?_;exact h
end
def IsTL (h : Heap) (b : Addr) (p : List Str) : Prop := ∃ o n, ∃ its : List Value, h.get? b = some o /\ o.cls = .type "tuple" /\ o.data = .seq its.toArray n /\ Vals (p.map V.str) its
section
variable {X : Cx}
theorem zI6 : zj0 X (.builtin "sorted") fun xs H Q => ∃ (p : Addr) (vs : List V) (ps : List (List Str)) (m : Nat), xs = [.ref p] /\ SqL X.K H p vs /\ vs.length < 64 /\ Paired (fun (p : List Str) v => ∃ b, v = .ref b /\ SqT X.K H b (p.map V.str)) ps vs /\ ps.Nodup /\ 0 < m /\ (∀ k ∈ ps, k.length = m) /\
  ∀ (l : Addr) (q : List Nat), H l = none -> q.Perm (ky2 ps.length) -> q.Pairwise (fun i j => ltL (ps.getD i []) (ps.getD j []) = true) -> Q (.ref l) (upd H l (.lst (q.map fun i => vs.getD i .non))) := by
 intro pins s σ H xs us Q I r h;obtain ⟨p, vs, ps, m, rfl, hq, h64, hv, nd, hm0, hm, q⟩ := h;obtain ⟨u, rfl, rx⟩ := vals1 r;cases rx;obtain ⟨its, r', pl, hz⟩ := I.list hq;have hlen := r'.length;have hpl : ps.length = vs.length := zb1 hv;have gp : ∀ k (hk : k < ps.length), ps.getD k [] = ps[k] := fun k hk => by simp [ly8, hk]
 have gl : ∀ k (hk : k < ps.length), (ps.getD k []).length = m := fun k hk => by rw [gp k hk]; exact hm _ (qy4 hk)
 have tup : ∀ i (hi : i < its.length), ∃ b, its[i] = .ref b /\ IsTL s.heap b (ps.getD i []) := fun i hi => by
  have hip : i < ps.length := by omega
  obtain ⟨x, hx, rx⟩ := ze2 r' (by5 hi);obtain ⟨v, hv', b, e1, hb⟩ := zh3 hv (by5 hip);rw [hx] at hv';cases hv';subst e1;have rx' : its[i] = cy7 b := rx;refine ⟨b, rx', ?_⟩;obtain ⟨ws, rw', ⟨o, g1, g2, n, g3⟩, _⟩ := I.tuple hb;rw [gp i hip];exact ⟨o, n, ws, g1, g2, g3, rw'⟩
 have O := za90 nd hm;rw [hpl, hlen] at O;refine zH8 (κ := tuples' true) O pl.isList (by omega) (fun h2 s' Q hb hQ => ?_) (fun h2 s' i j C hb hi hj hij hC => ?_) fun qq q1 q2 => ?_
 ·obtain ⟨fs, k1, k2, k3⟩ : ∃ fs, KatTups s'.heap its fs /\ fs.length = its.length /\ ∀ v ∈ fs, ∃ x t, v = .str x t := by
   have : ∀ (l : List Value), (∀ v ∈ l, ∃ b p, v = .ref b /\ IsTL s'.heap b p /\ p ≠ []) -> ∃ fs, KatTups s'.heap l fs /\ fs.length = l.length /\ ∀ v ∈ fs, ∃ x t, v = .str x t := by
    intro l
    induction l with
    | nil => intro _; exact ⟨[], .nil, rfl, fun v hv => absurd hv (by simp)⟩
    | cons a l ih =>
     intro h;obtain ⟨b, p, rfl, ⟨o, n, ws, e1, e2, e3, rw'⟩, hp⟩ := h a ay9;obtain ⟨fs, f1, f2, f3⟩ := ih fun a ha => h a (by0 _ ha);cases p with
     | nil => exact absurd rfl hp
     | cons x p =>
      cases rw' with
      | @cons _ v _ ws' rx rr =>
       obtain ⟨t, rfl⟩ := rx;refine ⟨.str x t :: fs, .cons e1 e2 e3 (f := .str x t) (by simp) f1, by simp [f2], fun v hv => ?_⟩;rcases by7.mp hv with rfl | hv
       ·exact ⟨_, _, rfl⟩
       ·exact f3 v hv
   refine this its fun v hv' => ?_;obtain ⟨i, hi, rfl⟩ := wy0.mp hv';obtain ⟨b, e1, o, n, ws, e2, e3⟩ := tup i hi;exact ⟨b, _, e1, ⟨o, n, ws, hb _ _ e2, e3⟩, fun z => by have := gl i (by omega); rw [z] at this; simp at this; omega⟩
  refine kat_kind (T := .type "str") k1 (by omega) (fun v hv' => ?_) (by decide) hQ;obtain ⟨x, t, rfl⟩ := k3 v hv';exact fun A Q E s _ q => py2 rfl q
 ·obtain ⟨b1, e1, o1, n1, w1, g1, c1, d1, rw1⟩ := tup i hi;obtain ⟨b2, e2, o2, n2, w2, g2, c2, d2, rw2⟩ := tup j hj;unfold kas_ask;have gd : ∀ (k : Nat) (hk : k < its.length), its.getD k dy4 = its[k] := fun k hk => by simp [ly8, hk]
  rw [gd i hi, gd j hj, e1, e2];refine kat_lt (hb _ _ g1) d1 (hb _ _ g2) d2 ?_;refine za91 rw1 rw2 ((gl i (by omega)).trans (gl j (by omega)).symm) (fun z => hij ?_) hC;rw [gp i (by omega), gp j (by omega)] at z;exact (jy9 nd).mp z
 ·obtain ⟨e, he⟩ := sortedAll_at s.heap its (qq.map fun i => its.getD i dy4).toArray;rw [<- hlen, <- hpl] at q1
  have hvq : Vals (qq.map fun i => vs.getD i .non) (qq.map fun i => its.getD i dy4) := by
   have : ∀ l : List Nat, (∀ i ∈ l, i < vs.length) -> Vals (l.map fun i => vs.getD i .non) (l.map fun i => its.getD i dy4) := by
    intro l
    induction l with
    | nil => intro _; exact .nil
    | cons i l ih =>
     intro hl;have hi := hl i ay9;refine .cons ?_ (ih fun j hj => hl j (by0 _ hj));obtain ⟨w, hw, rw'⟩ := zh3 r' (by5 hi);show RelV (vs.getD i .non) (its.getD i dy4);rw [show vs.getD i .non = vs[i] by simp [ly8, hi], show its.getD i dy4 = w by simp [ly8, hw]];exact rw'
   exact this qq fun i hi => by
    have := q1.mem_iff.mp hi;rw [<- hpl];simpa using this
  refine ⟨.ref (s.heap.objs.size + 1), _, I.laid (t' := s.toks) (fun _ _ => sortedAll_old) (ry1 _) (show zb6 X.prog X.w _ _ _ (.lst (qq.map fun i => vs.getD i .non)) from ⟨?_, _, e, hvq, ?_⟩), rfl, q _ qq (I.hok.fresh (ry1 _)) q1 q2⟩
  ·rw [ay4, q1.length_eq, List.length_range, hpl]; exact hz
  ·simpa [seqObj] using he
end
section
variable {α : Type}
theorem za92 [Inhabited α] {L : List α} {key : α -> List Str} {q : List Nat} (hq : ∀ i ∈ q, i < L.length) (h : q.Pairwise fun i j => ltL ((L.map key).getD i []) ((L.map key).getD j []) = true) : (q.map fun i => L.getD i default).Pairwise fun a b => ltL (key a) (key b) = true := by
 rw [List.pairwise_map];refine h.imp_of_mem fun {i j} hi hj hij => ?_;have e : ∀ k, k < L.length -> (L.map key).getD k [] = key (L.getD k default) := fun k hk => by simp [ly8, hk]
 rw [e i (hq i hi), e j (hq j hj)] at hij;exact hij
end
section
variable {X : Bc} {S : Sl} {W : Wl} {k : KB}
theorem zR0 {K : ay5} {F : Hp} {xs : List Str} {vs : List V} (h : Paired (fun d v => Rq K F v d) (xs.map jy1) vs) : vs = xs.map V.str := zv2 h
theorem zW8 {α : Type} [Inhabited α] {x : El} {L : List α} {m : Nat} (key : α -> List Str) (g : α -> PyData) (hg : ∀ a ∈ L, g a = .tuple ((key a).map .str)) (hx : zS6 W x (L.map g)) (nd : (L.map key).Nodup) (h64 : L.length < 64) (hm0 : 0 < m) (hm : ∀ a ∈ L, (key a).length = m)
  (h : ∀ L' : List α, L'.Perm L -> L'.Pairwise (fun a b => ltL (key a) (key b) = true) -> k (.o W.length) (W ++ [.lst (zb2 (L'.map g))])) : CB X (.builtin "sorted") [x] W k := .of zI6 fun F A H Q vs r zs q => by
 obtain ⟨v, rfl, z⟩ := zg5 zs;obtain ⟨a, vs, rfl, hs, z⟩ := r.lst z hx;have hl : L.length = vs.length := by have := zb1 z; simpa using this
 refine ⟨a, vs, L.map key, m, rfl, .inl hs, by omega, ?_, nd, hm0, fun k hk => ?_, fun l qq hl0 h1 h2 => ?_⟩
 ·refine za09 ?_;refine zo8 (zt0 z) fun x hx v hv => ?_;have hv : Rq X.K F v (g x) := hv;rw [hg x hx] at hv;obtain ⟨b, ws, rfl, hb, pw⟩ := Rq.zg3 hv;obtain rfl := zR0 pw;exact ⟨b, rfl, r.sub.zr7 hb⟩
 ·obtain ⟨a, ha, rfl⟩ := cy4.mp hk;exact hm a ha
 ·rw [ay4] at h1;have hql : ∀ i ∈ qq, i < L.length := fun i hi => by have := h1.mem_iff.mp hi; simpa using this
  refine q.zN9 r hl0 (o := .lst (zb2 ((qq.map fun i => L.getD i default).map g))) ⟨_, rfl, zf3 ?_⟩ (h _ (zy5 h1) (za92 hql h2))
  have : ∀ l : List Nat, (∀ i ∈ l, i < L.length) -> Paired (fun d v => Rq X.K F v d) ((l.map fun i => L.getD i default).map g) (l.map fun i => vs.getD i .non) := by
   intro l
   induction l with
   | nil => intro _; exact .nil
   | cons i l ih =>
    intro hl';have hi := hl' i ay9;refine .cons ?_ (ih fun j hj => hl' j (by0 _ hj));obtain ⟨w, hw, rw'⟩ := zh3 z (i := i) (a := g L[i]) (by rw [by3, by5 hi]; rfl);show Rq X.K F (vs.getD i .non) (g (L.getD i default));rw [show L.getD i default = L[i] by simp [ly8, hi], show vs.getD i .non = w by simp [ly8, hw]];exact rw'
  exact this qq hql
end
section
variable {P : cy8} {w : World} {A : Around} {s : Shared} {l I S : Addr} {vs : List Value} {h0 : Heap} {n : Nat} {lt : Nat -> Nat -> Bool} {R : Result -> Shared -> Prop}
theorem zb85 (O : Ord vs.length lt) (hh : A.handled = none) (hlI : l ≠ I) (hSI : S ≠ I) (hSl : S ≠ l) (hI : h0.get? I = none) (hS : h0.get? S = none)
  (hc : ∀ (s' : Shared) i j vi vj (Q : Value -> Shared -> Prop) (E : Value -> Shared -> Prop), (∀ b o, h0.get? b = some o -> s'.heap.get? b = some o) -> vs[i]? = some vi -> vs[j]? = some vj -> i ≠ j -> Q (.bool (lt i j)) s' -> wpAny (model P w) A.in1 (richCompare .Lt vi vj) Q E s')
  (hR : ∀ i v h' tk, vs[i]? = some v -> (∀ j, j < vs.length -> j ≠ i -> lt i j = true) -> (∀ b o, h0.get? b = some o -> h'.get? b = some o) -> R (.ok (.ret v)) { s with heap := h', toks := tk }) :
  ∀ (k j i : Nat) (vb : Value) (h : Heap) (tk c : Nat), j + k = vs.length -> i < j -> vs[i]? = some vb -> (∀ j', j' < j -> j' ≠ i -> lt i j' = true) -> h.IsListIter I l j -> h.IsList l vs.toArray -> h.get? S = some { cls := .type "list", data := .seq #[vb, vb] c } -> (∀ b o, h0.get? b = some o -> h.get? b = some o) ->
   ly4 (model P w) A (.builtin "min.loop" ⟨[.ref I, .none, .ref S], []⟩) R { s with heap := h, toks := tk } := by
 have Wk := Walks.list (prog := P) (w := w) (A := A.in1) hh I l hlI vs.toArray;have n0I : ∀ b o, h0.get? b = some o -> b ≠ I := fun b o e z => by rw [z, hI] at e; cases e
 have n0S : ∀ b o, h0.get? b = some o -> b ≠ S := fun b o e z => by rw [z, hS] at e; cases e
 have wr : ∀ {b : Addr}, b ≠ I -> ¬ b ∈ [I] := fun h z => h (ey7.mp z);intro k
 induction k with
 | zero =>
  intro j i vb h tk c hk hij hvb hbest hit hl hSo hkeep;obtain rfl : j = vs.length := by omega
  refine hy1 PySem.F.entry_min_loop ?_;rw [fy1 ky7 _];show wpAny _ A.in1 (seqItems? (.ref S) >>= _) _ _ _;refine ay0 (ry5 (s := { s with heap := h, toks := tk }) hSo rfl ?_);refine ay0 (wpAny_tryCatch ?_);refine Wk.done { s with heap := h, toks := tk } _ _ ?_ fun h' tk' kp => ?_
  ·rw [cy0]; exact ⟨hit, hl⟩
  ·have hS' := kp S _ (wr hSI) hSo;refine ay0 (qy0 (s := { s with heap := h', toks := tk' }) hS' rfl ?_ (by show 2 <= by2; decide) (by show 0 <= by2 + 1; decide));refine ay0 (wpAny_letGo (ay2 (hR i vb _ tk' hvb hbest fun b o e => ?_)));exact (dy0 _ _ (fy4 (n0S b o e))).trans (kp b o (wr (n0I b o e)) (hkeep b o e))
 | succ k ih =>
  intro j i vb h tk c hk hij hvb hbest hit hl hSo hkeep;have hlt : j < vs.length := by omega
  refine hy1 PySem.F.entry_min_loop ?_;rw [fy1 ky7 _];show wpAny _ A.in1 (seqItems? (.ref S) >>= _) _ _ _;refine ay0 (ry5 (s := { s with heap := h, toks := tk }) hSo rfl ?_);refine ay0 (wpAny_tryCatch ?_);refine Wk.item j { s with heap := h, toks := tk } _ _ (by rw [cy0]; exact hlt) ⟨hit, hl⟩ fun v h' tk' hv st' kp => ?_;have hv' : vs[j]? = some v := by simpa using hv
  have hS' := kp S _ (wr hSI) hSo;have keep' : ∀ b o, h0.get? b = some o -> h'.get? b = some o := fun b o e => kp b o (wr (n0I b o e)) (hkeep b o e);show wpAny _ A.in1 (pure v >>= _) _ _ _;refine ay0 (ay2 ?_);refine ay0 (wpAny_tryCatch (ey5 (ay0 ?_)));refine hc { s with heap := h', toks := tk' } j i v vb _ _ keep' hv' hvb (by omega) ?_;refine ay0 (ey5 (ly0 (ay0 (wpAny_letGo (ay2 ?_)))));cases hb : lt j i with
  | true =>
   rw [if_pos rfl];refine ay0 (qy0 (s := { s with heap := h', toks := tk' }) hS' rfl ?_ (by show 2 <= by2; decide) (by show 2 <= by2 + 1; decide));obtain ⟨c', eS⟩ : ∃ c', (h'.update S (hy9 fun _ => #[v, v])).get? S = some { cls := .type "list", data := .seq #[v, v] c' } := ⟨_, get?_update_seq (n := c) (c := "list") (xs := #[vb, vb]) hS' (fun _ => #[v, v])⟩
   have up : ∀ b o, b ≠ S -> h'.get? b = some o -> (h'.update S (hy9 fun _ => #[v, v])).get? b = some o := fun b o hb e => (dy0 _ _ (fy4 hb)).trans e;refine ay0 (wpAny_letGo (ay2 ⟨iy5 ky7 _, ih (j + 1) j v _ tk' c' (by omega) (by omega) hv' (fun j' hj' hne => ?_) ?_ ?_ eS fun b o e => up b o (n0S b o e) (keep' b o e)⟩))
   ·by_cases e : j' = i
    ·rw [e]; exact hb
    ·exact O.trans j i j' hlt (by omega) (by omega) hb (hbest j' (by omega) e)
   ·obtain ⟨o, e, r⟩ := st'.1;exact ⟨o, up I o (fy4 hSI) e, r⟩
   ·obtain ⟨o, e, r⟩ := st'.2;exact ⟨o, up l o (fy4 hSl) e, r⟩
  | false =>
   rw [if_neg (by simp)];refine ay0 (wpAny_letGo (ay2 ⟨iy5 ky7 _, ih (j + 1) i vb _ tk' c (by omega) (by omega) hvb (fun j' hj' hne => ?_) st'.1 st'.2 hS' keep'⟩))
   by_cases e : j' = j
   ·rw [e]; exact O.tot j i hlt (by omega) (by omega) hb
   ·exact hbest j' (by omega) hne
theorem za93 (O : Ord vs.length lt) (hh : A.handled = none) (hlI : l ≠ I) (hSI : S ≠ I) (hSl : S ≠ l) (hI : h0.get? I = none) (hS : h0.get? S = none)
  (hc : ∀ (s' : Shared) i j vi vj (Q : Value -> Shared -> Prop) (E : Value -> Shared -> Prop), (∀ b o, h0.get? b = some o -> s'.heap.get? b = some o) -> vs[i]? = some vi -> vs[j]? = some vj -> i ≠ j -> Q (.bool (lt i j)) s' -> wpAny (model P w) A.in1 (richCompare .Lt vi vj) Q E s')
  (hR : ∀ i v h' tk, vs[i]? = some v -> (∀ j, j < vs.length -> j ≠ i -> lt i j = true) -> (∀ b o, h0.get? b = some o -> h'.get? b = some o) -> R (.ok (.ret v)) { s with heap := h', toks := tk })
  (h : Heap) (tk c : Nat) (h0l : 0 < vs.length) (hit : h.IsListIter I l 0) (hl : h.IsList l vs.toArray) (hSo : h.get? S = some { cls := .type "list", data := .seq #[] c }) (hkeep : ∀ b o, h0.get? b = some o -> h.get? b = some o) :
   ly4 (model P w) A (.builtin "min.loop" ⟨[.ref I, .none, .ref S], []⟩) R { s with heap := h, toks := tk } := by
 have Wk := Walks.list (prog := P) (w := w) (A := A.in1) hh I l hlI vs.toArray;have n0I : ∀ b o, h0.get? b = some o -> b ≠ I := fun b o e z => by rw [z, hI] at e; cases e
 have n0S : ∀ b o, h0.get? b = some o -> b ≠ S := fun b o e z => by rw [z, hS] at e; cases e
 have wr : ∀ {b : Addr}, b ≠ I -> ¬ b ∈ [I] := fun h z => h (ey7.mp z);refine hy1 PySem.F.entry_min_loop ?_;rw [fy1 ky7 _];show wpAny _ A.in1 (seqItems? (.ref S) >>= _) _ _ _;refine ay0 (ry5 (s := { s with heap := h, toks := tk }) hSo rfl ?_);refine ay0 (wpAny_tryCatch ?_);refine Wk.item 0 { s with heap := h, toks := tk } _ _ (by rw [cy0]; exact h0l) ⟨hit, hl⟩ fun v h' tk' hv st' kp => ?_;have hv' : vs[0]? = some v := by simpa using hv
 have hS' := kp S _ (wr hSI) hSo;have keep' : ∀ b o, h0.get? b = some o -> h'.get? b = some o := fun b o e => kp b o (wr (n0I b o e)) (hkeep b o e);show wpAny _ A.in1 (pure v >>= _) _ _ _;refine ay0 (ay2 ?_);show wpAny _ A.in1 (updateSeq S (fun _ => #[v, v]) >>= _) _ _ _;refine ay0 (qy0 (s := { s with heap := h', toks := tk' }) hS' rfl ?_ (by show 0 <= by2; decide) (by show 2 <= by2 + 1; decide));obtain ⟨c', eS⟩ : ∃ c', (h'.update S (hy9 fun _ => #[v, v])).get? S = some { cls := .type "list", data := .seq #[v, v] c' } := ⟨_, get?_update_seq (n := c) (c := "list") (xs := #[]) hS' (fun _ => #[v, v])⟩
 have up : ∀ b o, b ≠ S -> h'.get? b = some o -> (h'.update S (hy9 fun _ => #[v, v])).get? b = some o := fun b o hb e => (dy0 _ _ (fy4 hb)).trans e;refine ay2 ⟨iy5 ky7 _, zb85 O hh hlI hSI hSl hI hS hc hR (vs.length - 1) 1 0 v _ tk' c' (by omega) (by omega) hv' (fun j' hj' hne => absurd hj' (by omega)) ?_ ?_ eS fun b o e => up b o (n0S b o e) (keep' b o e)⟩
 ·obtain ⟨o, e, r⟩ := st'.1;exact ⟨o, up I o (fy4 hSI) e, r⟩
 ·obtain ⟨o, e, r⟩ := st'.2;exact ⟨o, up l o (fy4 hSl) e, r⟩
theorem zN0 {Q : Value -> Shared -> Prop} {E : Value -> Shared -> Prop} (O : Ord vs.length lt) (hh : A.handled = none) (hl : s.heap.IsList l vs.toArray) (h0l : 0 < vs.length)
  (hc : ∀ (s' : Shared) i j vi vj (Q : Value -> Shared -> Prop) (E : Value -> Shared -> Prop), (∀ b o, s.heap.get? b = some o -> s'.heap.get? b = some o) -> vs[i]? = some vi -> vs[j]? = some vj -> i ≠ j -> Q (.bool (lt i j)) s' -> wpAny (model P w) A.in1 (richCompare .Lt vi vj) Q E s')
  (hQ : ∀ i v h' tk, vs[i]? = some v -> (∀ j, j < vs.length -> j ≠ i -> lt i j = true) -> (∀ b o, s.heap.get? b = some o -> h'.get? b = some o) -> Q v { s with heap := h', toks := tk }) : wpAny (model P w) A (call (.builtin "min") [.ref l]) Q E s := by
 refine call_function_tree PySem.F.kind_min PySem.F.plain_min PySem.F.entry_min (PySem.F.args_min1 (cy7 l)) ?_;show wpAny _ _ (Builtin.Builtins.bindParams "min" ["key", "default"] 0 ⟨[], []⟩ >>= _) _ _ s;refine ay0 (wpAny_of_eq (a := [none, none]) rfl ?_);show wpAny _ _ (pure (cy7 l) >>= _) _ _ s;refine ay0 (ay2 (ay0 (vy5 hl (ay0 (wpAny_newList ?_)))));have hll : l < s.heap.objs.size := by obtain ⟨_, e, _⟩ := hl; exact by1 e
 have hnone : ∀ b, s.heap.objs.size <= b -> s.heap.get? b = none := fun b hb => by
  cases e : s.heap.get? b with
  | none => rfl
  | some o => exact absurd (by1 e) (Nat.not_lt.mpr hb)
 have sz : ∀ o, (s.heap.push o).objs.size = s.heap.objs.size + 1 := fun o => ny3 ..;refine ay2 ⟨iy5 ky7 _, ?_⟩;refine za93 (s := s) (h0 := s.heap) (l := l) (I := s.heap.objs.size) (S := (s.heap.push { cls := .type "list_iterator", data := .fields #[.ref l, .int 0 0] }).objs.size) O hh (by6 hll) ?_ ?_ (hnone _ (ay6 _)) ?_ hc (fun i v h' tk h1 h2 h3 => ?_) ((s.heap.push { cls := .type "list_iterator", data := .fields #[.ref l, .int 0 0] }).push { cls := .type "list", data := .seq #[] }) s.toks 0 h0l ?_ ?_ ?_ ?_
 ·rw [sz]; exact Nat.succ_ne_self _
 ·rw [sz]; exact ky5 (ny0 hll)
 ·rw [sz]; exact hnone _ (ry1 _)
 ·exact hQ i v h' tk h1 h2 h3
 ·exact ⟨_, ay1 _ (ay7 _ rfl), rfl, rfl⟩
 ·obtain ⟨o, e, r⟩ := hl;exact ⟨o, ay1 _ (ay1 _ e), r⟩
 ·exact ay7 _ rfl
 ·exact fun b o e => ay1 _ (ay1 _ e)
end
section
variable {X : Cx}
theorem za94 (hcm : X.calm = true) (hu : X.A.units + 1 < cLine) : zj0 X (.builtin "min") fun xs H Q => ∃ (p : Addr) (vs : List V) (ps : List (List Str)) (m : Nat), xs = [.ref p] /\ SqL X.K H p vs /\ Paired (fun (p : List Str) v => ∃ b, v = .ref b /\ SqT X.K H b (p.map V.str)) ps vs /\ ps.Nodup /\ 0 < ps.length /\ (∀ k ∈ ps, k.length = m) /\
  ∀ (i : Nat) v, vs[i]? = some v -> (∀ j, j < ps.length -> j ≠ i -> ltL (ps.getD i []) (ps.getD j []) = true) -> Q v H := by
 intro pins s σ H xs us Q I r h;obtain ⟨p, vs, ps, m, rfl, hq, hv, nd, hp0, hm, q⟩ := h;obtain ⟨u, rfl, rx⟩ := vals1 r;cases rx;obtain ⟨its, r', pl, hz⟩ := I.list hq;have hlen := r'.length;have hpl : ps.length = vs.length := zb1 hv;have gp : ∀ k (hk : k < ps.length), ps.getD k [] = ps[k] := fun k hk => by simp [ly8, hk]
 have tup : ∀ i v, its[i]? = some v -> i < ps.length /\ ∃ b, v = .ref b /\ IsTL s.heap b (ps.getD i []) := fun i v hi => by
  have hil : i < its.length := (ay3.mp hi).1;have hip : i < ps.length := by omega
  obtain ⟨x, hx, rx⟩ := ze2 r' hi;obtain ⟨v', hv', b, e1, hb⟩ := zh3 hv (by5 hip);rw [hx] at hv';cases hv';subst e1;have rx' : v = cy7 b := rx;refine ⟨hip, b, rx', ?_⟩;obtain ⟨ws, rw', ⟨o, g1, g2, n, g3⟩, _⟩ := I.tuple hb;rw [gp i hip];exact ⟨o, n, ws, g1, g2, g3, rw'⟩
 have O := za90 nd hm;rw [hpl, hlen] at O;have gl : ∀ k (hk : k < ps.length), (ps.getD k []).length = m := fun k hk => by rw [gp k hk]; exact hm _ (qy4 hk)
 refine zN0 O (I.ok.hd hcm) pl.isList (by omega) (fun s' i j vi vj Q' E' kp hi hj hij hQ => ?_) fun i v h' tk hi hb kp => ?_
 ·obtain ⟨hip, b, rfl, o, n, ws, g1, g2, g3, rw1⟩ := tup i vi hi;obtain ⟨hjp, b', rfl, o', n', ws', g1', g2', g3', rw2⟩ := tup j vj hj;refine thn (zb84 (s := s') (A := X.A.in1) (Q := fun b s => Q' (.bool b) s) ?_ (kp _ _ g1) g2 g3 (kp _ _ g1') g2' g3' rw1 rw2 ((gl i hip).trans (gl j hjp).symm) (fun z => ?_) hQ) fun v s2 hv => ?_
  ·exact hu
  ·rw [gp i hip, gp j hjp] at z;exact hij ((jy9 nd).mp z)
  ·cases v <;> first | exact hv | exact hv.elim
 ·obtain ⟨x, hx, rx⟩ := ze2 r' hi;exact ⟨x, H, I.kept kp, rx, q i x hx fun j hj hne => hb j (by omega) hne⟩
end
section
variable {X : Bc} {S : Sl} {W : Wl} {k : KB}
theorem zd00 {α : Type} {x : El} {L : List α} {m : Nat} (hcm : X.calm = true) (hu : X.A.units + 64 < cLine) (key : α -> List Str) (g : α -> PyData) (hg : ∀ a ∈ L, g a = .tuple ((key a).map .str)) (hx : zS6 W x (L.map g)) (nd : (L.map key).Nodup) (h0 : L ≠ []) (hm : ∀ a ∈ L, (key a).length = m)
  (h : ∀ a ∈ L, (∀ b ∈ L, key b ≠ key a -> ltL (key a) (key b) = true) -> k (.d (g a)) W) : CB X (.builtin "min") [x] W k := .of (za94 hcm (by omega)) fun F A H Q vs r zs q => by
 obtain ⟨v, rfl, z⟩ := zg5 zs;obtain ⟨a, vs, rfl, hs, z⟩ := r.lst z hx;have hl : L.length = vs.length := by have := zb1 z; simpa using this
 refine ⟨a, vs, L.map key, m, rfl, .inl hs, ?_, nd, ?_, fun k hk => ?_, fun i v hv hb => ?_⟩
 ·refine za09 ?_;refine zo8 (zt0 z) fun x hx v hv => ?_;have hv : Rq X.K F v (g x) := hv;rw [hg x hx] at hv;obtain ⟨b, ws, rfl, hb, pw⟩ := Rq.zg3 hv;obtain rfl := zR0 pw;exact ⟨b, rfl, r.sub.zr7 hb⟩
 ·rw [ay4]; exact List.length_pos_iff.mpr h0
 ·obtain ⟨a, ha, rfl⟩ := cy4.mp hk;exact hm a ha
 ·obtain ⟨d, hd, zd⟩ := ze2 z hv;rw [by3] at hd;obtain ⟨a', ha', rfl⟩ := gy4.mp hd;have hil : i < L.length := (ay3.mp ha').1;have e : ∀ k (hk : k < L.length), (L.map key).getD k [] = key L[k] := fun k hk => by simp [ly8, hk]
  refine q.same r (.dd zd) (h a' (cy5 ha') fun b hb' hne => ?_);obtain ⟨j, hj, rfl⟩ := wy0.mp hb';have ea : L[i] = a' := (ay3.mp ha').2;have hji : j ≠ i := fun z => hne (by subst z; rw [ea]);have := hb j (by rw [ay4]; exact hj) hji;rw [e i hil, e j hj, ea] at this;exact this
end
theorem za95 {P : cy8} {w : World} {es : List my5} {vs : List (Key × Value)} (h : Pairs (zb5 P w) es vs) : es.length = vs.length /\ ∀ (i : Nat) q, vs[i]? = some q -> ∃ en, es[i]? = some en /\ zJ1 q.1 en.key = true /\ en.val = q.2 := by
 induction h with
 | nil => exact ⟨rfl, fun i q h => by simp at h⟩
 | @cons e kv es kvs h1 h2 h3 ih =>
  refine ⟨by simp [ih.1], fun i q hq => ?_⟩;cases i with
  | zero => simp at hq; subst hq; exact ⟨e, rfl, h1, h2⟩
  | succ i => exact ih.2 i q (by simpa using hq)
theorem zc3 {P : cy8} {w : World} {H : Hp} {h : Heap} {d : Addr} {o : Obj} {vs : List (Key × V)} (x : zb6 P w H h d (.frz o (.dK vs))) : h.get? d = some o /\ (d == ly9) = false /\ ∃ es ep, o.ExactDict /\ o.data = .dict es ep /\ es.size = vs.length /\ ∀ (i : Nat) p, vs[i]? = some p -> ∃ en, es[i]? = some en /\ RelV (kV p.1) en.key /\ RelV p.2 en.val := by
 obtain ⟨hg, _, hs, qs, kv, o', es, ep, h1, h2, h3, h4, h5, h6⟩ := x;rw [hg] at h1;cases h1;obtain ⟨g1, g2⟩ := za95 h5
 have hl : es.size = vs.length := by
  have := kv.length;rw [<- iy4, g1];exact this.symm
 refine ⟨hg, hs, es, ep, h2, h3, hl, fun i p hp => ?_⟩;obtain ⟨q, hq, e1, e2⟩ := zh3 kv hp;obtain ⟨en, a1, a2, a3⟩ := g2 i q hq;refine ⟨en, by rw [<- jy6]; exact a1, ?_, by rw [a3]; exact e2⟩;rw [e1];rcases zd0 a2 with ⟨j, t, hj, hk⟩ | ⟨y, t, hy, hk⟩
 ·rw [hj, hk]; exact ⟨t, rfl⟩
 ·rw [hy, hk]; exact ⟨t, rfl⟩
section
variable {X : Cx} {tg : Expr}
theorem Inv.frzK {pins : List (Addr × Obj)} {σ : St} {H : Hp} {s : Shared} {d : Addr} {kvs : List (Key × V)} (I : Inv X pins σ H s) (e : H d = some (.dK kvs)) : ∃ o, Inv X pins σ (upd H d (.frz o (.dK kvs))) s := by
 obtain ⟨z, hs, vs, kv, o, es, ep, h1, h2⟩ := I.hok d _ e;refine ⟨o, ?_⟩
 have ht : ∀ b ys, H b = some (.tup ys) -> upd H d (.frz o (.dK kvs)) b = some (.tup ys) := fun b ys hb => by
  rw [za5 (zJ3 hb e (by simp))]; exact hb
 refine I.write (x := d) (e := d) (h' := s.heap) (t' := s.toks) (o := .frz o (.dK kvs)) (by rw [e]; trivial) (.inl rfl) (fun _ _ _ q => q) ⟨o, h1⟩ ⟨h1, ?_⟩;exact zb6.zR6 (I.hok d _ e) (fun _ _ _ q => q) (fun b hb => by rw [za5 (zJ3 hb e (by simp))]; exact hb) ht
theorem zd01 {e : Expr} {t : TE} (h : PE X e t) : PE X e fun σ H Q => ∃ d kvs, H d = some (.dK kvs) /\ ∀ o, t σ (upd H d (.frz o (.dK kvs))) fun v H' => ∃ kvs', H' d = some (.frz o (.dK kvs')) /\ Q v (upd H' d (.dK kvs')) := by
 intro pins s σ H Q I ⟨d, kvs, hd, q⟩;obtain ⟨o, I1⟩ := I.frzK hd
 have h0 : ∀ o' u', X.H₀ d ≠ some (.frz o' u') := fun o' u' z => by
  have := I.base.frzs d o' u' z;rw [hd] at this;cases this
 refine thn (h pins s σ _ _ I1 (q o)) fun v s1 zR => ?_;obtain ⟨y, H1, I2, r, kvs', e1, q1⟩ := zR;exact ⟨y, _, I2.zV4 e1 h0, r, q1⟩
theorem zd02 {st : Stmt} {t : TS} (h : PS X st t) : PS X st fun E σ H => ∃ d kvs, H d = some (.dK kvs) /\ ∀ o, t ⟨fun σ' H' => ∃ kvs', H' d = some (.frz o (.dK kvs')) /\ E.nx σ' (upd H' d (.dK kvs')), fun v H' => ∃ kvs', H' d = some (.frz o (.dK kvs')) /\ E.rt v (upd H' d (.dK kvs')), fun σ' H' => ∃ kvs', H' d = some (.frz o (.dK kvs')) /\ E.bk σ' (upd H' d (.dK kvs')), fun σ' H' => ∃ kvs', H' d = some (.frz o (.dK kvs')) /\ E.ct σ' (upd H' d (.dK kvs'))⟩ σ (upd H d (.frz o (.dK kvs))) := by
 intro pins s σ H E I ⟨d, kvs, hd, q⟩;obtain ⟨o, I1⟩ := I.frzK hd
 have h0 : ∀ o' u', X.H₀ d ≠ some (.frz o' u') := fun o' u' z => by
  have := I.base.frzs d o' u' z;rw [hd] at this;cases this
 refine thn (h pins s σ _ _ I1 (q o)) fun f s1 hf => ?_;cases f with
 | next => obtain ⟨σ', H', I2, kvs', e1, q1⟩ := hf; exact ⟨σ', _, I2.zV4 e1 h0, q1⟩
 | brk => obtain ⟨σ', H', I2, kvs', e1, q1⟩ := hf; exact ⟨σ', _, I2.zV4 e1 h0, q1⟩
 | cont => obtain ⟨σ', H', I2, kvs', e1, q1⟩ := hf; exact ⟨σ', _, I2.zV4 e1 h0, q1⟩
 | ret u => obtain ⟨v, σ', H', I2, r, kvs', e1, q1⟩ := hf; exact ⟨v, σ', _, I2.zV4 e1 h0, r, q1⟩
end
section
variable {X : Bc} {n : Nat} {S : Sl} {W : Wl} {k : KB} {D : DB}
theorem za96 {e : Expr} {j : Nat} {kvs : List (Key × El)} (hj : W[j]? = some (.dK kvs)) (h : ∀ o, BE X S (W.set j (.fK o kvs)) e fun y W1 => W1[j]? = some (.fK o kvs) /\ k y (W1.set j (.dK kvs))) : BE X S W e k :=
 .of (zd01 zh8) fun F A σ H Q x0 r sr q => by
  have hlW : j < W.length := (ay3.mp hj).1;have hlA : j < A.length := by rw [r.len]; exact hlW
  have hjA : A[j]? = some A[j] := by simp [hlA]
  obtain ⟨ho, eH, vs, rfl, p⟩ := r.obj j _ _ hjA hj;refine ⟨A[j], vs, eH, fun o => ?_⟩;have r2 : RW X.K F A (W.set j (.fK o kvs)) (upd H A[j] (.frz o (.dK vs))) := r.put hjA ⟨vs, rfl, p⟩;refine (h o).use x0 r2 sr fun F2 A2 W2 H2 y v x2 r3 z3 zR => ?_;obtain ⟨hw, hk⟩ := zR;have hjA2 : A2[j]? = some A[j] := zu5 x2.pre hjA;obtain ⟨h', e', vs', rfl, p'⟩ := r3.obj j _ _ hjA2 hw;exact ⟨vs', e', q F2 A2 _ _ y v x2 (r3.put (o := .dK kvs) hjA2 ⟨vs', rfl, p'⟩) z3 hk⟩
theorem za97 {st : Stmt} {j mb : Nat} {kvs : List (Key × El)} (hj : W[j]? = some (.dK kvs)) (hnm : n <= mb) (hn' : j < mb) (hmW : mb <= W.length) (h : ∀ o, BS X mb S (W.set j (.fK o kvs)) st ⟨fun S1 W1 => W1[j]? = some (.fK o kvs) /\ D.nx S1 (W1.set j (.dK kvs)), fun y W1 => W1[j]? = some (.fK o kvs) /\ D.rt y (W1.set j (.dK kvs)), fun S1 W1 => W1[j]? = some (.fK o kvs) /\ D.bk S1 (W1.set j (.dK kvs)), fun S1 W1 => W1[j]? = some (.fK o kvs) /\ D.ct S1 (W1.set j (.dK kvs))⟩) : BS X n S W st D :=
 .of (zd02 ps_U) fun F A σ H E hn x0 r sr q => by
  have hlW : j < W.length := (ay3.mp hj).1;have hlA : j < A.length := by rw [r.len]; exact hlW
  have hmA : mb <= A.length := by rw [r.len]; exact hmW
  have hjA : A[j]? = some A[j] := by simp [hlA]
  obtain ⟨ho, eH, vs, rfl, p⟩ := r.obj j _ _ hjA hj;refine ⟨A[j], vs, eH, fun o => ?_⟩;have r2 : RW X.K F A (W.set j (.fK o kvs)) (upd H A[j] (.frz o (.dK vs))) := r.put hjA ⟨vs, rfl, p⟩
  have at_ : ∀ {F2 A2}, Ex1 mb F A F2 A2 -> A2[j]? = some A[j] := fun {F2 A2} x => by
   have e := zm1 x.pre hmA;have := congrArg (fun l => l[j]?) e;simp only [gy2 hn'] at this;rw [this]; exact hjA
  have back : ∀ {F2 A2 W2 H2}, Ex1 mb F A F2 A2 -> RW X.K F2 A2 W2 H2 -> W2[j]? = some (.fK o kvs) -> ∃ vs', H2 A[j] = some (.frz o (.dK vs')) /\ RW X.K F2 A2 (W2.set j (.dK kvs)) (upd H2 A[j] (.dK vs')) := fun {F2 A2 W2 H2} x r3 hw => by
   obtain ⟨h', e', vs', rfl, p'⟩ := r3.obj j _ _ (at_ x) hw;exact ⟨vs', e', r3.put (o := .dK kvs) (at_ x) ⟨vs', rfl, p'⟩⟩
  refine (h o).use hmA (x0.up hnm) r2 sr ⟨fun F2 A2 W2 H2 S2 σ2 x r3 sr3 ⟨hw, hk⟩ => ?_, fun F2 A2 W2 H2 S2 σ2 x r3 sr3 ⟨hw, hk⟩ => ?_, fun F2 A2 W2 H2 S2 σ2 x r3 sr3 ⟨hw, hk⟩ => ?_, fun F2 A2 W2 H2 e v x r3 z3 ⟨hw, hk⟩ => ?_⟩
  ·obtain ⟨vs', e', r4⟩ := back x r3 hw;exact ⟨vs', e', q.nx _ _ _ _ _ _ (x.le hnm) r4 sr3 hk⟩
  ·obtain ⟨vs', e', r4⟩ := back x r3 hw;exact ⟨vs', e', q.bk _ _ _ _ _ _ (x.le hnm) r4 sr3 hk⟩
  ·obtain ⟨vs', e', r4⟩ := back x r3 hw;exact ⟨vs', e', q.ct _ _ _ _ _ _ (x.le hnm) r4 sr3 hk⟩
  ·obtain ⟨vs', e', r4⟩ := back x r3 hw;exact ⟨vs', e', q.rt _ _ _ _ _ _ (x.le hnm) r4 z3 hk⟩
end
def ItKK (d : Addr) (o : Obj) : It := ⟨fun i H => ∃ vs, H d = some (.frz o (.dK vs)) /\ i < vs.length, fun i H x H' => H' = H /\ ∀ vs, H d = some (.frz o (.dK vs)) -> ∃ p, vs[i]? = some p /\ x = kV p.1, fun i H => ∃ vs, H d = some (.frz o (.dK vs)) /\ vs.length <= i⟩
def ItVK (d : Addr) (o : Obj) : It := ⟨fun i H => ∃ vs, H d = some (.frz o (.dK vs)) /\ i < vs.length, fun i H x H' => H' = H /\ ∀ vs, H d = some (.frz o (.dK vs)) -> ∃ p, vs[i]? = some p /\ x = p.2, fun i H => ∃ vs, H d = some (.frz o (.dK vs)) /\ vs.length <= i⟩
theorem zW9 {P : cy8} {w : World} {K : ay5} {tg : Expr} {d : Addr} {o : Obj} {es : Array my5} {ep : Nat} (it : Addr) (hd : o.data = .dict es ep) :
  Turn P w K tg (ItKK d o) [it] it (fun i h => h.IsKeyIter it d i es.size ep) where
 mem := by simp
 obj := fun i h st b hb => by
  have e : b = it := by simpa using hb
  subst e;obtain ⟨o, e, c, d⟩ := st;exact ⟨o, e, fun v z => by rw [d] at z; cases z⟩
 keep := fun i h h' st k => by
  obtain ⟨o, e, r⟩ := st;exact ⟨o, k it (by simp) o e, r⟩
 item := by
  intro X hP hw hK hcm i pins s σ H E I hf st hg;subst hP hw hK;obtain ⟨f0, f1, f2, f3, f4, f5⟩ := hf it (by simp);obtain ⟨vs, hu, hi⟩ := hg;obtain ⟨hget, hs, es', ep', g1, g2, g3, g4⟩ := zc3 (show zb6 X.prog X.w H s.heap d (.frz o (.dK vs)) from I.hok d _ hu);rw [hd] at g2;cases g2;obtain ⟨en, hen, rk, rv⟩ := g4 i vs[i] (by5 hi);refine zP4 st ⟨o, hget, g1, hd⟩ hen fun h' hit' hs' => ?_;have I1 : Inv X pins σ H { s with heap := h' } := I.turned (t' := s.toks) (fun b o hb e => hs'.extBut b o hb e) f0 f1 f3 f4 f5;obtain ⟨o', e, c, dd⟩ := id hit'
  exact ⟨_, rfl, zJ4 (s := { s with heap := h' }) e c dd (by decide) ⟨kV vs[i].1, H, I1, rk, ⟨rfl, fun vs' hv' => by
   rw [hu] at hv';cases hv'
   exact ⟨_, by5 hi, rfl⟩⟩, hit', fun b hb => (hf b hb).1⟩⟩
 done := by
  intro X hP hw hK hcm i pins s σ H E I hf st hg;subst hP hw hK;obtain ⟨f0, f1, f2, f3, f4, f5⟩ := hf it (by simp);obtain ⟨vs, hu, hi⟩ := hg;obtain ⟨hget, hs, es', ep', g1, g2, g3, g4⟩ := zc3 (show zb6 X.prog X.w H s.heap d (.frz o (.dK vs)) from I.hok d _ hu);rw [hd] at g2;cases g2;exact za48 (I.ok.hd hcm) st ⟨o, hget, g1, hd⟩ (by omega) fun h' eb => ⟨rfl, I.turned (t' := s.toks) (fun b o hb e => eb b o hb e) f0 f1 f3 f4 f5⟩
 self := fun _ _ _ _ _ st h => wpAny_pyIter_keyiter st h
theorem zX0 {P : cy8} {w : World} {K : ay5} {tg : Expr} {d : Addr} {o : Obj} {es : Array my5} {ep : Nat} (it : Addr) (hd : o.data = .dict es ep) :
  Turn P w K tg (ItVK d o) [it] it (fun i h => h.IsValIter it d i es.size ep) where
 mem := by simp
 obj := fun i h st b hb => by
  have e : b = it := by simpa using hb
  subst e;obtain ⟨o, e, c, d⟩ := st;exact ⟨o, e, fun v z => by rw [d] at z; cases z⟩
 keep := fun i h h' st k => by
  obtain ⟨o, e, r⟩ := st;exact ⟨o, k it (by simp) o e, r⟩
 item := by
  intro X hP hw hK hcm i pins s σ H E I hf st hg;subst hP hw hK;obtain ⟨f0, f1, f2, f3, f4, f5⟩ := hf it (by simp);obtain ⟨vs, hu, hi⟩ := hg;obtain ⟨hget, hs, es', ep', g1, g2, g3, g4⟩ := zc3 (show zb6 X.prog X.w H s.heap d (.frz o (.dK vs)) from I.hok d _ hu);rw [hd] at g2;cases g2;obtain ⟨en, hen, rk, rv⟩ := g4 i vs[i] (by5 hi);refine zC3 st ⟨o, hget, g1, hd⟩ hen fun h' hit' hs' => ?_;have I1 : Inv X pins σ H { s with heap := h' } := I.turned (t' := s.toks) (fun b o hb e => hs'.extBut b o hb e) f0 f1 f3 f4 f5;obtain ⟨o', e, c, dd⟩ := id hit'
  exact ⟨_, rfl, zJ4 (s := { s with heap := h' }) e c dd (by decide) ⟨vs[i].2, H, I1, rv, ⟨rfl, fun vs' hv' => by
   rw [hu] at hv';cases hv'
   exact ⟨_, by5 hi, rfl⟩⟩, hit', fun b hb => (hf b hb).1⟩⟩
 done := by
  intro X hP hw hK hcm i pins s σ H E I hf st hg;subst hP hw hK;obtain ⟨f0, f1, f2, f3, f4, f5⟩ := hf it (by simp);obtain ⟨vs, hu, hi⟩ := hg;obtain ⟨hget, hs, es', ep', g1, g2, g3, g4⟩ := zc3 (show zb6 X.prog X.w H s.heap d (.frz o (.dK vs)) from I.hok d _ hu);rw [hd] at g2;cases g2;exact zL8 (I.ok.hd hcm) st ⟨o, hget, g1, hd⟩ (by omega) fun h' eb => ⟨rfl, I.turned (t' := s.toks) (fun b o hb e => eb b o hb e) f0 f1 f3 f4 f5⟩
 self := fun _ _ _ _ _ st h => wpAny_pyIter_valiter st h
section
variable {X : Cx} {tg : Expr}
theorem zb86 {l : Expr} {tl : TE} (hl : PE X l tl) : PI X tg l (fun σ H R => tl σ H fun v H1 => ∃ d o vs, v = .ref d /\ H1 d = some (.frz o (.dK vs)) /\ R (ItKK d o) H1) := by
 intro pins s σ H R I h;refine thn (hl pins s σ H _ I h) fun v s1 zR => ?_;obtain ⟨y, H1, I1, r1, d, o, vs, hy, hd, q⟩ := zR;subst hy;cases r1;obtain ⟨hget, hs, es, ep, g1, g2, _⟩ := zc3 (show zb6 X.prog X.w H1 s1.heap d (.frz o (.dK vs)) from I1.hok d _ hd);refine zP5 hs ⟨o, hget, g1, g2⟩ ?_;refine ⟨s1.heap.objs.size, [s1.heap.objs.size], _, _, H1, rfl, I1.kept (t' := s1.toks) fun b o e => ay1 _ e, zW9 _ g2, ⟨_, ay7 _ rfl, rfl, rfl⟩, fun b hb => ?_, q⟩;have e : b = s1.heap.objs.size := by simpa using hb
 subst e;exact I1.zY5 (ay6 _) (I1.hok.fresh (ay6 _))
theorem zR1 {o : Expr} {to : TE} {apos cpos : Pos} (ho : PE X o to) (hbase : oy9 o "values" X.env (eval o X.env) = eval o X.env := by rfl) (hline : (apos.endLine == cpos.line) = true := by rfl) :
  PE X (.Call (.Attribute o "values" apos) [] [] cpos) (fun σ H Q => to σ H fun x H1 => ∃ d ob vs, x = .ref d /\ H1 d = some (.frz ob (.dK vs)) /\ ∀ v, H1 v = none -> Q (.ref v) (upd H1 v (zi7 v d))) := by
 intro pins s σ H Q I h;refine wpAny_Call_method0_late hbase hline (thn (ho pins s σ H _ I h) fun v s1 ⟨x, H1, I1, r1, d, ob, vs, hx, hd, q⟩ => ?_);subst hx;cases r1;obtain ⟨hget, hs, es, ep, g1, g2, _⟩ := zc3 (show zb6 X.prog X.w H1 s1.heap d (.frz ob (.dK vs)) from I1.hok d _ hd);have ty : s1.TypeIs (.ref d) "dict" := ⟨ob, hget, g1.1⟩
 refine ⟨"dict", "dict.values", iy6, sy9, PySem.F.type_dict_values, ty, fun a e => by cases e; exact ⟨ob, hget, g1.2.1⟩, uy1 rfl (PySem.evalArgs_none ?_)⟩;refine dy3 sy9 ty PySem.F.entry_dict_values ?_ (PySem.F.args_dict_values_1 _);refine ay0 ?_;unfold Builtin.Dict.noArgs;refine ay0 (ny7 ty ?_);show wpAny _ _ (pure d) _ _ s1;refine ay2 ?_;show wpAny _ _ (jy8 d >>= _) _ _ s1;unfold Builtin.Dict.showsAll;rw [if_neg (by rw [hs]; exact by9)];refine ay0 (ay2 (ay0 (dy8 (ay2 ⟨_, rfl, ?_⟩))));refine ⟨.ref s1.heap.objs.size, _, I1.laid (t' := s1.toks) (o := zi7 s1.heap.objs.size d) (fun b u q => ay1 _ q) (ay6 _) ?_, rfl, q _ (I1.hok.fresh (ay6 _))⟩;exact ⟨⟨_, ay7 _ rfl, rfl, rfl⟩, ⟨_, ay7 _ rfl⟩, fun h1 h2 ⟨o, a, b, c⟩ k => ⟨o, k o a, b, c⟩⟩
theorem zb87 {l : Expr} {tl : TE} (hl : PE X l tl) : PI X tg l (fun σ H R => tl σ H fun v H1 => ∃ vw d o vs, v = .ref vw /\ H1 vw = some (zi7 vw d) /\ H1 d = some (.frz o (.dK vs)) /\ R (ItVK d o) H1) := by
 intro pins s σ H R I h;refine thn (hl pins s σ H _ I h) fun v s1 zR => ?_;obtain ⟨y, H1, I1, r1, vw, d, o, vs, hy, hv, hd, q⟩ := zR;subst hy;cases r1;obtain ⟨hvw, _, _⟩ := (show zb6 X.prog X.w H1 s1.heap vw (zi7 vw d) from I1.hok vw _ hv)
 obtain ⟨hget, hs, es, ep, g1, g2, _⟩ := zc3 (show zb6 X.prog X.w H1 s1.heap d (.frz o (.dK vs)) from I1.hok d _ hd);refine zC4 hvw ⟨o, hget, g1, g2⟩ ?_;refine ⟨s1.heap.objs.size, [s1.heap.objs.size], _, _, H1, rfl, I1.kept (t' := s1.toks) fun b o e => ay1 _ e, zX0 _ g2, ⟨_, ay7 _ rfl, rfl, rfl⟩, fun b hb => ?_, q⟩;have e : b = s1.heap.objs.size := by simpa using hb
 subst e;exact I1.zY5 (ay6 _) (I1.hok.fresh (ay6 _))
end
section
variable {X : Bc} {S : Sl} {W : Wl} {k : KB}
theorem zf00 {tg iter : Expr} {ki : Nat -> (Wl -> Prop) -> List PyData -> Wl -> Prop} (h : BE X S W iter fun y W1 => ∃ (j : Nat) (o : Obj) (L : List (Str × El)), y = .o j /\ W1[j]? = some (.fK o (L.map fun p => (.inr p.1, p.2))) /\ ki (j + 1) (fun W' => W'[j]? = some (.fK o (L.map fun p => (.inr p.1, p.2)))) (L.map fun p => .str p.1) W1) : BI X S W tg iter ki := fun F A σ H R x0 r sr q =>
 ⟨_, zb86 zh8, h.use x0 r sr fun F1 A1 W1 H1 y vy e1 r1 z1 zR => by
  obtain ⟨j, o, L, hy, hj, h1⟩ := zR;subst hy;obtain ⟨a, ha, rfl⟩ := z1;have hja : j < A1.length := (ay3.mp ha).1
  have ha' : ∀ {F' A'}, Ex1 (j + 1) F1 A1 F' A' -> A'[j]? = some a := fun {F' A'} x => by
   have e := zm1 x.pre (by omega);have := congrArg (fun l => l[j]?) e;simp only [gy2 (my3 j)] at this;rw [this]; exact ha
  obtain ⟨u0, e0, vs0, rfl, p0⟩ := r1.obj j a _ ha hj
  have key : ∀ {F' A' W' H'}, Ex1 (j + 1) F1 A1 F' A' -> RW X.K F' A' W' H' -> W'[j]? = some (.fK o (L.map fun p => (.inr p.1, p.2))) -> ∃ vs, H' a = some (.frz o (.dK vs)) /\ Paired (fun p q => p.1 = q.1 /\ ElR X.K F' A' p.2 q.2) (L.map fun p => (.inr p.1, p.2)) vs := fun x r' hG => by
   obtain ⟨u, e, vs, rfl, p⟩ := r'.obj j a _ (ha' x) hG;exact ⟨vs, e, p⟩
  refine ⟨a, o, vs0, rfl, e0, q (j + 1) _ F1 A1 W1 _ _ _ e1 r1 hja ⟨fun i F' A' W' H' hi x r' hG => ?_, fun i F' A' W' H' y H'' hi x r' hG hy => ?_, fun F' A' W' H' x r' hG => ?_⟩ h1⟩
  ·obtain ⟨vs, e, p⟩ := key x r' hG;refine ⟨vs, e, ?_⟩;have := zb1 p;rw [ay4] at this hi;omega
  ·obtain ⟨vs, e, p⟩ := key x r' hG;obtain ⟨e', hy⟩ := hy;obtain ⟨pp, hp, rfl⟩ := hy vs e;obtain ⟨b, hb, zb⟩ := ze2 p hp;rw [by3] at hb;obtain ⟨l, hl, rfl⟩ := gy4.mp hb;refine ⟨e', .str l.1, by rw [by3, hl]; rfl, ?_⟩;rw [<- zb.1];exact Rq.str l.1
  ·obtain ⟨vs, e, p⟩ := key x r' hG;refine ⟨vs, e, ?_⟩;have := zb1 p;rw [ay4] at this ⊢
   omega⟩
structure ze09 (K : ay5) (m : Nat) (F1 : Hp) (A1 : List Addr) (G : Wl -> Prop) (J : It) (es : List El) : Prop where
 go : ∀ i F' A' W' H', i < es.length -> Ex1 m F1 A1 F' A' -> RW K F' A' W' H' -> G W' -> J.go i H'
 yld : ∀ i F' A' W' H' x H'', i < es.length -> Ex1 m F1 A1 F' A' -> RW K F' A' W' H' -> G W' -> J.yld i H' x H'' -> H'' = H' /\ ∃ e, es[i]? = some e /\ ElR K F' A' e x
 stop : ∀ F' A' W' H', Ex1 m F1 A1 F' A' -> RW K F' A' W' H' -> G W' -> J.stop es.length H'
def BIE (X : Bc) (S : Sl) (W : Wl) (tg iter : Expr) (k : Nat -> (Wl -> Prop) -> List El -> Wl -> Prop) : Prop := ∀ F A σ H (R : It -> Hp -> Prop), X.Am F A -> RW X.K F A W H -> SR X.K F A S σ ->
 (∀ m G F1 A1 W1 H1 es J, Ext F A F1 A1 -> RW X.K F1 A1 W1 H1 -> m <= A1.length -> ze09 X.K m F1 A1 G J es -> k m G es W1 -> R J H1) -> tUI X tg iter σ H R
theorem zb88 {tg o : Expr} {apos cpos : Pos} {ki : Nat -> (Wl -> Prop) -> List El -> Wl -> Prop} (h : BE X S W o fun y W1 => ∃ (j : Nat) (ob : Obj) (L : List (Key × El)), y = .o j /\ W1[j]? = some (.fK ob L) /\ ki (j + 1) (fun W' => W'[j]? = some (.fK ob L)) (L.map (·.2)) W1)
  (hbase : oy9 o "values" X.env (eval o X.env) = eval o X.env := by rfl) (hline : (apos.endLine == cpos.line) = true := by rfl) : BIE X S W tg (.Call (.Attribute o "values" apos) [] [] cpos) ki := fun F A σ H R x0 r sr q =>
 ⟨_, zb87 (zR1 zh8 hbase hline), h.use x0 r sr fun F1 A1 W1 H1 y vy e1 r1 z1 zR => by
  obtain ⟨j, ob, L, hy, hj, h1⟩ := zR;subst hy;obtain ⟨a, ha, rfl⟩ := z1;have hja : j < A1.length := (ay3.mp ha).1
  have ha' : ∀ {F' A'}, Ex1 (j + 1) F1 A1 F' A' -> A'[j]? = some a := fun {F' A'} x => by
   have e := zm1 x.pre (by omega);have := congrArg (fun l => l[j]?) e;simp only [gy2 (my3 j)] at this;rw [this]; exact ha
  obtain ⟨u0, e0, vs0, rfl, p0⟩ := r1.obj j a _ ha hj;refine ⟨a, ob, vs0, rfl, e0, fun v hv => ⟨v, a, ob, vs0, rfl, zb3, by rw [za5 (za3 e0 hv)]; exact e0, ?_⟩⟩;have r2 : RW X.K F1 A1 W1 (upd H1 v (zi7 v a)) := r1.grown (zj2 hv)
  have key : ∀ {F' A' W' H'}, Ex1 (j + 1) F1 A1 F' A' -> RW X.K F' A' W' H' -> W'[j]? = some (.fK ob L) -> ∃ vs, H' a = some (.frz ob (.dK vs)) /\ Paired (fun p q => p.1 = q.1 /\ ElR X.K F' A' p.2 q.2) L vs := fun x r' hG => by
   obtain ⟨u, e, vs, rfl, p⟩ := r'.obj j a _ (ha' x) hG;exact ⟨vs, e, p⟩
  refine q (j + 1) _ F1 A1 W1 _ _ _ e1 r2 hja ⟨fun i F' A' W' H' hi x r' hG => ?_, fun i F' A' W' H' y H'' hi x r' hG hy => ?_, fun F' A' W' H' x r' hG => ?_⟩ h1
  ·obtain ⟨vs, e, p⟩ := key x r' hG;refine ⟨vs, e, ?_⟩;have := zb1 p;rw [ay4] at hi;omega
  ·obtain ⟨vs, e, p⟩ := key x r' hG;obtain ⟨e', hy⟩ := hy;obtain ⟨pp, hp, rfl⟩ := hy vs e;obtain ⟨b, hb, zb⟩ := ze2 p hp;exact ⟨e', b.2, by rw [by3, hb]; rfl, zb.2⟩
  ·obtain ⟨vs, e, p⟩ := key x r' hG;refine ⟨vs, e, ?_⟩;have := zb1 p;rw [ay4]
   omega⟩
end
section
variable {P : cy8} {w : World} {A : Around} {s : Shared} {I d : Addr} {es : Array my5} {ep : Nat} {h0 : Heap} {bs : List Bool} {R : Result -> Shared -> Prop}
theorem zb89 (hh : A.handled = none) (hI : h0.get? I = none) (hd : zH6 h0 d es ep) (hb : bs.length = es.size)
  (hc : ∀ (h' : Heap) (tk i : Nat) (en : my5) (b : Bool) (Q : Bool -> Shared -> Prop) (E : Value -> Shared -> Prop), (∀ b o, h0.get? b = some o -> h'.get? b = some o) -> es[i]? = some en -> bs[i]? = some b -> (∀ tk', Q b { s with heap := h', toks := tk' }) -> wpAny (model P w) A.in1 (truthy en.val) Q E { s with heap := h', toks := tk })
  (hR : ∀ (h' : Heap) (tk : Nat), (∀ b o, h0.get? b = some o -> h'.get? b = some o) -> R (.ok (.ret (.bool (bs.any id)))) { s with heap := h', toks := tk }) :
  ∀ (k i : Nat) (h : Heap) (tk : Nat), i + k = es.size -> (bs.take i).any id = false -> h.IsValIter I d i es.size ep -> (∀ b o, h0.get? b = some o -> h.get? b = some o) ->
   ly4 (model P w) A (.builtin "any.loop" ⟨[.ref I], []⟩) R { s with heap := h, toks := tk } := by
 have n0I : ∀ b o, h0.get? b = some o -> b ≠ I := fun b o e z => by rw [z, hI] at e; cases e
 intro k
 induction k with
 | zero =>
  intro i h tk hk hb0 hit hkeep;refine hy1 PySem.F.entry_any_loop ?_;rw [fy1 uy2 _];unfold Builtin.«any.loop»;refine ay0 (zL8 (s := { s with heap := h, toks := tk }) (A := A.in1) hh hit (hd.move (hkeep d)) (by omega) fun h' he => ?_);refine ay0 (my9 (ay2 ?_));have e : bs.any id = false := by rw [<- hb0, my7 (by omega)]
  have := hR h' tk fun b o z => he b o (n0I b o z) (hkeep b o z);rw [e] at this;exact this
 | succ k ih =>
  intro i h tk hk hb0 hit hkeep;have hlt : i < es.size := by omega
  refine hy1 PySem.F.entry_any_loop ?_;rw [fy1 uy2 _];unfold Builtin.«any.loop»;refine ay0 (zC3 (s := { s with heap := h, toks := tk }) (A := A.in1) hit (hd.move (hkeep d)) (ry3 hlt) fun h' hit' sb => ?_);have keep' : ∀ b o, h0.get? b = some o -> h'.get? b = some o := fun b o e => sb.extBut b o (n0I b o e) (hkeep b o e);have hbi : bs[i]? = some bs[i] := by5 (by omega);refine ay0 (ey5 (hc h' tk i _ bs[i] _ _ keep' (ry3 hlt) hbi fun tk' => ?_));refine ay0 (wpAny_letGo ?_);cases e : bs[i] with
  | true =>
   rw [if_pos rfl];refine ay0 (my9 (ay2 ?_));have e' : bs.any id = true := wy6.mpr ⟨bs[i], qy4 _, e⟩;have := hR h' tk' keep';rw [e'] at this;exact this
  | false =>
   rw [if_neg (by simp)];refine ay2 ⟨iy5 uy2 _, ih (i + 1) h' tk' (by omega) ?_ hit' keep'⟩;rw [ey8, hbi, List.any_append, hb0, e];rfl
theorem zD2 {v : Addr} {Q : Value -> Shared -> Prop} {E : Value -> Shared -> Prop} (hh : A.handled = none) (hv : s.heap.IsValuesView v d) (hd : zH6 s.heap d es ep) (hb : bs.length = es.size)
  (hc : ∀ (h' : Heap) (tk i : Nat) (en : my5) (b : Bool) (Q : Bool -> Shared -> Prop) (E : Value -> Shared -> Prop), (∀ b o, s.heap.get? b = some o -> h'.get? b = some o) -> es[i]? = some en -> bs[i]? = some b -> (∀ tk', Q b { s with heap := h', toks := tk' }) -> wpAny (model P w) A.in1 (truthy en.val) Q E { s with heap := h', toks := tk })
  (hQ : ∀ (h' : Heap) (tk : Nat), (∀ b o, s.heap.get? b = some o -> h'.get? b = some o) -> Q (.bool (bs.any id)) { s with heap := h', toks := tk }) : wpAny (model P w) A (call (.builtin "any") [.ref v]) Q E s := by
 refine call_function_tree PySem.F.kind_any PySem.F.plain_any PySem.F.entry_any (PySem.F.args_any1 (cy7 v)) ?_;show wpAny _ _ (pure (cy7 v) >>= _) _ _ s;refine ay0 (ay2 (ay0 (zC4 hv hd ?_)))
 have hnone : ∀ b, s.heap.objs.size <= b -> s.heap.get? b = none := fun b hb => by
  cases e : s.heap.get? b with
  | none => rfl
  | some o => exact absurd (by1 e) (Nat.not_lt.mpr hb)
 refine ay2 ⟨iy5 uy2 _, ?_⟩;exact zb89 (s := s) (h0 := s.heap) hh (hnone _ (ay6 _)) hd hb hc (fun h' tk hk => hQ h' tk hk) es.size 0 _ s.toks (by omega) rfl ⟨_, ay7 _ rfl, rfl, rfl⟩ fun b o e => ay1 _ e
end
section
variable {X : Cx}
theorem za98 (hcm : X.calm = true) : zj0 X (.builtin "any") fun xs H Q => ∃ (v d : Addr) (o : Obj) (vs : List (Key × V)) (bs : List Bool), xs = [.ref v] /\ H v = some (zi7 v d) /\ H d = some (.frz o (.dK vs)) /\ Paired (fun (p : Key × V) (b : Bool) => ∃ a xs, p.2 = .ref a /\ SqL X.K H a xs /\ b = !xs.isEmpty) vs bs /\ Q (.bl (bs.any id)) H := by
 intro pins s σ H xs us Q I r h;obtain ⟨v, d, o, vs, bs, rfl, hv, hd, hp, q⟩ := h;obtain ⟨u, rfl, rx⟩ := vals1 r;cases rx;obtain ⟨hvw, _, _⟩ := (show zb6 X.prog X.w H s.heap v (zi7 v d) from I.hok v _ hv)
 obtain ⟨hget, hs, es, ep, g1, g2, g3, g4⟩ := zc3 (show zb6 X.prog X.w H s.heap d (.frz o (.dK vs)) from I.hok d _ hd);have hl63 := zu0;have hsl : by2 = 16777216 := my8;refine zD2 (I.ok.hd hcm) hvw ⟨o, hget, g1, g2⟩ (by rw [g3]; exact (zb1 hp).symm) (fun h' tk i en b Q' E' kp hen hb hQ => ?_) fun h' tk kp => ⟨.bl (bs.any id), H, I.kept kp, rfl, q⟩
 obtain ⟨p, hpi, a, xs, e1, hx, e2⟩ := ze2 hp hb;obtain ⟨en', hen', rk, rv⟩ := g4 i p hpi;rw [hen] at hen';cases hen';rw [e1] at rv;have rv' : en.val = cy7 a := rv;rw [rv'];have I' : Inv X pins σ H { s with heap := h', toks := tk } := I.kept kp;obtain ⟨its, r, pl, hz⟩ := I'.list hx;have hlen := r.length;refine wpAny_truthy_list pl.isList (by simp only [cy0]; omega) ?_;rw [zq0 r, <- e2];exact hQ _
end
section
variable {X : Bc} {S : Sl} {W : Wl} {k : KB}
theorem zd03 {o : Expr} {p pos apos cpos : Pos} (hc : X.calm = true) (hg : Gl X "any") (hm : X.mg "any" = none) (hv : fy2 "any" = some (.builtin "any"))
  (h : BE X S W o fun y W1 => ∃ (j : Nat) (ob : Obj) (L : List (Key × El)) (bs : List Bool), y = .o j /\ W1[j]? = some (.fK ob L) /\ Paired (fun (e : Key × El) (b : Bool) => ∃ i es, e.2 = .o i /\ W1[i]? = some (.lst es) /\ b = !es.isEmpty) L bs /\ k (.d (.bool (bs.any id))) W1)
  (hbase : oy9 o "values" X.env (eval o X.env) = eval o X.env := by rfl) (hline : (apos.endLine == cpos.line) = true := by rfl) (he : fy6 [.Call (.Attribute o "values" apos) [] [] cpos] X.env = (false, eval (.Call (.Attribute o "values" apos) [] [] cpos) X.env) :: fy6 [] X.env := by rfl) (hpl : (backTo pos (fy6 [] X.env)).any (·.1) = false := by rfl) :
  BE X S W (.Call (.Name "any" p) [.Call (.Attribute o "values" apos) [] [] cpos] [] pos) k :=
 .of (zo3 (za98 hc) hg hm hv (zl0 (zR1 zh8 hbase hline) zu1 he) (by decide) (by decide) he hpl) fun F A σ H Q x0 r sr q =>
  h.use x0 r sr fun F1 A1 W1 H1 y vy e1 r1 z1 zR => by
   obtain ⟨j, ob, L, bs, hy, hj, hp, h1⟩ := zR;subst hy;obtain ⟨a, ha, rfl⟩ := z1;obtain ⟨u, eH, vs, rfl, pk⟩ := r1.obj j a _ ha hj;refine ⟨a, ob, vs, rfl, eH, fun v hv0 => ?_⟩;have hav : a ≠ v := fun z => by rw [z, hv0] at eH; cases eH
   have r2 : RW X.K F1 A1 W1 (upd H1 v (zi7 v a)) := r1.grown (zj2 hv0);refine ⟨v, a, ob, vs, bs, rfl, zb3, by rw [za5 hav]; exact eH, ?_, (q.ext e1).same r2 (.dd (Rq.bl _)) h1⟩
   have : ∀ {L : List (Key × El)} {vs : List (Key × V)} {bs : List Bool}, Paired (fun p q => p.1 = q.1 /\ ElR X.K F1 A1 p.2 q.2) L vs -> Paired (fun (e : Key × El) (b : Bool) => ∃ i es, e.2 = .o i /\ W1[i]? = some (.lst es) /\ b = !es.isEmpty) L bs -> Paired (fun (p : Key × V) (b : Bool) => ∃ a' xs, p.2 = .ref a' /\ SqL X.K (upd H1 v (zi7 v a)) a' xs /\ b = !xs.isEmpty) vs bs := by
    intro L
    induction L with
    | nil => intro vs bs h1 h2; cases h1; cases h2; exact .nil
    | cons e L ih =>
     intro vs bs h1 h2;cases h1 with
     | cons z1 t1 =>
      cases h2 with
      | cons z2 t2 =>
       refine .cons ?_ (ih t1 t2);obtain ⟨i, es, e2, hw, rfl⟩ := z2;have z := z1.2;rw [e2] at z;obtain ⟨a', ha', e3⟩ := z;obtain ⟨u, eU, ws, rfl, pw⟩ := r2.obj i a' _ ha' hw;refine ⟨a', ws, e3, SqL.of eU, ?_⟩;cases pw <;> rfl
   exact this pk hp
end
end L2
namespace L2
open PySem PySem.Spec PyProof.Rows
section
variable {X : Bc} {n : Nat} {S : Sl} {W : Wl} {D : DB} {k : KB} {tg iter elt : Expr} {ifs : List Expr} {O Fv : List Str} {cap : List Nat} {scope : Scope} {pos : Pos}
abbrev KCE (X : Bc) (O Fv : List Str) (cap : List Nat) (scope : Scope) (S : Sl) (tg elt : Expr) (ifs : List Expr) (k : List PyData -> Wl -> Prop) : Nat -> (Wl -> Prop) -> List El -> Wl -> Prop := fun m G ds W1 => ∃ P : Nat -> List PyData -> Wl -> Prop,
 P 0 [] W1 /\ (∀ i ys W', i <= ds.length -> P i ys W' -> G W' /\ ys.length <= by2) /\
  (∀ i d ys W', ds[i]? = some d -> P i ys W' -> BGc X (O ++ Fv) scope O.length (zK6 O cap S) W' tg d fun S2 W2 => BTc X (O ++ Fv) scope S2 W2 ifs fun b W3 =>
   if b = true then BEc X (O ++ Fv) scope S2 W3 elt fun y W4 => ∃ dy, y = .d dy /\ P (i + 1) (ys ++ [dy]) W4 else P (i + 1) ys W3) /\
  ∀ ys W', P ds.length ys W' -> k ys W'
theorem zX1 {F : Hp} {A : List Addr} {σ : St} {H : Hp} {Q : VK} {k : List PyData -> Wl -> Prop} (h : BIE X S W tg iter (KCE X O Fv cap scope S tg elt ifs k)) (x0 : X.Am F A) (r : RW X.K F A W H) (sr : SR X.K F A S σ)
  (q : ∀ F' A' W' H' ys vs p, Ext F A F' A' -> RW X.K F' A' W' H' -> Paired (fun d v => Rq X.K F' v d) ys vs -> H' p = none -> k ys W' -> Q (.ref p) (upd H' p (.lst vs))) :
  zS4 (tUI X tg iter) O cap (zT1 X (O ++ Fv) scope O.length tg) (tUTc X (O ++ Fv) scope ifs) (zG1 X (O ++ Fv) scope elt) σ H Q :=
 h F A σ H _ x0 r sr fun m G F1 A1 W1 H1 ds J e1 r1 hm1 wk zR => by
  obtain ⟨P, p0, hG, hs, hd⟩ := zR;refine ⟨fun i μ ys H' => μ = ds.length - i /\ i <= ds.length /\ ∃ F' A' W' yd, Ext F1 A1 F' A' /\ RW X.K F' A' W' H' /\ Paired (fun d v => Rq X.K F' v d) yd ys /\ P i yd W', ⟨ds.length, by simp, dy5 _, F1, A1, W1, [], .refl, r1, .nil, p0⟩, ?_⟩;rintro i μ ys H' ⟨rfl, hi, F', A', W', yd, x, r', z', p⟩;obtain ⟨g, hz⟩ := hG i yd W' hi p;refine ⟨by rw [<- zb1 z']; exact hz, ?_⟩
  by_cases hlt : i < ds.length
  ·refine .inr ⟨wk.go i F' A' W' H' hlt (x.ex1 hm1) r' g, fun ys2 H2 => ∃ F2 A2 W2 yd2, Ext F1 A1 F2 A2 /\ RW X.K F2 A2 W2 H2 /\ Paired (fun d v => Rq X.K F2 v d) yd2 ys2 /\ P (i + 1) yd2 W2, fun ys2 H2 p2 => ⟨ds.length - (i + 1), by omega, rfl, hlt, p2⟩, fun v H'' hy => ?_⟩;obtain ⟨rfl, d, hd', zd⟩ := wk.yld i F' A' W' H' v H'' hlt (x.ex1 hm1) r' g hy;have srx := sr.ext (e1.trans x);refine hs i d yd W' hd' p F' A' (zc0 O cap σ) H'' v _ r' srx.cmp zd fun S2 σ2 sr2 h2 => ?_;refine h2 F' A' σ2 H'' _ (x0.trans (e1.trans x)) r' sr2 fun F3 A3 W3 H3 b e3 r3 h3 => ?_;cases b with
   | true =>
    rw [if_pos rfl] at h3 ⊢;refine ⟨tD X S2 W3 _, fun cl C ex s H => h3 cl C ex s H, F3, A3, (x0.trans (e1.trans x)).trans e3, r3, sr2.ext e3, fun F4 A4 W4 H4 y vy e4 r4 z4 ⟨dy, hy, h4⟩ => ?_⟩;subst hy;exact ⟨F4, A4, W4, yd ++ [dy], (x.trans e3).trans e4, r4, zo5 (zd6 (fun _ _ t => Rq.same (e3.trans e4).same _ t) z') (.cons z4 .nil), h4⟩
   | false =>
    rw [if_neg (by decide)] at h3 ⊢;exact ⟨F3, A3, W3, yd, x.trans e3, r3, zd6 (fun _ _ t => Rq.same e3.same _ t) z', h3⟩
  ·have hie : i = ds.length := by omega
   subst hie;exact .inl ⟨wk.stop F' A' W' H' (x.ex1 hm1) r' g, fun l hl => q F' A' W' H' yd ys l (e1.trans x) r' z' hl (hd yd W' p)⟩
theorem zb90 (hc : X.calm = true) (cs : zb4 X.N X.env.scope O Fv cap scope) (h : BIE X S W tg iter (KCE X O Fv cap scope S tg elt ifs fun ys W' => k (.d (.list ys)) W'))
  (hs : ∀ x, ey1 iter X.env x = pure x := by intro _; rfl) : BE X S W (.ListComp elt [⟨tg, iter, ifs, 0⟩] scope pos) k :=
 .of (zK0 (g := zT1 X (O ++ Fv) scope O.length tg) (tt := tUTc X (O ++ Fv) scope ifs) (te := zG1 X (O ++ Fv) scope elt) hc cs pi_U (fun cl C ex s H => fun pins s' σ' H' v u Q I r ⟨t, h, _, q⟩ => h cl C ex s H pins s' σ' H' v u Q I r q) (fun cl C ex s H => fun pins s' σ' H' Q I ⟨t, h, q⟩ => h cl C ex s H pins s' σ' H' Q I q)
  (fun cl C ex s H => fun pins s' σ' H' Q I ⟨t, h, q⟩ => h cl C ex s H pins s' σ' H' Q I q) zT2 hs) fun F A σ H Q x0 r sr q => zX1 h x0 r sr fun F' A' W' H' ys vs p x r' z hp hk => (q.ext x).newL r' hp z hk
abbrev KCO (X : Bc) (O Fv : List Str) (cap : List Nat) (scope : Scope) (S : Sl) (tg elt : Expr) (ifs : List Expr) (k : List El -> Wl -> Prop) : Nat -> (Wl -> Prop) -> List PyData -> Wl -> Prop := fun m G ds W1 => ∃ P : Nat -> List El -> Wl -> Prop,
 P 0 [] W1 /\ (∀ i ys W', i <= ds.length -> P i ys W' -> G W' /\ ys.length <= by2) /\
  (∀ i d ys W', ds[i]? = some d -> P i ys W' -> BGc X (O ++ Fv) scope O.length (zK6 O cap S) W' tg (.d d) fun S2 W2 => BTc X (O ++ Fv) scope S2 W2 ifs fun b W3 =>
   if b = true then BEc X (O ++ Fv) scope S2 W3 elt fun y W4 => P (i + 1) (ys ++ [y]) W4 else P (i + 1) ys W3) /\
  ∀ ys W', P ds.length ys W' -> k ys W'
theorem zX2 {F : Hp} {A : List Addr} {σ : St} {H : Hp} {Q : VK} {k : List El -> Wl -> Prop} (h : BI X S W tg iter (KCO X O Fv cap scope S tg elt ifs k)) (x0 : X.Am F A) (r : RW X.K F A W H) (sr : SR X.K F A S σ)
  (q : ∀ F' A' W' H' ys vs p, Ext F A F' A' -> RW X.K F' A' W' H' -> Paired (ElR X.K F' A') ys vs -> H' p = none -> k ys W' -> Q (.ref p) (upd H' p (.lst vs))) :
  zS4 (tUI X tg iter) O cap (zT1 X (O ++ Fv) scope O.length tg) (tUTc X (O ++ Fv) scope ifs) (zG1 X (O ++ Fv) scope elt) σ H Q :=
 h F A σ H _ x0 r sr fun m G F1 A1 W1 H1 ds J e1 r1 hm1 wk zR => by
  obtain ⟨P, p0, hG, hs, hd⟩ := zR;refine ⟨fun i μ ys H' => μ = ds.length - i /\ i <= ds.length /\ ∃ F' A' W' yd, Ext F1 A1 F' A' /\ RW X.K F' A' W' H' /\ Paired (ElR X.K F' A') yd ys /\ P i yd W', ⟨ds.length, by simp, dy5 _, F1, A1, W1, [], .refl, r1, .nil, p0⟩, ?_⟩;rintro i μ ys H' ⟨rfl, hi, F', A', W', yd, x, r', z', p⟩;obtain ⟨g, hz⟩ := hG i yd W' hi p;refine ⟨by rw [<- zb1 z']; exact hz, ?_⟩
  by_cases hlt : i < ds.length
  ·refine .inr ⟨wk.go i F' A' W' H' hlt (x.ex1 hm1) r' g, fun ys2 H2 => ∃ F2 A2 W2 yd2, Ext F1 A1 F2 A2 /\ RW X.K F2 A2 W2 H2 /\ Paired (ElR X.K F2 A2) yd2 ys2 /\ P (i + 1) yd2 W2, fun ys2 H2 p2 => ⟨ds.length - (i + 1), by omega, rfl, hlt, p2⟩, fun v H'' hy => ?_⟩;obtain ⟨rfl, d, hd', zd⟩ := wk.yld i F' A' W' H' v H'' hlt (x.ex1 hm1) r' g hy;have srx := sr.ext (e1.trans x);refine hs i d yd W' hd' p F' A' (zc0 O cap σ) H'' v _ r' srx.cmp zd fun S2 σ2 sr2 h2 => ?_;refine h2 F' A' σ2 H'' _ (x0.trans (e1.trans x)) r' sr2 fun F3 A3 W3 H3 b e3 r3 h3 => ?_;cases b with
   | true =>
    rw [if_pos rfl] at h3 ⊢;refine ⟨tD X S2 W3 _, fun cl C ex s H => h3 cl C ex s H, F3, A3, (x0.trans (e1.trans x)).trans e3, r3, sr2.ext e3, fun F4 A4 W4 H4 y vy e4 r4 z4 h4 => ?_⟩;exact ⟨F4, A4, W4, yd ++ [y], (x.trans e3).trans e4, r4, zo5 (zd6 (fun _ _ t => t.ext (e3.trans e4)) z') (.cons z4 .nil), h4⟩
   | false =>
    rw [if_neg (by decide)] at h3 ⊢;exact ⟨F3, A3, W3, yd, x.trans e3, r3, zd6 (fun _ _ t => t.ext e3) z', h3⟩
  ·have hie : i = ds.length := by omega
   subst hie;exact .inl ⟨wk.stop F' A' W' H' (x.ex1 hm1) r' g, fun l hl => q F' A' W' H' yd ys l (e1.trans x) r' z' hl (hd yd W' p)⟩
theorem zb91 (hc : X.calm = true) (cs : zb4 X.N X.env.scope O Fv cap scope) (h : BI X S W tg iter (KCO X O Fv cap scope S tg elt ifs fun ys W' => k (.o W'.length) (W' ++ [.lst ys])))
  (hs : ∀ x, ey1 iter X.env x = pure x := by intro _; rfl) : BE X S W (.ListComp elt [⟨tg, iter, ifs, 0⟩] scope pos) k :=
 .of (zK0 (g := zT1 X (O ++ Fv) scope O.length tg) (tt := tUTc X (O ++ Fv) scope ifs) (te := zG1 X (O ++ Fv) scope elt) hc cs pi_U (fun cl C ex s H => fun pins s' σ' H' v u Q I r ⟨t, h, _, q⟩ => h cl C ex s H pins s' σ' H' v u Q I r q) (fun cl C ex s H => fun pins s' σ' H' Q I ⟨t, h, q⟩ => h cl C ex s H pins s' σ' H' Q I q)
  (fun cl C ex s H => fun pins s' σ' H' Q I ⟨t, h, q⟩ => h cl C ex s H pins s' σ' H' Q I q) zT2 hs) fun F A σ H Q x0 r sr q => zX2 h x0 r sr fun F' A' W' H' ys vs p x r' z hp hk => (q.ext x).zN9 r' hp (o := .lst ys) ⟨vs, rfl, z⟩ hk
end
end L2
namespace L2
open PySem PySem.Spec PyProof.Rows
open PySem.W
section
variable {P : cy8} {w : World} {A : Around} {E : Value -> Shared -> Prop} {s : Shared} {it d : Addr} {i ep : Nat} {es : Array my5}
theorem za99 {Q : Option Value -> Shared -> Prop} {en : my5} {ok ov : Value} (hI : IsItemIter s.heap it d i es.size ep ok ov) (hm : zH6 s.heap d es ep) (hx : es[i]? = some en)
  (hQ : ∀ h' : Heap, IsItemIterOut h' it d (i + 1) es.size ep en.key en.val s.heap.objs.size -> h'.get? s.heap.objs.size = some { cls := .type "tuple", data := .seq #[en.key, en.val] } -> (∀ b o, b ≠ it -> s.heap.get? b = some o -> h'.get? b = some o) -> Q (some (.ref s.heap.objs.size)) { s with heap := h' }) : wpAny (model P w) A (pyNext (.ref it)) Q E s := by
 obtain ⟨ob, b1, b2, b3⟩ := hm
 have lt : i < es.size := by
  rcases Nat.lt_or_ge i es.size with z | z
  ·exact z
  ·rw [my6 z] at hx; cases hx
 have ty : s.TypeIs (.ref it) "dict_itemiterator" := ⟨_, hI, rfl⟩
 have own : gy6 "dict_itemiterator" = true := by decide
 unfold pyNext;refine ay0 (py1 (fy0 (name := ly1 "__next__") ty iy8 (dy3 iy8 ty F.entry_dict_itemiterator_next ?_ (F.args_dict_itemiterator_next_1 _))));refine ay0 (ay2 (ay0 (ay0 ?_)))
 first | refine ay0 (oy1 ty (ay2 ?_)) | refine ay0 (ry6 ty (ay2 ?_))
 refine ay0 (uy0 hI rfl ?_);simp only [own, if_true];show wpAny _ _ (if (cy7 d == dy4) = true then _ else _) _ _ s;rw [if_neg (show ¬ ((cy7 d == dy4) = true) from by9)];refine ay0 (ay2 (ay0 (ky4 b1 b3 ?_)));rw [if_neg (by simp)];refine ay0 (ay2 (ay0 (oy0 b1 b3 ?_)));rw [if_neg (by simp)];refine ay2 ?_;simp only [show ¬ ((i : Int) < 0) from by omega, if_false, ky3, hx];refine ay0 ?_
 first | refine ay0 (oy1 ty (ay2 ?_)) | refine ay0 (ry6 ty (ay2 ?_))
 refine ay0 (wpAny_isOneOf_itemiter ty ?_);show wpAny _ _ (uy3 (.ref it) 3 (rawInt ((i : Int) + 1)) >>= _) _ _ s;refine ay0 (jy0 hI (by simp) fun h1 e1 s1 => ?_)
 have e1' : h1.get? it = some { cls := .type "dict_itemiterator", dict := none, data := .fields #[.none, .bool false, .ref d, .int ((i + 1 : Nat) : Int) 0, .int es.size 0, .int ep 0, ok, ov], slots := #[] } := by
  rw [show ((i + 1 : Nat) : Int) = (i : Int) + 1 by omega];simpa [rawInt] using e1
 have ty1 : qy8 { s with heap := h1 } (.ref it) "dict_itemiterator" := ⟨_, e1', rfl⟩
 refine ay0 (ey5 (ay0 (wpAny_isOneOf_itemiter ty1 (ay0 (wpAny_isOneOf_itemiter ty1 ?_)))));show wpAny _ _ (Builtin.Dict_items.pairFromOwner (.ref it) 6 en.key en.val) _ _ { s with heap := h1 };unfold Builtin.Dict_items.pairFromOwner;refine ay0 (wpAny_newTuple ?_);have z1 : h1.objs.size = s.heap.objs.size := s1.1;have lit : it < s.heap.objs.size := by1 hI;have e2 := ay1 ({ cls := .type "tuple", data := .seq #[en.key, en.val] } : Obj) e1';have t2 : (h1.push { cls := .type "tuple", data := .seq #[en.key, en.val] }).get? s.heap.objs.size = some { cls := .type "tuple", data := .seq #[en.key, en.val] } := by rw [<- z1]; exact ay7 _ rfl
 have k2 : ∀ b o, b ≠ it -> s.heap.get? b = some o -> (h1.push { cls := .type "tuple", data := .seq #[en.key, en.val] }).get? b = some o := fun b o hb e => ay1 _ (s1.extBut b o hb e);show wpAny _ _ (xy0 (.ref it) >>= _) _ _ { s with heap := h1.push { cls := .type "tuple", data := .seq #[en.key, en.val] } };rw [z1];generalize h1.push { cls := .type "tuple", data := .seq #[en.key, en.val] } = h2 at e2 t2 k2;clear e1 e1' s1 ty1 z1;refine ay0 ?_;unfold Builtin.Dict_items.ownedTupleIsFree;refine ay0 (jy5 e2 rfl (x := .none) rfl (ay2 ?_));simp only [if_true];refine ay0 (jy5 e2 rfl (x := ok) rfl (ay0 (jy5 e2 rfl (x := ov) rfl ?_)));refine ay0 (jy0 e2 (by simp) fun h3 e3 s3 => ?_);refine ay0 (jy0 e3 (by simp) fun h4 e4 s4 => ?_);refine ay0 (jy0 e4 (by simp) fun h5 e5 s5 => ?_);refine ay0 (jy0 e5 (by simp) fun h6 e6 s6 => ?_);have all : Heap.ExtBut it h2 h6 := fun b o hb e => s6.extBut b o hb (s5.extBut b o hb (s4.extBut b o hb (s3.extBut b o hb e)));exact ay0 (wpAny_letGo (ay2 (ay2 ⟨_, rfl, ay2 (hQ h6 e6 (all _ _ (ky5 lit) t2) fun b o hb e => all b o hb (k2 b o hb e))⟩)))
end
theorem zx3 : entryFor table "dict_itemiterator.__iter__" = some oy6.«dict_keyiterator.__iter__» := entryFor_alias (id' := "dict_keyiterator.__iter__") (by kernel_rfl) rfl (by decide +kernel) (by kernel_rfl)
theorem zb00 {P : cy8} {w : World} {A : Around} {E : Value -> Shared -> Prop} {s : Shared} {it d : Addr} {i n ep : Nat} {ok ov : Value} {Q : Value -> Shared -> Prop} (st : IsItemIter s.heap it d i n ep ok ov) (h : Q (.ref it) s) : wpAny (model P w) A (pyIter (.ref it)) Q E s := by
 have ty : s.TypeIs (.ref it) "dict_itemiterator" := ⟨_, st, rfl⟩
 refine sy4 ty F.slot_dict_itemiterator_iter (dy3 F.slot_dict_itemiterator_iter ty zx3 ?_ (F.args_dict_itemiterator_iter_1 _));exact ay2 ⟨_, rfl, _, _, ty, iy8.lookup, h⟩
def ItIK (d : Addr) (o : Obj) : It := ⟨fun i H => ∃ vs, H d = some (.frz o (.dK vs)) /\ i < vs.length, fun i H x H' => ∃ p q, x = .ref p /\ H p = none /\ H' = upd H p (.tup [kV q.1, q.2]) /\ ∀ vs, H d = some (.frz o (.dK vs)) -> vs[i]? = some q, fun i H => ∃ vs, H d = some (.frz o (.dK vs)) /\ vs.length <= i⟩
theorem zN1 {P : cy8} {w : World} {K : ay5} {elts : List Expr} {c : Nat} {tp : Pos} {d : Addr} {o : Obj} {es : Array my5} {ep : Nat} (it : Addr) (hd : o.data = .dict es ep) :
  Turn P w K (.Tuple elts c tp) (ItIK d o) [it] it (fun i h => ∃ ok ov, IsItemIter h it d i es.size ep ok ov) where
 mem := by simp
 obj := fun i h ⟨ok, ov, st⟩ b hb => by
  have e : b = it := by simpa using hb
  subst e;exact ⟨_, st, fun v z => by cases z⟩
 keep := fun i h h' ⟨ok, ov, st⟩ k => ⟨ok, ov, k it (by simp) _ st⟩
 item := by
  intro X hP hw hK hcm i pins s σ H E I hf ⟨ok, ov, st⟩ hg;subst hP hw hK;have fi := hf it (by simp);obtain ⟨vs, hu, hi⟩ := hg;obtain ⟨hget, hs, es', ep', g1, g2, g3, g4⟩ := zc3 (show zb6 X.prog X.w H s.heap d (.frz o (.dK vs)) from I.hok d _ hu);rw [hd] at g2;cases g2;obtain ⟨en, hen, rk, rv⟩ := g4 i vs[i] (by5 hi);have nn : H s.heap.objs.size = none := I.hok.fresh (ay6 _);refine za99 st ⟨o, hget, g1, hd⟩ hen fun g eo t' kp => ?_;refine ⟨_, rfl, wpAny_letOwnedTupleGo_items eo fun h2 e2 sb => ?_⟩;have sb : fy5 it g h2 := sb;have hel : s.heap.objs.size ≠ it := ky5 (by1 st);have k2 : ∀ b o, b ≠ it -> s.heap.get? b = some o -> h2.get? b = some o := fun b o bi hb => (sb.2 b bi).trans (kp b o bi hb);have tracked : ∀ b u, H b = some u -> b ≠ it := fun b u hb => za3 hb fi.1;have t2 : h2.get? s.heap.objs.size = some { cls := .type "tuple", data := .seq #[en.key, en.val] } := (sb.2 _ hel).trans t';refine ⟨.ref s.heap.objs.size, upd H s.heap.objs.size (.tup [kV vs[i].1, vs[i].2]), I.zb14 (ch := [it]) rfl ⟨fun b o q n hb hx => ?_, fun b o q n hb hx => ?_, fun b o q n hx => ?_, fun b o q hx => ?_, fun b ys q => ?_, fun b o v q => ?_, fun b ps q => ?_⟩ (fun b v q => ?_) I.bare (fun b hb => ?_), rfl, ⟨_, vs[i], rfl, nn, rfl, fun vs' hv' => ?_⟩, ⟨_, _, e2⟩, fun b hb => ?_⟩
  ·exact k2 b o (fun z => hx (by simp [z])) q
  ·exact ⟨o.slots, k2 b o (fun z => hx (by simp [z])) q⟩
  ·rw [za5 (by6 (by1 q))];exact n
  ·exact ⟨o, k2 b o (fun z => hx (by simp [z])) q⟩
  ·rw [za5 (za3 q nn)]; exact q
  ·rw [za5 (za3 q nn)]; exact q
  ·exact ⟨#[], by rw [za5 (za3 q nn), Array.append_empty]; exact q⟩
  ·by_cases hb : b = s.heap.objs.size
   ·subst hb;rw [zb3] at q;cases q;exact ⟨by show 2 <= by2; decide, [en.key, en.val], .cons rk (.cons rv .nil), _, t2, rfl, _, rfl⟩
   ·rw [za5 hb] at q;refine (I.hok b v q).zR6 (fun c w' hc z => ?_) (fun c z => by rw [za5 (za3 z nn)]; exact z) fun c ys z => by rw [za5 (za3 z nn)]; exact z
    rcases hc with rfl | hc
    ·exact k2 c w' (tracked c v q) z
    ·exact k2 c w' (tracked c _ hc) z
  ·cases ey7.mp hb;exact ⟨fi.2.2.2.1, fi.2.1, fi.2.2.2.2⟩
  ·rw [hu] at hv';cases hv';exact by5 hi
  ·cases ey7.mp hb;rw [za5 (fy4 hel)];exact fi.1
 done := by
  intro X hP hw hK hcm i pins s σ H E I hf ⟨ok, ov, st⟩ hg;subst hP hw hK;obtain ⟨f0, f1, f2, f3, f4, f5⟩ := hf it (by simp);obtain ⟨vs, hu, hi⟩ := hg;obtain ⟨hget, hs, es', ep', g1, g2, g3, g4⟩ := zc3 (show zb6 X.prog X.w H s.heap d (.frz o (.dK vs)) from I.hok d _ hu);rw [hd] at g2;cases g2;exact zb61 (S := it + 1) (I.ok.hd hcm) (.inl ⟨ok, ov, st⟩) ⟨o, hget, g1, hd⟩ (by omega) fun h' eb => ⟨rfl, I.turned (t' := s.toks) (fun b o hb e => eb b o hb e) f0 f1 f3 f4 f5⟩
 self := fun _ _ _ _ _ ⟨_, _, st⟩ h => zb00 st h
section
variable {X : Cx}
theorem zb01 {o : Expr} {to : TE} {apos cpos : Pos} (ho : PE X o to) (hbase : oy9 o "items" X.env (eval o X.env) = eval o X.env := by rfl) (hline : (apos.endLine == cpos.line) = true := by rfl) :
  PE X (.Call (.Attribute o "items" apos) [] [] cpos) (fun σ H Q => to σ H fun x H1 => ∃ d ob vs, x = .ref d /\ H1 d = some (.frz ob (.dK vs)) /\ ∀ v, H1 v = none -> Q (.ref v) (upd H1 v (za61 v d))) := by
 intro pins s σ H Q I h;refine wpAny_Call_method0_late hbase hline (thn (ho pins s σ H _ I h) fun v s1 ⟨x, H1, I1, r1, d, ob, vs, hx, hd, q⟩ => ?_);subst hx;cases r1;obtain ⟨hget, hs, es, ep, g1, g2, _⟩ := zc3 (show zb6 X.prog X.w H1 s1.heap d (.frz ob (.dK vs)) from I1.hok d _ hd);have ty : s1.TypeIs (.ref d) "dict" := ⟨ob, hget, g1.1⟩
 refine ⟨"dict", "dict.items", iy6, PySem.F.slot_dict_items, PySem.F.type_dict_items, ty, fun a e => by cases e; exact ⟨ob, hget, g1.2.1⟩, uy1 rfl (PySem.evalArgs_none ?_)⟩;refine dy3 PySem.F.slot_dict_items ty PySem.F.entry_dict_items ?_ (PySem.F.args_dict_items_1 _);unfold Builtin.«dict.items»;refine ay0 ?_;unfold Builtin.Dict.noArgs;refine ay0 (ny7 ty ?_);show wpAny _ _ (pure d) _ _ s1;refine ay2 ?_;show wpAny _ _ (jy8 d >>= _) _ _ s1;unfold Builtin.Dict.showsAll;rw [if_neg (by rw [hs]; exact by9)];refine ay0 (ay2 (ay0 (dy8 (ay2 ⟨_, rfl, ?_⟩))));refine ⟨.ref s1.heap.objs.size, _, I1.laid (t' := s1.toks) (o := za61 s1.heap.objs.size d) (fun b u q => ay1 _ q) (ay6 _) ?_, rfl, q _ (I1.hok.fresh (ay6 _))⟩;exact ⟨⟨_, ay7 _ rfl, rfl, rfl⟩, ⟨_, ay7 _ rfl⟩, fun h1 h2 ⟨o, a, b, c⟩ k => ⟨o, k o a, b, c⟩⟩
theorem zb02 {elts : List Expr} {c : Nat} {tp : Pos} {l : Expr} {tl : TE} (hl : PE X l tl) : PI X (.Tuple elts c tp) l (fun σ H R => tl σ H fun v H1 => ∃ vw d o vs, v = .ref vw /\ H1 vw = some (za61 vw d) /\ H1 d = some (.frz o (.dK vs)) /\ R (ItIK d o) H1) := by
 intro pins s σ H R I h;refine thn (hl pins s σ H _ I h) fun v s1 zR => ?_;obtain ⟨y, H1, I1, r1, vw, d, o, vs, hy, hv, hd, q⟩ := zR;subst hy;cases r1;obtain ⟨hvw, _, _⟩ := (show zb6 X.prog X.w H1 s1.heap vw (za61 vw d) from I1.hok vw _ hv)
 obtain ⟨hget, hs, es, ep, g1, g2, _⟩ := zc3 (show zb6 X.prog X.w H1 s1.heap d (.frz o (.dK vs)) from I1.hok d _ hd);refine za60 hvw ⟨o, hget, g1, g2⟩ ?_;refine ⟨s1.heap.objs.size, [s1.heap.objs.size], _, _, H1, rfl, I1.kept (t' := s1.toks) fun b o e => ay1 _ e, zN1 _ g2, ⟨.none, .none, ay7 _ rfl⟩, fun b hb => ?_, q⟩;have e : b = s1.heap.objs.size := by simpa using hb
 subst e;exact I1.zY5 (ay6 _) (I1.hok.fresh (ay6 _))
end
section
variable {X : Bc} {n : Nat} {S : Sl} {W : Wl} {D : DB} {k : KB} {kx vx : Expr} {O Fv : List Str} {cap : List Nat} {scope : Scope} {pos : Pos} {elts : List Expr} {c : Nat} {tp : Pos}
theorem zN2 {o : Expr} {apos cpos : Pos} {F : Hp} {A : List Addr} {σ : St} {H : Hp} {Q : VK} {k : List (Key × El) -> Wl -> Prop}
  (h : BE X S W o fun y W1 => ∃ (j : Nat) (ob : Obj) (L : List (Str × PyData)), y = .o j /\ W1[j]? = some (.fK ob (L.map fun p => (.inr p.1, .d p.2))) /\
   ∃ P : Nat -> List (Key × El) -> Wl -> Prop, P 0 [] W1 /\ (∀ i kvs W', i <= L.length -> P i kvs W' -> W'[j]? = some (.fK ob (L.map fun p => (.inr p.1, .d p.2))) /\ kvs.length < by2) /\
    (∀ i p kvs W', L[i]? = some p -> P i kvs W' -> BGc X (O ++ Fv) scope O.length (zK6 O cap S) W' (.Tuple elts c tp) (.d (.tuple [.str p.1, p.2])) fun S2 W2 => BEc X (O ++ Fv) scope S2 W2 kx fun kz W3 => ∃ x : Str, kz = .d (.str x) /\ BEc X (O ++ Fv) scope S2 W3 vx fun z W4 => P (i + 1) (zD9 kvs (.inr x) z) W4) /\
    ∀ kvs W', P L.length kvs W' -> k kvs W')
  (x0 : X.Am F A) (r : RW X.K F A W H) (sr : SR X.K F A S σ)
  (q : ∀ F' A' W' H' kvs vs p, Ext F A F' A' -> RW X.K F' A' W' H' -> Paired (fun p q => p.1 = q.1 /\ ElR X.K F' A' p.2 q.2) kvs vs -> H' p = none -> k kvs W' -> Q (.ref p) (upd H' p (.dK vs)))
  (hbase : oy9 o "items" X.env (eval o X.env) = eval o X.env := by rfl) (hline : (apos.endLine == cpos.line) = true := by rfl) :
  tDC (tUI X (.Tuple elts c tp) (.Call (.Attribute o "items" apos) [] [] cpos)) O cap (zT1 X (O ++ Fv) scope O.length (.Tuple elts c tp)) (zG1 X (O ++ Fv) scope kx) (zG1 X (O ++ Fv) scope vx) σ H Q :=
 ⟨_, zb02 (zb01 zh8 hbase hline), h.use x0 r sr fun F1 A1 W1 H1 y vy e1 r1 z1 zR => by
  obtain ⟨j, ob, L, hy, hj, P, p0, hG, hs, hd⟩ := zR;subst hy;obtain ⟨a, ha, rfl⟩ := z1;have hja : j < A1.length := (ay3.mp ha).1;have up : ∀ {F F' : Hp} {A A' : List Addr} {a : List (Key × El)} {b : List (Key × V)}, Ext F A F' A' -> Paired (fun p q => p.1 = q.1 /\ ElR X.K F A p.2 q.2) a b -> Paired (fun p q => p.1 = q.1 /\ ElR X.K F' A' p.2 q.2) a b := fun e p => zd6 (fun _ _ t => ⟨t.1, t.2.ext e⟩) p;obtain ⟨u0, e0, vs0, rfl, pp0⟩ := r1.obj j a _ ha hj;refine ⟨a, ob, vs0, rfl, e0, fun v hv => ⟨v, a, ob, vs0, rfl, zb3, by rw [za5 (za3 e0 hv)]; exact e0, ?_⟩⟩;have r2 : RW X.K F1 A1 W1 (upd H1 v (za61 v a)) := r1.grown (zj2 hv)
  have key : ∀ {F' A' W' H'}, Ext F1 A1 F' A' -> RW X.K F' A' W' H' -> W'[j]? = some (.fK ob (L.map fun p => (.inr p.1, .d p.2))) -> ∃ vs, H' a = some (.frz ob (.dK vs)) /\ Paired (fun p q => p.1 = q.1 /\ ElR X.K F' A' p.2 q.2) (L.map fun p => (.inr p.1, .d p.2)) vs := fun x r' hG => by
   obtain ⟨u, e, vs, rfl, p⟩ := r'.obj j a _ (zu5 x.pre ha) hG;exact ⟨vs, e, p⟩
  refine ⟨fun i μ vs H' => μ = L.length - i /\ i <= L.length /\ ∃ F' A' W' kvs, Ext F1 A1 F' A' /\ RW X.K F' A' W' H' /\ Paired (fun p q => p.1 = q.1 /\ ElR X.K F' A' p.2 q.2) kvs vs /\ P i kvs W', ⟨L.length, by simp, dy5 _, F1, A1, W1, [], .refl, r2, .nil, p0⟩, ?_⟩;rintro i μ vs H' ⟨rfl, hi, F', A', W', kvs, x, r', z', p⟩;obtain ⟨g, hz⟩ := hG i kvs W' hi p;refine ⟨by rw [<- zb1 z']; exact hz, ?_⟩;obtain ⟨ws, eH, pw⟩ := key x r' g;have hwl : L.length = ws.length := by have := zb1 pw; simpa using this
  by_cases hlt : i < L.length
  ·refine .inr ⟨⟨ws, eH, by omega⟩, fun v H'' hy => ?_⟩;obtain ⟨t, qq, rfl, hn', rfl, hget⟩ := hy;obtain ⟨lp, hlp, zd⟩ := ze2 pw (hget ws eH);rw [by3] at hlp;obtain ⟨l, hl, rfl⟩ := gy4.mp hlp;obtain ⟨r3, e3⟩ := r'.newF hn' (.tup [kV qq.1, qq.2]);have zt : ElR X.K (upd F' t (.tup [kV qq.1, qq.2])) A' (.d (.tuple [.str l.1, l.2])) (.ref t) := .dd (Rq.tup (SqT.of zb3) (.cons (by rw [<- zd.1]; exact Rq.str l.1) (.cons (Rq.same e3.same _ zd.2) .nil)));have x3 := x.trans e3;have srx := sr.ext (e1.trans x3);refine hs i l kvs W' hl p _ A' (zc0 O cap σ) _ _ _ r3 srx.cmp zt fun S2 σ2 sr2 h2 => ?_;refine ⟨tD X S2 W' _, fun cl C ex s H => h2 cl C ex s H, _, A', x0.trans (e1.trans x3), r3, sr2, fun F3 A3 W3 H3 kz vk e3' r3' z3 ⟨y, hy, h3⟩ => ?_⟩;subst hy;obtain rfl := Rq.zf2 z3;refine ⟨y, rfl, tD X S2 W3 _, fun cl C ex s H => h3 cl C ex s H, F3, A3, (x0.trans (e1.trans x3)).trans e3', r3', sr2.ext e3', fun F4 A4 W4 H4 z vz e4 r4 z4 h4 => ?_⟩;exact ⟨L.length - (i + 1), by omega, rfl, hlt, F4, A4, W4, zD9 kvs (.inr y) z, (x3.trans e3').trans e4, r4, za52 z4 (up ((e3.trans e3').trans e4) z'), h4⟩
  ·have hie : i = L.length := by omega
   subst hie
   exact .inl ⟨⟨ws, eH, by omega⟩, fun l hl => q F' A' W' H' kvs vs l (e1.trans x) r' z' hl (hd kvs W' p)⟩⟩
end
end L2
namespace L2
open PySem PySem.Spec PyProof.Rows
section
variable {X : Bc} {n : Nat} {S : Sl} {W : Wl} {D : DB} {kx vx : Expr} {O Fv : List Str} {cap : List Nat} {scope : Scope} {pos : Pos} {elts : List Expr} {c : Nat} {tp : Pos}
theorem zb92 {o : Expr} {apos cpos : Pos} {i : Nat} {x : Str} {pos' spos : Pos} (hN : X.N.Nodup) (hix : X.N[i]? = some x) (hx : Loc X.env.scope x) (hc : X.calm = true) (cs : zb4 X.N X.env.scope O Fv cap scope)
  (h : BE X S W o fun y W1 => ∃ (j : Nat) (ob : Obj) (L : List (Str × PyData)), y = .o j /\ W1[j]? = some (.fK ob (L.map fun p => (.inr p.1, .d p.2))) /\
   ∃ P : Nat -> List (Key × El) -> Wl -> Prop, P 0 [] W1 /\ (∀ i kvs W', i <= L.length -> P i kvs W' -> W'[j]? = some (.fK ob (L.map fun p => (.inr p.1, .d p.2))) /\ kvs.length < by2) /\
    (∀ i p kvs W', L[i]? = some p -> P i kvs W' -> BGc X (O ++ Fv) scope O.length (zK6 O cap S) W' (.Tuple elts c tp) (.d (.tuple [.str p.1, p.2])) fun S2 W2 => BEc X (O ++ Fv) scope S2 W2 kx fun kz W3 => ∃ x : Str, kz = .d (.str x) /\ BEc X (O ++ Fv) scope S2 W3 vx fun z W4 => P (i + 1) (zD9 kvs (.inr x) z) W4) /\
    ∀ kvs W', P L.length kvs W' -> D.nx (S.set i (some (.o W'.length))) (W' ++ [.dK kvs]))
  (hbase : oy9 o "items" X.env (eval o X.env) = eval o X.env := by rfl) (hline : (apos.endLine == cpos.line) = true := by rfl)
  (hsw : swapsWith (.DictComp kx vx [⟨.Tuple elts c tp, .Call (.Attribute o "items" apos) [] [] cpos, [], 0⟩] scope pos) (some (.Name x pos')) spos.line X.env = pure true := by rfl) (hs : ∀ x, ey1 (.Call (.Attribute o "items" apos) [] [] cpos) X.env x = pure x := by intro _; rfl)
  (hf : X.fn x = true \/ X.env.scope.names.lookup x = some .local := by first | exact .inl rfl | exact .inr rfl | assumption) : BS X n S W (.Assign [.Name x pos'] (.DictComp kx vx [⟨.Tuple elts c tp, .Call (.Attribute o "items" apos) [] [] cpos, [], 0⟩] scope pos) spos) D :=
 .of (zc99 (g := zT1 X (O ++ Fv) scope O.length (.Tuple elts c tp)) (tk := zG1 X (O ++ Fv) scope kx) (tv := zG1 X (O ++ Fv) scope vx) hN hix hx hc cs pi_U (fun cl C ex s H => fun pins s' σ' H' v u Q I r ⟨t, h, _, q⟩ => h cl C ex s H pins s' σ' H' v u Q I r q) (fun cl C ex s H => fun pins s' σ' H' Q I ⟨t, h, q⟩ => h cl C ex s H pins s' σ' H' Q I q)
  (fun cl C ex s H => fun pins s' σ' H' Q I ⟨t, h, q⟩ => h cl C ex s H pins s' σ' H' Q I q) zT2 hsw hs hf) fun F A σ H E hn x0 r sr q => zN2 (k := fun kvs W' => D.nx (S.set i (some (.o W'.length))) (W' ++ [.dK kvs])) h x0.am r sr (fun F' A' W' H' kvs vs p x r' z hp hk => by
   obtain ⟨r2, y⟩ := r'.zN9 hp (o := .dK kvs) (u := .dK vs) ⟨vs, rfl, z⟩
   exact q.nx _ _ _ _ _ _ ((x.trans y).ex1 hn) r2 ((sr.ext (x.trans y)).set (ElR.oo (k := W'.length) (by rw [<- r'.len]; simp)) i) hk) hbase hline
end
section
variable {X : Bc} {W : Wl} {k : KB}
theorem zb93 {j : Nat} {xs : List (Str × Sum PyData Nat)} (hc : X.calm = true) (hj : W[j]? = some (.lst (xs.map fun p => .t [.inl (.str p.1), p.2]))) (nd : (xs.map (·.1)).Nodup) (h : k (.o W.length) (W ++ [.dK (xs.map fun p => (.inr p.1, ofT p.2))])) : CB X (.type "dict") [.o j] W k :=
 .of (zV3 hc) fun F A H Q vs r zs q => by
  obtain ⟨v, rfl, z⟩ := zg5 zs;obtain ⟨a, ha, rfl⟩ := z;obtain ⟨u, eH, us, rfl, z⟩ := r.obj j a _ ha hj
  have key : ∀ {xs : List (Str × Sum PyData Nat)} {us : List V}, Paired (ElR X.K F A) (xs.map fun p => .t [.inl (.str p.1), p.2]) us -> ∃ (ps : List Addr) (ys : List (Str × V)), us = ps.map V.ref /\ ps.length = ys.length /\ ys.map (·.1) = xs.map (·.1) /\
    (∀ (i : Nat) p, ps[i]? = some p -> ∃ x y, ys[i]? = some (x, y) /\ SqT X.K F p [.str x, y]) /\ Paired (fun (p : Key × El) (q : Key × V) => p.1 = q.1 /\ ElR X.K F A p.2 q.2) (xs.map fun p => (.inr p.1, ofT p.2)) (ys.map keyP) := by
   intro xs
   induction xs with
   | nil => intro us h; cases h; exact ⟨[], [], rfl, rfl, rfl, fun i p e => by simp at e, .nil⟩
   | cons p xs ih =>
    intro us h;cases h with
    | cons r1 r2 =>
     obtain ⟨ps, ys, rfl, h1, h2, h3, h4⟩ := ih r2;obtain ⟨b, ws, rfl, hb, pw⟩ := r1;have pw' := za53 pw;cases pw' with
     | cons c1 c2 =>
      cases c2 with
      | @cons _ y _ _ c3 c4 =>
       cases c4;obtain rfl := Rq.zf2 c1;refine ⟨b :: ps, (p.1, y) :: ys, rfl, by simp [h1], by simp [h2], fun i p' e => ?_, .cons ⟨rfl, c3⟩ h4⟩;cases i with
       | zero => simp at e; subst e; exact ⟨p.1, y, rfl, SqT.of hb⟩
       | succ i => obtain ⟨x, y', g1, g2⟩ := h3 i p' (by simpa using e); exact ⟨x, y', by simpa using g1, g2⟩
  obtain ⟨ps, ys, rfl, h1, h2, h3, h4⟩ := key z;refine ⟨a, ps, ys, rfl, .inl eH, fun i p hp => ?_, h1, by rw [h2]; exact nd, fun l hl => q.zN9 r hl (o := .dK _) ⟨_, rfl, h4⟩ h⟩;obtain ⟨x, y, g1, g2⟩ := h3 i p hp;exact ⟨x, y, g1, r.sub.zr7 g2⟩
end
section
variable {X : Cx}
theorem zf01 (hu : X.A.units + 1 < cLine) : IxR X (fun x y H Q => ∃ a kvs k v, x = .ref a /\ y = kV k /\ Rd H a (.dK kvs) /\ zx4 kvs k = some v /\ Q v H) := by
 intro value slice pins s σ H x y v u Q I rx ry h hs;obtain ⟨a, kvs, k, z, rfl, rfl, e, hv, q⟩ := h;cases (show v = cy7 a from rx);obtain ⟨_, hd, vs, rel, dd⟩ := zd72 I.hok e;obtain ⟨w', hw, rw'⟩ := zz0.some_of (v := z) (o := valueAt vs k) (by rw [<- hv]; exact rel.val k);exact qy1 (x := w') dd.typeIs wy3.lookup (wpAny_getItem_of (Q := fun r s' => r = w' /\ EP X pins σ Q r s') (za32 ry) dd.mapOf hw ⟨rfl, z, H, I.tok _, rw', q⟩) hs
end
section
variable {X : Bc} {W : Wl} {k : KB}
theorem zd04 {j : Nat} {o : Obj} {kvs : List (Key × El)} {x : Str} {e : El} (hu : X.A.units + 64 < cLine) (hj : W[j]? = some (.fK o kvs)) (he : zX4 kvs (.inr x) = some e) (h : k e W) : IB X (.o j) (.d (.str x)) W k := .of (zf01 (by omega)) fun F A H Q vx vy r zx zy q => by
 obtain ⟨a, ha, rfl⟩ := zx;obtain ⟨u, hH, ws, rfl, p⟩ := r.obj j a _ ha hj;obtain rfl := Rq.zf2 zy;obtain ⟨v, h1, h2⟩ := za47 p he;exact ⟨a, ws, .inr x, v, rfl, rfl, .inr ⟨o, hH⟩, h1, q.same r h2 h⟩
end
theorem zt6 {W : Wl} {j : Nat} {o o' : OD} (h : W[j]? = some o) : (W.set j o').set j o = W := by
 rw [List.set_set];refine py5 fun i => ?_
 by_cases e : j = i
 ·subst e;rw [gy3 (ay3.mp h).1, h]
 ·rw [cy3 e]
theorem get_set {W : Wl} {j i : Nat} {o o' : OD} (h : W[i]? = some o) (hij : j ≠ i) : (W.set j o')[i]? = some o := by rw [cy3 hij]; exact h
theorem zf1 {W : Wl} {j : Nat} {o o' : OD} (h : W[j]? = some o) : (W.set j o')[j]? = some o' := gy3 (ay3.mp h).1
theorem zD3 {α : Type} {L : List (Str × α)} {g : α -> El} (nd : (L.map (·.1)).Nodup) {p : Str × α} (h : p ∈ L) : zX4 (L.map fun e => (.inr e.1, g e.2)) (.inr p.1) = some (g p.2) := by
 unfold zX4
 induction L with
 | nil => simp at h
 | cons a L ih =>
  rw [ey6, ly6] at nd;rw [ey6, iy7];rcases by7.mp h with e | h'
  ·subst e;simp
  ·have : a.1 ≠ p.1 := fun z => nd.1 (by rw [z]; exact cy4.mpr ⟨p, h', rfl⟩);rw [decide_eq_false (fun z => this (uy4 z))];exact ih nd.2 h'
theorem zR2 {κ : Type} [DecidableEq κ] {kvs : List (κ × El)} {k : κ} {e : El} (h : ∀ p ∈ kvs, p.1 ≠ k) : zD9 kvs k e = kvs ++ [(k, e)] := by
 unfold zD9;rw [if_neg];intro z;obtain ⟨p, hp, hk⟩ := wy6.mp z;exact h p hp (by simpa using hk)
section
variable {X : Bc} {n : Nat} {S : Sl} {W : Wl} {D : DB} {k : KB} {tg iter elt : Expr} {ifs : List Expr} {O Fv : List Str} {cap : List Nat} {scope : Scope} {pos : Pos}
theorem zN3 {α : Type} {L : List α} {m : Nat} {G : Wl -> Prop} {W1 : Wl} {k : List PyData -> Wl -> Prop} {c : Expr} (g : α -> El) (p : α -> Bool) (f : α -> PyData) (hG : G W1) (hl : L.length <= by2)
  (h : ∀ a ∈ L, BGc X (O ++ Fv) scope O.length (zK6 O cap S) W1 tg (g a) fun S2 W2 => (∀ cl C ex s H, BT (cxB X (O ++ Fv) scope cl C ex s H) S2 W2 c fun b W3 => b = p a /\ W3 = W1) /\ (p a = true -> BEc X (O ++ Fv) scope S2 W2 elt fun y W4 => y = .d (f a) /\ W4 = W1)) (hk : k ((L.filter p).map f) W1) : KCE X O Fv cap scope S tg elt [c] k m G (L.map g) W1 := by
 refine ⟨fun i ys W' => W' = W1 /\ ys = ((L.take i).filter p).map f, ⟨rfl, rfl⟩, fun i ys W' hi q => ?_, fun i d ys W' hd q => ?_, fun ys W' q => ?_⟩
 ·rw [q.1, q.2];refine ⟨hG, ?_⟩;rw [ay4];have := ny6 p (L.take i);rw [dy2] at this;omega
 ·obtain ⟨rfl, rfl⟩ := q;rw [by3] at hd;obtain ⟨a, ha, rfl⟩ := gy4.mp hd;refine fun F A σ H v Q r sr z q => h a (cy5 ha) F A σ H v Q r sr z fun S' σ' sr' hh => q S' σ' sr' (za24 fun cl C ex s H => ?_);refine BT.mono (hh.1 cl C ex s H) fun b W3 hb => ?_;obtain ⟨rfl, rfl⟩ := hb
  by_cases e : p a = true
  ·rw [if_pos e];refine fun cl C ex s H => (hh.2 e cl C ex s H).mono fun y W4 hy => ⟨f a, hy.1, hy.2, ?_⟩
   rw [ey8, ha, qy6, fy3];simp [e]
  ·rw [if_neg e];refine ⟨rfl, ?_⟩;rw [ey8, ha, qy6, fy3];simp [e]
 ·rw [q.1, q.2, ay4, gy7];exact hk
end
theorem zb03 {α β : Type} {f : α -> β} : ∀ {l : List α}, (l.map f).Nodup -> ∀ {a b : α}, a ∈ l -> b ∈ l -> f a = f b -> a = b
 | [], _, _, _, ha, _, _ => by simp at ha
 | c :: l, nd, a, b, ha, hb, h => by
  rw [ey6, ly6] at nd;have no : ∀ z ∈ l, f c ≠ f z := fun z hz e => nd.1 (cy4.mpr ⟨z, hz, e.symm⟩);rcases by7.mp ha with ea | ha'
  ·rcases by7.mp hb with eb | hb'
   ·rw [ea, eb]
   ·rw [ea] at h; exact absurd h (no b hb')
  ·rcases by7.mp hb with eb | hb'
   ·rw [eb] at h; exact absurd h.symm (no a ha')
   ·exact zb03 nd.2 ha' hb' h
end L2
namespace K1
open PySem L2
def zD8 (d : za6) : List Str := [d.kd, d.x, d.y, d.w]
theorem zD4 {a b : za6} (h : zD8 a = zD8 b) : a = b := by
 obtain ⟨t, x, y, z⟩ := a;obtain ⟨t', x', y', z'⟩ := b;simp only [zD8, List.cons.injEq, and_true] at h;obtain ⟨h1, h2, h3, h4⟩ := h
 have : t = t' := by
  cases t <;> cases t' <;> first | rfl | exact absurd h1 zc94 | exact absurd h1.symm zc94
 rw [this, h2, h3, h4]
theorem zR3 (d : za6) : (zD8 d).length = 4 := rfl
def zr2 (V : Str -> List za6) (x : Str) (vs : List za6) : Str -> List za6 := fun y => if y = x then vs else V y
inductive Lst : Wd -> (Str -> List za6) -> List za6 -> Prop
 | nil {f : Wd} {V : Str -> List za6} : (∀ x, V x = []) -> Lst f V []
 | cons {f : Wd} {V : Str -> List za6} {d : za6} {vs out : List za6} : V (handOf d) = d :: vs -> zm4 f d = true -> (∀ x e es, V x = e :: es -> zm4 f e = true -> e ≠ d -> ltL (zD8 d) (zD8 e) = true) -> Lst (zd1 f d) (zr2 V (handOf d) vs) out -> Lst f V (d :: out)
theorem Lst.uniq {f : Wd} {V : Str -> List za6} {a b : List za6} (h : Lst f V a) (h' : Lst f V b) : a = b := by
 induction h generalizing b with
 | nil h0 =>
  cases h' with
  | nil _ => rfl
  | cons h1 _ _ _ => rw [h0] at h1; cases h1
 | @cons f V d vs out h1 h2 h3 h4 ih =>
  cases h' with
  | nil h0 => rw [h0] at h1; cases h1
  | @cons _ _ d' vs' out' g1 g2 g3 g4 =>
   by_cases e : d = d'
   ·subst e;rw [h1] at g1;injection g1 with _ e
    subst e;rw [ih g4]
   ·have a1 := h3 _ _ _ g1 g2 (fy4 e);have a2 := g3 _ _ _ h1 h2 e;rw [zQ8 (by rw [zR3, zR3]) a1] at a2;cases a2
theorem Lst.goes {f : Wd} {V : Str -> List za6} {a : List za6} (h : Lst f V a) : goF f a /\ ∀ x, viewOf x a = V x := by
 induction h with
 | nil h0 => exact ⟨trivial, fun x => by rw [h0]; rfl⟩
 | @cons f V d vs out h1 h2 h3 h4 ih =>
  refine ⟨⟨h2, ih.1⟩, fun x => ?_⟩;rw [zi3, ih.2 x];unfold zr2
  by_cases e : handOf d = x
  ·subst e;rw [if_pos rfl, if_pos rfl, h1]
  ·rw [if_neg e, if_neg (fy4 e)]
theorem zI7 {d : za6} : ∀ (B : List za6) {f : Wd} {C : List za6}, zm4 f d = true -> (∀ b ∈ B, handOf b ≠ handOf d) -> goF f (B ++ d :: C) -> goF f (d :: (B ++ C))
 | [], f, C, _, _, h => h
 | b :: B, f, C, hc, hB, h => by
  have hb := hB b ay9;have ih := zI7 B (f := zd1 f b) (C := C) (zQ6 hb hc) (fun z hz => hB z (by0 _ hz)) h.2;exact zb80 (show goF f (b :: d :: (B ++ C)) from ⟨h.1, ih⟩) hb hc
theorem zI8 {f : Wd} {V : Str -> List za6} {R : List za6} {d : za6} {vs : List za6} (hg : goF f R) (hV : ∀ x, viewOf x R = V x) (h1 : V (handOf d) = d :: vs) (h2 : zm4 f d = true) : ∃ R', goF (zd1 f d) R' /\ (∀ x, viewOf x R' = zr2 V (handOf d) vs x) /\ R'.length + 1 = R.length := by
 obtain ⟨B, C, rfl, hB⟩ := zD1 (by rw [hV]; exact h1);have := zI7 B h2 hB hg;refine ⟨B ++ C, this.2, fun x => ?_, by simp; omega⟩;have hx := hV x;rw [zi9, zi3] at hx;rw [zi9];unfold zr2
 by_cases e : x = handOf d
 ·subst e;rw [if_pos rfl];rw [if_pos rfl, zj8 hB, h1] at hx;rw [zj8 hB];injection hx
 ·rw [if_neg e];rw [if_neg (fy4 e)] at hx;exact hx
theorem zI9 {f : Wd} {V : Str -> List za6} {R : List za6} (hg : goF f R) (hV : ∀ x, viewOf x R = V x) (hne : R ≠ []) : ∃ d vs, V (handOf d) = d :: vs /\ zm4 f d = true := by
 cases R with
 | nil => exact absurd rfl hne
 | cons d R => exact ⟨d, viewOf (handOf d) R, by rw [<- hV, zi3, if_pos rfl], hg.1⟩
theorem zJ0 {x : Str} {R : List za6} {d : za6} (h : d ∈ viewOf x R) : handOf d = x := by
 unfold viewOf at h;have := (gy5.mp h).2;simpa using this
theorem zD5 {x : Str} {R : List za6} {d : za6} (h : d ∈ viewOf x R) : d ∈ R := (gy5.mp h).1
structure zn1 (W : Wl) (p : Nat) (ks : List (Str × Nat)) (V : Str -> List za6) : Prop where
 at_ : W[p]? = some (.dK (ks.map fun e => (.inr e.1, El.o e.2)))
 obj : ∀ e ∈ ks, W[e.2]? = some (.lst (zb2 ((V e.1).map dP)))
 nd : (ks.map (·.1)).Nodup
 ndj : (ks.map (·.2)).Nodup
 np : ∀ e ∈ ks, e.2 ≠ p
 none_ : ∀ x, x ∉ ks.map (·.1) -> V x = []
 hand : ∀ x, ∀ d ∈ V x, handOf d = x
 ok : ∀ x, ∀ d ∈ V x, d.Ok
theorem zn1.frame {W W' : Wl} {p : Nat} {ks : List (Str × Nat)} {V : Str -> List za6} (h : zn1 W p ks V) (hp : W'[p]? = W[p]?) (ho : ∀ e ∈ ks, W'[e.2]? = W[e.2]?) : zn1 W' p ks V :=
 ⟨hp.trans h.at_, fun e he => (ho e he).trans (h.obj e he), h.nd, h.ndj, h.np, h.none_, h.hand, h.ok⟩
theorem zn1.pop {W : Wl} {p : Nat} {ks : List (Str × Nat)} {V : Str -> List za6} (h : zn1 W p ks V) {e : Str × Nat} {d : za6} {vs : List za6} (he : e ∈ ks) (hv : V e.1 = d :: vs) : zn1 (W.set e.2 (.lst (zb2 (vs.map dP)))) p ks (zr2 V e.1 vs) := by
 refine ⟨get_set h.at_ (h.np e he), fun a ha => ?_, h.nd, h.ndj, h.np, fun x hx => ?_, fun x z hz => ?_, fun x z hz => ?_⟩
 ·unfold zr2
  by_cases e1 : a.1 = e.1
  ·obtain rfl := zb03 h.nd ha he e1;rw [if_pos rfl];exact zf1 (h.obj a ha)
  ·rw [if_neg e1];exact get_set (h.obj a ha) fun z => e1 (by rw [zb03 h.ndj he ha z])
 ·unfold zr2;rw [if_neg (fun z => hx (by rw [z]; exact cy4.mpr ⟨e, he, rfl⟩))];exact h.none_ x hx
 ·unfold zr2 at hz
  by_cases e1 : x = e.1
  ·rw [if_pos e1] at hz;rw [e1];exact h.hand e.1 z (by rw [hv]; exact by0 _ hz)
  ·rw [if_neg e1] at hz;exact h.hand x z hz
 ·unfold zr2 at hz
  by_cases e1 : x = e.1
  ·rw [if_pos e1] at hz;exact h.ok e.1 z (by rw [hv]; exact by0 _ hz)
  ·rw [if_neg e1] at hz;exact h.ok x z hz
theorem zn1.at {W : Wl} {p : Nat} {ks : List (Str × Nat)} {V : Str -> List za6} (h : zn1 W p ks V) {x : Str} {d : za6} {vs : List za6} (hv : V x = d :: vs) : ∃ e ∈ ks, e.1 = x := by
 by_cases hx : x ∈ ks.map (·.1)
 ·obtain ⟨e, he, z⟩ := cy4.mp hx;exact ⟨e, he, z⟩
 ·rw [h.none_ x hx] at hv;cases hv
def ze10 : za6 := ⟨false, "", "", ""⟩
def hdV (V : Str -> List za6) (x : Str) : za6 := (V x).headD ze10
def zg9 (f : Wd) (V : Str -> List za6) (x : Str) : Bool := !(V x).isEmpty && zm4 f (hdV V x)
theorem zh0 {f : Wd} {V : Str -> List za6} {x : Str} : zg9 f V x = true ↔ ∃ vs, V x = hdV V x :: vs /\ zm4 f (hdV V x) = true := by
 unfold zg9 hdV;cases V x with
 | nil => simp
 | cons d vs => simp
section
variable {W : Wl} {p : Nat} {ks : List (Str × Nat)} {V : Str -> List za6} {f : Wd}
theorem zb04 {α : Type} (x : α -> Str) (hand : ∀ x, ∀ d ∈ V x, handOf d = x) (l : List α) (nd : (l.map x).Nodup) : ((l.filter fun e => zg9 f V (x e)).map fun e => zD8 (hdV V (x e))).Nodup := by
 have h1 : l.Pairwise fun a b => x a ≠ x b := List.pairwise_map.mp nd;have h2 : (l.filter fun e => zg9 f V (x e)).Pairwise fun a b => x a ≠ x b := h1.sublist List.filter_sublist;refine List.pairwise_map.mpr (h2.imp_of_mem fun {c c'} hx hy hne e => hne ?_);obtain ⟨vs, h3, _⟩ := zh0.mp (gy5.mp hx).2;obtain ⟨ws, h4, _⟩ := zh0.mp (gy5.mp hy).2;have a := hand (x c) _ (by rw [h3]; exact ay9);have b := hand (x c') _ (by rw [h4]; exact ay9);rw [<- a, <- b, zD4 e]
end
theorem ze5.set {W : Wl} {q : Nat} {L : List Ln} (h : ze5 W q L) {i : Nat} (hi : i ≠ q) (hL : ∀ l ∈ L, l.j ≠ i) (o : OD) : ze5 (W.set i o) q L :=
 ⟨get_set h.at_ hi, fun e he => get_set (h.obj e he) (fy4 (hL e he)), h.nd, h.nq⟩
structure LB (W0 W : Wl) (q p r m : Nat) (L : List Ln) (ks : List (Str × Nat)) (f : Wd) (V : Str -> List za6) (row : List za6) : Prop where
 la : ze5 W q L
 kn : ze9 L
 sm : zi8 m L
 fs : ∀ x y, zi2 L x y = f x y
 lf : zn1 W p ks V
 rw_ : W[r]? = some (.lst (zb2 (row.map dP)))
 pq : p ≠ q
 rq : r ≠ q
 rp : r ≠ p
 kq : ∀ e ∈ ks, e.2 ≠ q /\ e.2 ≠ r
 lj : ∀ l ∈ L, l.j ≠ p /\ l.j ≠ r /\ ∀ e ∈ ks, l.j ≠ e.2
 hq : W0.length <= q
 hp : W0.length <= p
 hr : W0.length <= r
 hk : ∀ e ∈ ks, W0.length <= e.2
 hj : ∀ l ∈ L, W0.length <= l.j
 old : ∀ i, i < W0.length -> W[i]? = W0[i]?
 le : W0.length <= W.length
section
variable {W0 W W2 : Wl} {q p r m : Nat} {L L2 : List Ln} {ks : List (Str × Nat)} {f : Wd} {V : Str -> List za6} {row : List za6}
theorem zc5 {W : Wl} {i : Nat} {o : OD} (h : W[i]? = some o) : i < W.length := (ay3.mp h).1
theorem LB.step (h : LB W0 W q p r m L ks f V row) {d : za6} (a : ze5 W2 q L2) (b : ze9 L2) (c : zi8 (m + 1) L2) (s : Step L d L2) (fr : Frame W q L W2) (nj : NewJ W.length L L2) : LB W0 W2 q p r (m + 1) L2 ks (zd1 f d) V row := by
 have gp : W2[p]? = W[p]? := fr.2 p (zc5 h.lf.at_) h.pq fun l hl => (h.lj l hl).1;have gr : W2[r]? = W[r]? := fr.2 r (zc5 h.rw_) h.rq fun l hl => (h.lj l hl).2.1;have gk : ∀ e ∈ ks, W2[e.2]? = W[e.2]? := fun e he => fr.2 e.2 (zc5 (h.lf.obj e he)) (h.kq e he).1 fun l hl => (h.lj l hl).2.2 e he;refine ⟨a, b, c, s.words h.fs, h.lf.frame gp gk, gr.trans h.rw_, h.pq, h.rq, h.rp, h.kq, fun l hl => ?_, h.hq, h.hp, h.hr, h.hk, fun l hl => ?_, fun i hi => ?_, dy9 h.le fr.1⟩
 ·rcases nj l hl with ⟨l0, h0, h1⟩ | h1
  ·rw [<- h1]; exact h.lj l0 h0
  ·have h2 := zc5 h.lf.at_;have h3 := zc5 h.rw_;exact ⟨by omega, by omega, fun e he => by have := zc5 (h.lf.obj e he); omega⟩
 ·rcases nj l hl with ⟨l0, h0, h1⟩ | h1
  ·rw [<- h1]; exact h.hj l0 h0
  ·exact dy9 h.le h1
 ·have hq := h.hq;exact (fr.2 i (by8 hi h.le) (by omega) fun l hl z => by have := h.hj l hl; omega).trans (h.old i hi)
theorem zD6 {W0 W : Wl} {i : Nat} {o : OD} (old : ∀ i, i < W0.length -> W[i]? = W0[i]?) (hi : W0.length <= i) : ∀ j, j < W0.length -> (W.set i o)[j]? = W0[j]? := fun j hj => by
 rw [cy3 (by omega)];exact old j hj
theorem LB.pop (h : LB W0 W q p r m L ks f V row) {e : Str × Nat} {d : za6} {vs : List za6} (he : e ∈ ks) (hv : V e.1 = d :: vs) : LB W0 (W.set e.2 (.lst (zb2 (vs.map dP)))) q p r m L ks f (zr2 V e.1 vs) row :=
 ⟨h.la.set (h.kq e he).1 (fun l hl => (h.lj l hl).2.2 e he) _, h.kn, h.sm, h.fs, h.lf.pop he hv, get_set h.rw_ (h.kq e he).2, h.pq, h.rq, h.rp, h.kq, h.lj, h.hq, h.hp, h.hr, h.hk, h.hj, zD6 h.old (h.hk e he), by rw [gy9]; exact h.le⟩
theorem LB.push (h : LB W0 W q p r m L ks f V row) (d : za6) : LB W0 (W.set r (.lst (zb2 (row.map dP) ++ [.d (dP d)]))) q p r m L ks f V (row ++ [d]) :=
 ⟨h.la.set h.rq (fun l hl => (h.lj l hl).2.1) _, h.kn, h.sm, h.fs, h.lf.frame (by rw [cy3 h.rp]) (fun e he => by rw [cy3 (fy4 (h.kq e he).2)]), by rw [zf1 h.rw_, fy3]; simp [zb2], h.pq, h.rq, h.rp, h.kq, h.lj, h.hq, h.hp, h.hr, h.hk, h.hj, zD6 h.old h.hr, by rw [gy9]; exact h.le⟩
theorem LB.app (h : LB W0 W q p r m L ks f V row) : ∃ U, W = W0 ++ U := ⟨W.drop W0.length, by
 refine py5 fun i => ?_
 by_cases hi : i < W0.length
 ·rw [ay8 hi];exact h.old i hi
 ·rw [cy9 (by omega), List.getElem?_drop]
  congr 1
  omega⟩
end
structure zd05 (K : ay5) (mg : Str -> Option Value) (fN fD fC fO fB fH : Addr) (dN dD dC dO dB dH : fy7) : Prop where
 name : Def K mg "is_name" zw4 fN dN ["thing"]
 deed : Def K mg "is_deed" zH9 fD dD ["thing"]
 can : Def K mg "can_be_done" sCan fC dC ["lines", "deed"]
 do_ : Def K mg "do_deed" sDo fO dO ["lines", "deed"]
 beh : Def K mg "lines_behind" zn9 fB dB ["row"]
 hand : Def K mg "hand_of" zl9 fH dH ["deed"]
def zd06 : RB := fun as W k => ∃ (v : Nat) (b R : List za6) (vw : List Str), as = [.d (rP b), .o v] /\ W[v]? = some (.dK ((vw.map fun x => (x, rP (viewOf x R))).map fun p => (.inr p.1, .d p.2))) /\ vw.Nodup /\ (∀ d ∈ b, d.Ok) /\ Goes b /\ goF (zg1 b) R /\ (∀ d ∈ R, d.Ok) /\ (∀ d ∈ R, handOf d ∈ vw) /\ b.length + R.length <= 900 /\ vw.length <= 16 /\
 ∀ out, Lst (zg1 b) (fun x => viewOf x R) out -> k (.d (rP out)) W
abbrev nLb : List Str := ["begun", "views", "lines", "left", "row", "deed"]
theorem scLb : zc1 nLb ["begun", "views"] (za0 zh1) := ⟨rfl, rfl, rfl, by decide +kernel, rfl, by decide +kernel, by decide +kernel⟩
theorem ndLb : nLb.Nodup := by decide +kernel
def cLb1 : Scope := match za8 zh1 with
 | [_, .Assign _ (.DictComp _ _ _ sc _) _, _, _, _] => sc
 | _ => zV8
def cLb2 : Scope := match za8 zh1 with
 | [_, _, _, .While _ [.Assign _ (.Call _ [.ListComp _ _ sc _] _ _) _, _, _, _] _ _, _] => sc
 | _ => zV8
theorem zf02 : zb4 nLb (za0 zh1) ["hand", "deeds"] [] [] cLb1 := ⟨rfl, by decide +kernel, by decide +kernel, by decide +kernel, rfl, by decide +kernel⟩
theorem zf03 : zb4 nLb (za0 zh1) ["deeds"] ["lines"] [2] cLb2 := ⟨rfl, by decide +kernel, by decide +kernel, by decide +kernel, rfl, by decide +kernel⟩
theorem ze11 : (["hand", "deeds"] : List Str).Nodup := by decide +kernel
theorem zf04 : (["deeds", "lines"] : List Str).Nodup := by decide +kernel
theorem zb94 {α : Type} (a : α) (l : List α) : atI (a :: l) 0 = some a := by simp [atI, ixN]
abbrev lsV (vw : List Str) (R : List za6) : Wl := vw.map fun x => OD.lst (zb2 ((viewOf x R).map dP))
theorem zR4 {vw : List Str} {i n : Nat} {x : Str} (h : vw[i]? = some x) : (vw.take (i + 1)).zipIdx n = (vw.take i).zipIdx n ++ [(x, n + i)] := by
 have hi : i < vw.length := (ay3.mp h).1;rw [ey8, h, List.zipIdx_append];simp [dy2, py7 (ky9 hi)]
theorem zj1 {vw : List Str} {n : Nat} {e : Str × Nat} (h : e ∈ vw.zipIdx n) : n <= e.2 /\ e.2 < n + vw.length /\ vw[e.2 - n]? = some e.1 := by
 obtain ⟨a, b⟩ := e;have := List.mem_zipIdx_iff_le_and_getElem?_sub.mp h;exact ⟨this.1, by have := (ay3.mp this.2).1; simp only; omega, this.2⟩
theorem four {Z ls : Wl} {a b : OD} : (∀ i, i < Z.length -> (Z ++ ls ++ [a] ++ [b])[i]? = Z[i]?) /\ (∀ i, i < ls.length -> (Z ++ ls ++ [a] ++ [b])[Z.length + i]? = ls[i]?) /\ (Z ++ ls ++ [a] ++ [b])[Z.length + ls.length]? = some a /\ (Z ++ ls ++ [a] ++ [b])[Z.length + ls.length + 1]? = some b := by
 have e : Z ++ ls ++ [a] ++ [b] = Z ++ (ls ++ ([a] ++ [b])) := by simp
 rw [e];refine ⟨fun i hi => ay8 hi, fun i hi => ?_, ?_, ?_⟩
 ·rw [cy9 (by omega), ty4, ay8 hi]
 ·rw [cy9 (by omega), ty4, cy9 (ay6 _), Nat.sub_self];rfl
 ·rw [Nat.add_assoc, cy9 (by omega), ty4, cy9 (by omega), ty4];rfl
theorem LB.start {W Z : Wl} {m : Nat} {f : Wd} {L : List Ln} {vw : List Str} {R : List za6} (h : zo1 W W.length m f Z L) (nd : vw.Nodup) (hok : ∀ d ∈ R, d.Ok) (hin : ∀ d ∈ R, handOf d ∈ vw) :
  LB W (Z ++ lsV vw R ++ [.dK ((vw.zipIdx Z.length).map fun e => (.inr e.1, El.o e.2))] ++ [.lst []]) W.length (Z.length + vw.length) (Z.length + vw.length + 1) m L (vw.zipIdx Z.length) f (fun x => viewOf x R) [] := by
 have hlq : W.length < Z.length := zc5 h.at_.at_;obtain ⟨f1, f2, f3, f4⟩ := @four Z (lsV vw R) (.dK ((vw.zipIdx Z.length).map fun e => (.inr e.1, El.o e.2))) (.lst []);have hls : (lsV vw R).length = vw.length := ay4 _;rw [hls] at f2 f3 f4;have hln : ∀ l ∈ L, l.j < Z.length := fun l hl => zc5 (h.at_.obj l hl);refine ⟨⟨(f1 _ hlq).trans h.at_.at_, fun e he => (f1 _ (hln e he)).trans (h.at_.obj e he), h.at_.nd, h.at_.nq⟩, h.ks, h.sm, h.fs, ⟨f3, fun e he => ?_, ?_, ?_, fun e he => ?_, fun x hx => ?_, fun x d hd => zJ0 hd, fun x d hd => hok d (zD5 hd)⟩, f4, by omega, by omega, by omega, fun e he => ?_, fun l hl => ?_, ay6 _, by omega, by omega, fun e he => ?_, h.js, fun i hi => ?_, ?_⟩
 ·obtain ⟨h1, h2, h3⟩ := zj1 he;have := f2 (e.2 - Z.length) (by omega);rw [show Z.length + (e.2 - Z.length) = e.2 by omega] at this;rw [this, by3, h3];rfl
 ·rw [ty5]; exact nd
 ·rw [List.zipIdx_map_snd]; exact List.nodup_range'
 ·obtain ⟨h1, h2, h3⟩ := zj1 he; omega
 ·rw [ty5] at hx;exact zj8 fun d hd z => hx (z ▸ hin d hd)
 ·obtain ⟨h1, h2, h3⟩ := zj1 he; omega
 ·have := hln l hl;exact ⟨by omega, by omega, fun e he => by obtain ⟨h1, _, _⟩ := zj1 he; omega⟩
 ·obtain ⟨h1, h2, h3⟩ := zj1 he; omega
 ·exact (f1 i (by omega)).trans (h.old i hi (by omega))
 ·simp only [cy1]; omega
section
variable {P : cy8} {w : World} {K : ay5} {mg : Str -> Option Value} {base : Heap} {kA : Addr}
set_option maxHeartbeats 1000000 in
theorem zb05 {f fN fD fC fO fB fH : Addr} {fd dN dD dC dO dB dH : fy7} (F : Fun K "least_behind" "least_behind" zh1 f fd) (T : TxtN K mg kA) (D : zd05 K mg fN fD fC fO fB fH dN dD dC dO dB dH) : zj9 P w K mg base CX0 4 f fd ["begun", "views"] (spB K zd06) := by
 have NC := @zc24 P w K mg base kA _ _ D.can.fn T;have NO := @zd98 P w K mg base kA _ _ D.do_.fn T;have NB := @zI2 P w K mg base kA _ _ _ _ _ _ _ _ _ _ D.beh.fn T D.name D.deed D.can D.do_;have NH := @zI4 P w K mg base _ _ D.hand.fn;refine zs5 F scLb (fun as W k hR => by obtain ⟨v, b, R, vw, e, _⟩ := hR; subst e; rfl) fun cdv A outer s H E hr F0 A0 as W k hcl hR => ?_;obtain ⟨v, b, R0, vw, e, hv, nd, hbo, hgb, hg0, hok, hin, hlen, hvl, hk⟩ := hR;subst e;have hvW := zc5 hv;refine za4 (zc4 (i := 2) ndLb rfl (Or.inr rfl) (za9 NB (hr.mono (by decide)) rfl D.beh.at_ D.beh.fn.kp D.beh.bd (za1 (bv 0 rfl ⟨b, rfl, hbo, by omega, hgb, fun U L0 hL0 _ => ?_⟩))));obtain ⟨Z, hZ⟩ : ∃ Z, Z = W ++ U := ⟨_, rfl⟩
 rw [<- hZ] at hL0 ⊢;have hWZ : W.length <= Z.length := by rw [hZ]; simp
 have hvZ : Z[v]? = some (.dK ((vw.map fun x => (x, rP (viewOf x R0))).map fun p => (.inr p.1, .d p.2))) := by rw [hZ, ay8 hvW]; exact hv
 refine za4 (za97 (j := v) (mb := W.length) hvZ (ay6 _) hvW hWZ fun ob => zb92 (i := 3) ndLb rfl (Or.inl rfl) rfl zf02 (bv 1 rfl ⟨v, ob, _, rfl, zf1 hvZ, fun i kvs W' => W' = Z.set v (.fK ob ((vw.map fun x => (x, rP (viewOf x R0))).map fun p => (.inr p.1, .d p.2))) ++ lsV (vw.take i) R0 /\ kvs = ((vw.take i).zipIdx Z.length).map fun e => (.inr e.1, El.o e.2), ⟨by simp, rfl⟩, ?_, ?_, ?_⟩))
 ·rintro i kvs W' hi ⟨rfl, rfl⟩;refine ⟨?_, ?_⟩
  ·rw [ay8 (by rw [gy9]; omega)];exact zf1 hvZ
  ·rw [ay4, List.length_zipIdx, dy2];exact ly7 (show _ <= 16 by omega) (by8 (show 16 < 17 by decide) (zb7 (by decide)))
 ·rintro i p kvs W' hp ⟨rfl, rfl⟩;rw [by3] at hp;obtain ⟨x, hx, rfl⟩ := gy4.mp hp;have hil := (ay3.mp hx).1;refine zc60 rfl (fun _ _ _ _ _ => .cons (i := 0) ze11 rfl (Or.inl rfl) (.cons (i := 1) ze11 rfl (Or.inl rfl) .nil)) (by decide) rfl fun cl C ex s H => ?_;refine bv 0 rfl ⟨x, rfl, fun cl C ex s H => zf4 rfl T.t.list_ za67 (za1 (bv 1 rfl (za22 ⟨?_, ?_⟩)))⟩
  ·rw [ey8, hx];simp [lsV]
  ·rw [zR2, zR4 hx, fy3]
   ·simp only [cy1, gy9, ay4, dy2, py7 (ky9 hil)];rfl
   ·intro p hp z;obtain ⟨e, he, rfl⟩ := cy4.mp hp;obtain ⟨h1, h2, h3⟩ := zj1 he;have z : e.1 = x := uy4 z;rw [z] at h3;have h4 := ay3.mp h3;obtain ⟨l4, e4⟩ := h4;rw [List.getElem_take] at e4;obtain ⟨l5, e5⟩ := ay3.mp hx;have := (jy9 nd).mp (e4.trans e5.symm);rw [dy2] at l4;omega
 ·rintro kvs W' ⟨rfl, rfl⟩;rw [ay4, gy7]
  have eZ : (Z.set v (.fK ob ((vw.map fun x => (x, rP (viewOf x R0))).map fun p => (.inr p.1, .d p.2))) ++ lsV vw R0 ++ [OD.dK ((vw.zipIdx Z.length).map fun e => (.inr e.1, El.o e.2))]).set v (.dK ((vw.map fun x => (x, rP (viewOf x R0))).map fun p => (.inr p.1, .d p.2))) = Z ++ lsV vw R0 ++ [OD.dK ((vw.zipIdx Z.length).map fun e => (.inr e.1, El.o e.2))] := by
   rw [iy0, wy1 _ _ (by rw [gy9]; omega), zt6 hvZ, iy0]
  refine ⟨?_, ?_⟩
  ·rw [iy0, ay8 (by rw [gy9]; omega)];exact zf1 hvZ
  rw [eZ];have e1 : (Z.set v (.fK ob ((vw.map fun x => (x, rP (viewOf x R0))).map fun p => (.inr p.1, .d p.2))) ++ lsV vw R0).length = Z.length + vw.length := by simp
  have e2 : (Z ++ lsV vw R0 ++ [OD.dK ((vw.zipIdx Z.length).map fun e => (.inr e.1, El.o e.2))]).length = Z.length + vw.length + 1 := by simp; omega
  rw [e1];refine za4 (zc4 (i := 4) ndLb rfl (Or.inl rfl) (zq4 (zj4 ⟨dy5 _, ?_⟩)));rw [e2];have st := LB.start hL0 nd hok hin;generalize Z ++ lsV vw R0 ++ [OD.dK ((vw.zipIdx Z.length).map fun e => (.inr e.1, El.o e.2))] ++ [OD.lst []] = W1 at st ⊢;obtain ⟨ks, hks⟩ : ∃ ks, ks = vw.zipIdx Z.length := ⟨_, rfl⟩
  have hkl : ks.length <= 16 := by rw [hks, List.length_zipIdx]; exact hvl
  rw [<- hks] at st;generalize hp : Z.length + vw.length = p at st ⊢;generalize hrr : p + 1 = r at st ⊢;clear e1 e2 eZ;refine za4 (zb37 (fun S' W' => ∃ (dd : Option El) (L : List Ln) (row R : List za6) (f : Wd) (V : Str -> List za6), S' = [some (.d (rP b)), some (.o v), some (.o W.length), some (.o p), some (.o r), dd] /\ LB W W' W.length p r (b.length + row.length) L ks f V row /\ goF f R /\ (∀ x, viewOf x R = V x) /\ R.length + row.length = R0.length /\ ∀ out, Lst f V out -> Lst (zg1 b) (fun x => viewOf x R0) (row ++ out)) (fun _ W' => match W'[r]? with | some (.lst es) => R0.length + 1 - es.length | _ => 0) oy2 ⟨none, L0, [], R0, zg1 b, fun x => viewOf x R0, rfl, st, hg0, fun _ => rfl, by simp, fun out h => h⟩ ?_);rintro S' W' ⟨dd, L, row, R, f', V, rfl, lb, hg, hV, hRl, hL⟩;refine zj3 (za96 lb.lf.at_ fun o => zd03 rfl rfl T.t.any_ ze75 (bv 3 rfl ⟨p, o, _, ks.map fun e => !(V e.1).isEmpty, rfl, zf1 lb.lf.at_, ?_, zf1 lb.lf.at_, _, rfl, ?_⟩))
  ·have : ∀ l : List (Str × Nat), (∀ e ∈ l, e ∈ ks) -> Paired (fun (e : Key × El) (b : Bool) => ∃ i es, e.2 = .o i /\ (W'.set p (.fK o (ks.map fun e => (.inr e.1, El.o e.2))))[i]? = some (.lst es) /\ b = !es.isEmpty) (l.map fun e => (.inr e.1, El.o e.2)) (l.map fun e => !(V e.1).isEmpty) := by
    intro l
    induction l with
    | nil => intro _; exact .nil
    | cons e l ih =>
     intro hl;refine .cons ⟨e.2, _, rfl, get_set (lb.lf.obj e (hl e ay9)) (fy4 (lb.lf.np e (hl e ay9))), ?_⟩ (ih fun z hz => hl z (by0 _ hz));show (!(V e.1).isEmpty) = _;cases V e.1 <;> rfl
   exact this ks fun _ h => h
  rw [zt6 lb.lf.at_];cases hany : (ks.map fun e => !(V e.1).isEmpty).any id with
  | false =>
   refine zm5 ?_
   have hnil : ∀ x, V x = [] := fun x => by
    cases hx : V x with
    | nil => rfl
    | cons d vs =>
     obtain ⟨e, he, rfl⟩ := lb.lf.at hx;have := List.any_eq_false.mp hany (!(V e.1).isEmpty) (cy4.mpr ⟨e, he, rfl⟩);rw [hx] at this;exact absurd rfl this
   have hout := hL [] (.nil hnil);rw [ny5] at hout;obtain ⟨U', rfl⟩ := lb.app;exact zb0 (zh4 (zf4 rfl T.t.tuple_ zk5 (za1 (bv 4 rfl (zq6 (.inr ⟨_, rfl, lb.rw_⟩) ⟨_, W, U', rfl, rfl, rfl, hcl, hk row hout⟩)))))
  | true =>
   refine zo4 ?_
   have hRne : R ≠ [] := fun z => by
    subst z;obtain ⟨b', hb', hb2⟩ := wy6.mp hany;obtain ⟨e, he, rfl⟩ := cy4.mp hb';rw [<- hV e.1] at hb2;simp [viewOf] at hb2
   have hrl : row.length < R0.length := by
    have := List.length_pos_iff.mpr hRne;omega
   refine za4 (zc4 (i := 5) ndLb rfl (Or.inl rfl) (za96 lb.lf.at_ fun o => zc9 rfl T.t.min_ ze76 (za1 (zb90 rfl zf03 (zb88 (bv 3 rfl ⟨p, o, _, rfl, zf1 lb.lf.at_, ?_⟩))))));rw [ey9];refine zN3 _ (fun e => zg9 f' V e.1) (fun e => dP (hdV V e.1)) (zf1 lb.lf.at_) (zb7 (by omega)) ?_ ?_
   ·intro e he;have hob := get_set (o' := .fK o (ks.map fun e => (.inr e.1, El.o e.2))) (lb.lf.obj e he) (fy4 (lb.lf.np e he));refine zf0 (i := 0) zf04 rfl (by decide) (fun _ _ _ _ _ => Or.inl rfl) (fun _ _ _ _ _ => rfl) ?_;cases hve : V e.1 with
    | nil =>
     have hfr : zg9 f' V e.1 = false := by unfold zg9; rw [hve]; rfl
     rw [hve] at hob;refine ⟨fun cl C ex s H => BW.bt (zy0 (zc12 (bv 0 rfl ⟨.list [], .inr ⟨_, rfl, .inr ⟨_, rfl, hob⟩⟩, (by intro y h; cases h), ?_⟩))), fun h => ?_⟩
     ·exact zm5 ⟨hfr.symm, rfl⟩
     ·rw [hfr] at h; cases h
    | cons d vs =>
     have hhd : hdV V e.1 = d := by unfold hdV; rw [hve]; rfl
     have hfr : zg9 f' V e.1 = zm4 f' d := by unfold zg9; rw [hhd, hve]; rfl
     rw [hve] at hob;have hdok : d.Ok := lb.lf.ok e.1 d (by rw [hve]; exact ay9);refine ⟨fun cl C ex s H => BW.bt (zy0 (zc12 (bv 0 rfl ⟨.list ((d :: vs).map dP), .inr ⟨_, rfl, .inr ⟨_, rfl, hob⟩⟩, (by intro y h; cases h), ?_⟩))), fun h cl C ex s H => ?_⟩
     ·refine zo4 (zu7 (zj3 (za9 NC (hr.mono (by decide)) rfl D.can.at_ D.can.fn.kp D.can.bd (za2 (bv 1 rfl (za1 (zd4 (by intro _ _; rfl) (bv 0 rfl (za7 (zr9 (e := .d (dP d)) hob (zb94 _ _) ⟨W.length, d, L, rfl, hdok, lb.la.set lb.pq (fun l hl => (lb.lj l hl).1) _, lb.sm.sok, _, rfl, ?_, rfl⟩))))))))));rw [lb.fs, hfr];rfl
     ·refine zd4 (by intro _ _; rfl) (bv 0 rfl (za7 (zr9 (e := .d (dP d)) hob (zb94 _ _) ⟨?_, rfl⟩)));rw [hhd]
   ·have hne : ks.filter (fun e => zg9 f' V e.1) ≠ [] := by
     obtain ⟨d, vs, h1, h2⟩ := zI9 hg hV hRne;obtain ⟨e, he, hex⟩ := lb.lf.at h1;refine List.ne_nil_of_mem (a := e) (gy5.mpr ⟨he, ?_⟩);refine zh0.mpr ⟨vs, ?_, ?_⟩
     ·unfold hdV; rw [hex, h1]; rfl
     ·unfold hdV; rw [hex, h1]; exact h2
    refine zd00 rfl hr.units (m := 4) (fun e => zD8 (hdV V e.1)) (fun e => dP (hdV V e.1)) (fun a _ => rfl) (.inl rfl) (zb04 (·.1) lb.lf.hand ks lb.lf.nd) hne (fun _ _ => rfl) fun a ha hmin => ⟨zf1 lb.lf.at_, ?_⟩
    rw [zt6 lb.lf.at_];obtain ⟨ha1, ha2⟩ := gy5.mp ha;obtain ⟨vs, hva, hca⟩ := zh0.mp ha2;generalize hd : hdV V a.1 = d at hva hca hmin ⊢;have hhand : handOf d = a.1 := lb.lf.hand a.1 d (by rw [hva]; exact ay9);have hdok : d.Ok := lb.lf.ok a.1 d (by rw [hva]; exact ay9);refine za4 (ze3 (za9 NO (hr.mono (by decide)) rfl D.do_.at_ D.do_.fn.kp D.do_.bd (za2 (bv 2 rfl (za1 (bv 5 rfl ⟨W.length, d, L, b.length + row.length, rfl, hdok, lb.la, lb.kn, lb.sm, by omega, fun ht => by rw [lb.fs]; exact zc25 hca ht, fun W2 L2 a1 b1 c1 st1 fr nj => ?_⟩))))));have lb2 := lb.step a1 b1 c1 st1 fr nj;have hob2 : W2[a.2]? = some (.lst (.d (dP d) :: zb2 (vs.map dP))) := by rw [lb2.lf.obj a ha1, hva]; rfl
    refine za4 (ze3 (zm8 gy0 PySem.F.slot_list_pop PySem.F.type_list_pop (zd4 (by intro _ _; rfl) (bv 3 rfl (za9 NH (hr.mono (by decide)) rfl D.hand.at_ D.hand.fn.kp D.hand.bd (za1 (bv 5 rfl ⟨d, rfl, zd80 (e := .o a.2) hr.units lb2.lf.at_ ?_ ⟨.inl ⟨rfl, _, hob2⟩, za1 (za7 (zK3 hob2 ?_))⟩⟩)))))))
    ·rw [hhand]; exact zD3 (g := El.o) lb2.lf.nd ha1
    have lb3 := lb2.pop ha1 hva;refine zb0 (ze3 (zm8 gy0 iy1 iy2 (bv 4 rfl ⟨.inl ⟨rfl, _, lb3.rw_⟩, za1 (bv 5 rfl (zg6 lb3.rw_ ?_ ?_))⟩)))
    ·simp only [zb2, ay4];exact ly7 (show _ <= 900 by omega) (by8 (show 900 < 901 by decide) (zb7 (by decide)))
    have lb4 := lb3.push d;obtain ⟨R', g1, g2, g3⟩ := zI8 hg hV (by rw [hhand]; exact hva) hca;refine ⟨⟨_, L2, row ++ [d], R', zd1 f' d, zr2 V a.1 vs, rfl, ?_, g1, ?_, ?_, fun out ho => ?_⟩, ?_⟩
    ·rw [cy1, <- Nat.add_assoc]; exact lb4
    ·intro x; rw [g2, hhand]
    ·rw [cy1]; simp only [qy5]; omega
    ·have := hL (d :: out) (.cons (vs := vs) (by rw [hhand]; exact hva) hca ?_ (by rw [hhand]; exact ho))
     ·rw [iy0]; exact this
     ·intro x e es hx hce hne';obtain ⟨c, hc, rfl⟩ := lb.lf.at hx;have hhd : hdV V c.1 = e := by unfold hdV; rw [hx]; rfl
      have := hmin c (gy5.mpr ⟨hc, zh0.mpr ⟨es, by rw [hhd]; exact hx, by rw [hhd]; exact hce⟩⟩) (by rw [hhd]; exact fun z => hne' (zD4 z));rw [hhd] at this;exact this
    ·show (match (((W2.set a.2 _).set r _)[r]?) with | some (.lst es) => R0.length + 1 - es.length | _ => 0) < (match W'[r]? with | some (.lst es) => R0.length + 1 - es.length | _ => 0);rw [lb4.rw_, lb.rw_];simp only [zb2, ay4, cy1, qy5];omega
end
end K1
namespace L2
open PySem PySem.Spec PyProof.Rows
theorem zd07 {X : Bc} {W : Wl} {k : KB} {x : El} {ds : List PyData} (hx : zS6 W x ds) (h : k (.o W.length) (W ++ [.lst (zb2 ds)])) : CB X (.type "list") [x] W k := .of zr5 fun F A H Q vs r zs q => by
 obtain ⟨v, rfl, z⟩ := zg5 zs;obtain ⟨a, vs, rfl, hs, z⟩ := r.lst z hx;exact ⟨a, vs, rfl, .inl (.inl hs), fun l hl => q.zN9 r hl (o := .lst (zb2 ds)) ⟨_, rfl, zf3 z⟩ h⟩
end L2
namespace K1
open PySem L2
theorem zR5 {d : za6} {ds : List za6} (h : d ∈ ds) : handOf d ∈ zM8 ds := by
 unfold zM8;refine ty8.mpr ⟨d, h, ?_⟩;unfold handOf
 split <;> simp
section
variable {P : cy8} {w : World} {K : ay5} {mg : Str -> Option Value} {base : Heap} {kA : Addr}
def zd08 : RB := fun as W k => ∃ (hs : List Str) (ds : List za6), as = [.d (rP ds)] /\ zk8 hs ds /\ hs.length <= 8 /\ ds.length <= 400 /\ Goes ds /\ ∀ out, Lst (fun _ _ => []) (fun x => viewOf x ds) out -> k (.d (rP out)) W
theorem scLr : zc1 ["row"] ["row"] (za0 zf7) := ⟨rfl, rfl, rfl, by decide +kernel, rfl, by decide +kernel, by decide +kernel⟩
def cLr : Scope := match za8 zf7 with
 | [_, .Return (some (.Call _ [_, .DictComp _ _ _ sc _] _ _)) _] => sc
 | _ => zV8
theorem csLr : zb4 ["row"] (za0 zf7) ["hand"] ["row"] [0] cLr := ⟨rfl, by decide +kernel, by decide +kernel, by decide +kernel, rfl, by decide +kernel⟩
theorem ndLr : (["hand", "row"] : List Str).Nodup := by decide +kernel
set_option maxHeartbeats 1000000 in
theorem zb06 {f fN fD fC fO fB fH fS fV fL : Addr} {fd dN dD dC dO dB dH dS dV dL : fy7} (F : Fun K "least_row" "least_row" zf7 f fd) (T : TxtN K mg kA) (D : zd05 K mg fN fD fC fO fB fH dN dD dC dO dB dH) (DS : Def K mg "hands_of" zg0 fS dS ["row"]) (DV : Def K mg "view" zx8 fV dV nVi) (DL : Def K mg "least_behind" zh1 fL dL ["begun", "views"]) : zj9 P w K mg base CX0 5 f fd ["row"] (spB K zd08) := by
 have NB := @zI2 P w K mg base kA _ _ _ _ _ _ _ _ _ _ D.beh.fn T D.name D.deed D.can D.do_;have NS := @zW4 P w K mg base _ _ DS.fn T.t;have NV := @zc95 P w K mg base _ _ _ _ DV.fn T.t D.hand;have NL := zb05 (P := P) (w := w) (base := base) DL.fn T D;refine zs5 F scLr (fun as W k hR => by obtain ⟨hs, ds, e, _⟩ := hR; subst e; rfl) fun cdv A outer s H E hr F0 A0 as W k hcl hR => ?_;obtain ⟨hs, ds, e, hrow, hh, hl, hgo, hk⟩ := hR;subst e;obtain ⟨o1, o2⟩ := zp8 hrow hh;refine za4 (ze3 (za9 NB (hr.mono (by decide)) rfl D.beh.at_ D.beh.fn.kp D.beh.bd (za1 (bv 0 rfl ⟨ds, rfl, hrow.ok, by omega, hgo, fun U L0 hL0 _ => ?_⟩))));refine zb0 (zh4 (za9 NL (hr.mono (by decide)) rfl DL.at_ DL.fn.kp DL.bd (za2 (zo7 (zj4 ⟨[], rfl, dy5 _, za1 (zb83 rfl csLr (zv3 (za9 NS (hr.mono (by decide)) rfl DS.at_ DS.fn.kp DS.bd (za1 (bv 0 rfl ⟨hs, ds, rfl, hrow, hh, by omega, fun ss pm so => ⟨ss.map .str, rfl, ?_⟩⟩)))))⟩)))));have hsl : ss.length <= 8 := by rw [pm.length_eq]; exact o1
 have hsn : ss.Nodup := pm.nodup_iff.mpr (zp2 _);refine ⟨fun i kvs W' => W' = W ++ U /\ kvs = ((ss.take i).map fun x => (x, rP (viewOf x ds))).map fun p => (.inr p.1, .d p.2), ⟨rfl, rfl⟩, ?_, ?_, ?_⟩
 ·rintro i kvs W' hi ⟨rfl, rfl⟩;refine ⟨trivial, ?_⟩;rw [ay4, ay4, dy2];exact ly7 (show _ <= 8 by omega) (by8 (show 8 < 9 by decide) (zb7 (by decide)))
 ·rintro i z kvs W' hz ⟨rfl, rfl⟩;rw [by3] at hz;obtain ⟨x, hx, rfl⟩ := gy4.mp hz;refine zf0 (i := 0) ndLr rfl (by decide) (fun _ _ _ _ _ => Or.inl rfl) (fun _ _ _ _ _ => rfl) fun cl C ex s H => ?_;refine bv 0 rfl ⟨x, rfl, fun cl C ex s H => za9 NV (hr.mono (by decide)) rfl DV.at_ DV.fn.kp DV.bd (za2 (bv 1 rfl (za1 (bv 0 rfl ⟨x, ds, rfl, by omega, rfl, ?_⟩))))⟩;rw [zR2, ey8, hx]
  ·simp
  ·intro p hp z;obtain ⟨e, he, rfl⟩ := cy4.mp hp;obtain ⟨y, hy, rfl⟩ := cy4.mp he;have z : y = x := uy4 z;obtain ⟨j, hj, hyj⟩ := wy0.mp hy;rw [List.getElem_take] at hyj;obtain ⟨l5, e5⟩ := ay3.mp hx;have := (jy9 hsn).mp ((hyj.trans z).trans e5.symm);rw [dy2] at hj;omega
 ·rintro kvs W' ⟨rfl, rfl⟩;rw [ay4, gy7];refine ⟨(W ++ U).length, [], ds, ss, rfl, zc6, hsn, by simp, fun i d h => by simp at h, (zp9 ds).mp hgo, hrow.ok, fun d hd => pm.mem_iff.mpr (zg7.mpr (zR5 hd)), by simp; omega, by omega, fun out ho => ⟨_, W, U ++ [_], rfl, by rw [iy0], rfl, hcl, hk out ho⟩⟩
end
theorem ze12 {ds : List za6} (h : ∀ d ∈ ds, d.Ok) : Dat (.list (ds.map dP)) := by
 obtain ⟨h1, h2⟩ := za29 h;constructor
 ·simp [ry2, h1]
 ·simp only [PyData.depth];omega
theorem zD7 {ds : List za6} {d : za6} (h : Goes ds) : Goes (ds ++ [d]) ↔ zm4 (zg1 ds) d = true := by
 rw [zp9, za85];constructor
 ·rintro ⟨_, h2, _⟩; exact h2
 ·exact fun h2 => ⟨(zp9 ds).mp h, h2, trivial⟩
structure LL (W0 W : Wl) (p fo : Nat) (ks : List (Str × Nat)) (V : Str -> List za6) (found : List za6) : Prop where
 lf : zn1 W p ks V
 fo_ : W[fo]? = some (.lst (zb2 (found.map dP)))
 pf : p ≠ fo
 kf : ∀ e ∈ ks, e.2 ≠ fo
 hp : W0.length <= p
 hf : W0.length <= fo
 hk : ∀ e ∈ ks, W0.length <= e.2
 old : ∀ i, i < W0.length -> W[i]? = W0[i]?
 le : W0.length <= W.length
section
variable {W0 W W' : Wl} {p fo : Nat} {ks : List (Str × Nat)} {V : Str -> List za6} {found : List za6}
theorem LL.grow (h : LL W0 W p fo ks V found) (U : Wl) : LL W0 (W ++ U) p fo ks V found := by
 have g : ∀ {i : Nat}, i < W.length -> (W ++ U)[i]? = W[i]? := fun hi => ay8 hi;exact ⟨h.lf.frame (g (zc5 h.lf.at_)) fun e he => g (zc5 (h.lf.obj e he)), (g (zc5 h.fo_)).trans h.fo_, h.pf, h.kf, h.hp, h.hf, h.hk, fun i hi => (g (by8 hi h.le)).trans (h.old i hi), dy9 h.le (by simp)⟩
theorem LL.pop (h : LL W0 W p fo ks V found) {e : Str × Nat} {d : za6} {vs : List za6} (he : e ∈ ks) (hv : V e.1 = d :: vs) : LL W0 (W.set e.2 (.lst (zb2 (vs.map dP)))) p fo ks (zr2 V e.1 vs) found :=
 ⟨h.lf.pop he hv, get_set h.fo_ (h.kf e he), h.pf, h.kf, h.hp, h.hf, h.hk, zD6 h.old (h.hk e he), by rw [gy9]; exact h.le⟩
theorem LL.push (h : LL W0 W p fo ks V found) (d : za6) : LL W0 (W.set fo (.lst (zb2 (found.map dP) ++ [.d (dP d)]))) p fo ks V (found ++ [d]) :=
 ⟨h.lf.frame (by rw [cy3 (fy4 h.pf)]) (fun e he => by rw [cy3 (fy4 (h.kf e he))]), by rw [zf1 h.fo_, fy3]; simp [zb2], h.pf, h.kf, h.hp, h.hf, h.hk, zD6 h.old h.hf, by rw [gy9]; exact h.le⟩
theorem LL.app (h : LL W0 W p fo ks V found) : ∃ U, W = W0 ++ U := ⟨W.drop W0.length, by
 refine py5 fun i => ?_
 by_cases hi : i < W0.length
 ·rw [ay8 hi];exact h.old i hi
 ·rw [cy9 (by omega), List.getElem?_drop]
  congr 1
  omega⟩
theorem LL.start {W : Wl} {b R : List za6} {vw : List Str} {o : OD} (nd : vw.Nodup) (hok : ∀ d ∈ R, d.Ok) (hin : ∀ d ∈ R, handOf d ∈ vw) :
  LL W (W ++ [.lst (zb2 (b.map dP))] ++ lsV vw R ++ [o] ++ [.dK ((vw.zipIdx (W.length + 1)).map fun e => (.inr e.1, El.o e.2))]) (W.length + 1 + vw.length + 1) W.length (vw.zipIdx (W.length + 1)) (fun x => viewOf x R) b := by
 obtain ⟨f1, f2, f3, f4⟩ := @four (W ++ [.lst (zb2 (b.map dP))]) (lsV vw R) o (.dK ((vw.zipIdx (W.length + 1)).map fun e => (.inr e.1, El.o e.2)));have hls : (lsV vw R).length = vw.length := ay4 _;have hz : (W ++ [OD.lst (zb2 (b.map dP))]).length = W.length + 1 := by simp
 rw [hls, hz] at f2 f4;rw [hz] at f1;refine ⟨⟨f4, fun e he => ?_, ?_, ?_, fun e he => ?_, fun x hx => ?_, fun x d hd => zJ0 hd, fun x d hd => hok d (zD5 hd)⟩, (f1 _ (by omega)).trans zc6, by omega, fun e he => ?_, by omega, ay6 _, fun e he => ?_, fun i hi => ?_, ?_⟩
 ·obtain ⟨h1, h2, h3⟩ := zj1 he;have := f2 (e.2 - (W.length + 1)) (by omega);rw [show W.length + 1 + (e.2 - (W.length + 1)) = e.2 by omega] at this;rw [this, by3, h3];rfl
 ·rw [ty5]; exact nd
 ·rw [List.zipIdx_map_snd]; exact List.nodup_range'
 ·obtain ⟨h1, h2, h3⟩ := zj1 he; omega
 ·rw [ty5] at hx;exact zj8 fun d hd z => hx (z ▸ hin d hd)
 ·obtain ⟨h1, h2, h3⟩ := zj1 he; omega
 ·obtain ⟨h1, h2, h3⟩ := zj1 he; omega
 ·exact (f1 i (by omega)).trans (ay8 hi)
 ·simp only [cy1]; omega
end
theorem zN4 {α : Type} {l L' : List α} {key : α -> List Str} (pm : L'.Perm l) (pw : L'.Pairwise fun a b => ltL (key a) (key b) = true) (hne : l ≠ []) : ∃ a L'', L' = a :: L'' /\ a ∈ l /\ ∀ c ∈ l, key c ≠ key a -> ltL (key a) (key c) = true := by
 cases L' with
 | nil => exact absurd pm.symm.eq_nil hne
 | cons a L'' =>
  refine ⟨a, L'', rfl, pm.mem_iff.mp ay9, fun c hc hk => ?_⟩;rcases by7.mp (pm.mem_iff.mpr hc) with e | h
  ·exact absurd (by rw [e]) hk
  ·exact (List.pairwise_cons.mp pw).1 c h
structure ze13 (K : ay5) (mg : Str -> Option Value) (gH gV gA gC : Addr) (eH eV eA eC : fy7) : Prop where
 hand : Def K mg "_law_hand" zp5 gH eH ["_law_deed"]
 view : Def K mg "_law_view" zp6 gV eV nVl
 allh : Def K mg "_law_all_hands" zw7 gA eA ["_law_row_here"]
 can : Def K mg "_law_can" zC6 gC eC ["_law_row_here"]
section
variable {P : cy8} {w : World} {K : ay5} {mg : Str -> Option Value} {base : Heap} {kA : Addr}
def zd09 : RB := fun as W k => ∃ (hs : List Str) (b R : List za6), as = [.d (.list (b.map dP)), .d (rP R)] /\ zk8 hs R /\ hs.length <= 8 /\ b.length + R.length <= 400 /\ (∀ d ∈ b, d.Ok) /\ Goes b /\ goF (zg1 b) R /\ ∀ out, Lst (zg1 b) (fun x => viewOf x R) out -> k (.d (rP out)) W
abbrev pLl : List Str := ["_law_ahead", "_law_row_here"]
abbrev nLl : List Str := ["_law_ahead", "_law_row_here", "_law_found", "_law_todo", "_law_k", "_law_free", "_law_hand_here", "_law_best"]
theorem scLl : zc1 nLl pLl (za0 zk4) := ⟨rfl, rfl, rfl, by decide +kernel, rfl, by decide +kernel, by decide +kernel⟩
theorem ndLl : nLl.Nodup := by decide +kernel
def cLl : Scope := match za8 zk4 with
 | [_, .Assign _ (.Call _ [.ListComp _ _ sc _] _ _) _, _, _] => sc
 | _ => zV8
theorem csLl : zb4 nLl (za0 zk4) ["_law_hand_here"] ["_law_row_here"] [1] cLl := ⟨rfl, by decide +kernel, by decide +kernel, by decide +kernel, rfl, by decide +kernel⟩
theorem zf05 : (["_law_hand_here", "_law_row_here"] : List Str).Nodup := by decide +kernel
set_option maxHeartbeats 2000000 in
theorem zb07 {f gH gV gA gC : Addr} {fd eH eV eA eC : fy7} (F : Fun K "_law_least" "_law_least" zk4 f fd) (T : Txt mg) (D : ze13 K mg gH gV gA gC eH eV eA eC) : zj9 P w K mg base CX0 3 f fd pLl (spB K zd09) := by
 have NH := @zD0 P w K mg base _ _ D.hand.fn T;have NV := @zb77 P w K mg base _ _ _ _ D.view.fn T D.hand;have NA := @zc97 P w K mg base _ _ D.allh.fn T;have NC := @za80 P w K mg base _ _ D.can.fn T;refine zs5 F scLl (fun as W k hR => by obtain ⟨hs, b, R, e, _⟩ := hR; subst e; rfl) fun cdv A outer s H E hr F0 A0 as W k hcl hR => ?_;obtain ⟨hs, b, R0, e, hrow, hh, hlen, hbo, hgb, hg0, hk⟩ := hR;subst e;obtain ⟨o1, o2⟩ := zp8 hrow hh;refine za4 (zc4 (i := 2) ndLl rfl (Or.inl rfl) (zf4 rfl T.list_ za67 (za1 (bv 0 rfl (zd07 (.inl rfl) ?_)))));refine za4 (zc4 (i := 3) ndLl rfl (Or.inl rfl) (zf4 rfl T.dict_ zd84 (za1 (zb91 rfl csLl (zA5 (za9 NA (hr.mono (by decide)) rfl D.allh.at_ D.allh.fn.kp D.allh.bd (za1 (bv 1 rfl ⟨hs, R0, rfl, hrow, hh, by omega, fun ss pm so => ⟨ss.map .str, rfl, ?_⟩⟩))))))));have hsl : ss.length <= 8 := by rw [pm.length_eq]; exact o1
 have hsn : ss.Nodup := pm.nodup_iff.mpr (zp2 _);have hin : ∀ d ∈ R0, handOf d ∈ ss := fun d hd => pm.mem_iff.mpr (zg7.mpr (zR5 hd));refine ⟨fun i ys W' => W' = W ++ [.lst (zb2 (b.map dP))] ++ lsV (ss.take i) R0 /\ ys = (((ss.take i).zipIdx (W.length + 1)).map fun e => (e.1, (.inr e.2 : Sum PyData Nat))).map fun p => El.t [.inl (.str p.1), p.2], ⟨by simp, rfl⟩, ?_, ?_, ?_⟩
 ·rintro i ys W' hi ⟨rfl, rfl⟩;refine ⟨trivial, ?_⟩;rw [ay4, ay4, List.length_zipIdx, dy2];exact zb7 (by omega)
 ·rintro i z ys W' hz ⟨rfl, rfl⟩;rw [by3] at hz;obtain ⟨x, hx, rfl⟩ := gy4.mp hz;have hil := (ay3.mp hx).1;refine zf0 (i := 0) zf05 rfl (by decide) (fun _ _ _ _ _ => Or.inl rfl) (fun _ _ _ _ _ => rfl) (za23 (zo4 fun cl C ex s H => ?_));refine zc70 (za2 (bv 0 rfl (za1 (zf4 rfl T.list_ za67 (za1 (za9 NV (hr.mono (by decide)) rfl D.view.at_ D.view.fn.kp D.view.bd (za2 (bv 1 rfl (za1 (bv 0 rfl ⟨x, R0, rfl, by omega, za22 ⟨[.inl (.str x), .inr (W.length + 1 + i)], ?_, (by show 2 <= by2; decide), ?_, ?_⟩⟩))))))))))
  ·show [El.d (.str x), El.o (xy6 _)] = [El.d (.str x), El.o (W.length + 1 + i)];simp [py7 (ky9 hil), Nat.add_assoc];omega
  ·rw [ey8, hx];simp [lsV]
  ·rw [zR4 hx];simp
 ·rintro ys W' ⟨rfl, rfl⟩;rw [ay4, gy7];have eK : ((ss.zipIdx (W.length + 1)).map fun e => (e.1, (.inr e.2 : Sum PyData Nat))).map (fun p => ((.inr p.1 : Key), ofT p.2)) = (ss.zipIdx (W.length + 1)).map fun e => (.inr e.1, El.o e.2) := by rw [ey9]; rfl
  refine zb93 rfl zc6 ?_ ?_
  ·rw [ey9];show ((ss.zipIdx (W.length + 1)).map Prod.fst).Nodup;rw [ty5];exact hsn
  rw [eK];have st := LL.start (W := W) (b := b) (o := .lst ((((ss.zipIdx (W.length + 1)).map fun e => (e.1, (.inr e.2 : Sum PyData Nat))).map fun p => El.t [.inl (.str p.1), p.2]))) hsn hrow.ok hin;have ep : (W ++ [OD.lst (zb2 (b.map dP))] ++ lsV ss R0 ++ [OD.lst ((((ss.zipIdx (W.length + 1)).map fun e => (e.1, (.inr e.2 : Sum PyData Nat))).map fun p => El.t [.inl (.str p.1), p.2]))]).length = W.length + 1 + ss.length + 1 := by simp; omega
  rw [ep];generalize W ++ [OD.lst (zb2 (b.map dP))] ++ lsV ss R0 ++ [OD.lst ((((ss.zipIdx (W.length + 1)).map fun e => (e.1, (.inr e.2 : Sum PyData Nat))).map fun p => El.t [.inl (.str p.1), p.2]))] ++ [OD.dK ((ss.zipIdx (W.length + 1)).map fun e => (.inr e.1, El.o e.2))] = W1 at st ⊢;obtain ⟨ks, hks⟩ : ∃ ks, ks = ss.zipIdx (W.length + 1) := ⟨_, rfl⟩
  have hkl : ks.length <= 8 := by rw [hks, List.length_zipIdx]; exact hsl
  rw [<- hks] at st;generalize W.length + 1 + ss.length + 1 = p at st ⊢;clear ep eK;refine za4 (zv4 oy2 rfl (zo9 rfl T.range_ (zc9 rfl T.len_ zw8 (za1 (bv 1 rfl (zA2 ⟨_, rfl, by omega, by rw [ay4]; omega, W.length, fun i S' W' => ∃ (o4 o5 o6 o7 : Option El) (V : Str -> List za6) (out R : List za6), S' = [some (.d (.list (b.map dP))), some (.d (rP R0)), some (.o W.length), some (.o p), o4, o5, o6, o7] /\ LL W W' p W.length ks V (b ++ out) /\ goF (zg1 (b ++ out)) R /\ (∀ x, viewOf x R = V x) /\ R.length + out.length = R0.length /\ out.length = i /\ Goes (b ++ out) /\ (∀ d ∈ out, d.Ok) /\ ∀ o, Lst (zg1 (b ++ out)) V o -> Lst (zg1 b) (fun x => viewOf x R0) (out ++ o), ay6 _, dy5 _, st.le, ⟨none, none, none, none, fun x => viewOf x R0, [], R0, rfl, by rw [ny5]; exact st, by rw [ny5]; exact hg0, fun _ => rfl, by simp, rfl, by rw [ny5]; exact hgb, by simp, fun o h => by rw [ny5] at h; exact h⟩, fun _ _ _ _ _ => trivial, ?_, ?_⟩))))))
  ·rintro i z S' W' hz ⟨o4, o5, o6, o7, V, out, R, rfl, ll, hg, hV, hRl, hol, hgo, hoo, hL⟩
   have hi : i < R0.length := by
    have := (ay3.mp hz).1;simpa [zl3] using this
   have hRne : R ≠ [] := fun z => by rw [z] at hRl; simp at hRl; omega
   have hzi : ∃ c : Int, z = .int c := by
    have := cy5 hz;obtain ⟨j, _, rfl⟩ := cy4.mp this;exact ⟨_, rfl⟩
   obtain ⟨c0, rfl⟩ := hzi;refine zn3 (i := 4) ndLl rfl (Or.inl rfl) ?_;refine za4 (zc4 (i := 5) ndLl rfl (Or.inl rfl) (zq4 (zj4 ⟨dy5 _, ?_⟩)));have ll1 := ll.grow [.lst []];have hpW := zc5 ll.lf.at_;obtain ⟨f', hf'⟩ : ∃ f', f' = zg1 (b ++ out) := ⟨_, rfl⟩
   rw [<- hf'] at hg hL;obtain ⟨kvs, hkvs⟩ : ∃ kvs : List (Key × El), kvs = ks.map fun e => (.inr e.1, El.o e.2) := ⟨_, rfl⟩
   have hkm : ((ks.map fun e => (e.1, El.o e.2)).map fun p => ((.inr p.1 : Key), p.2)) = kvs := by rw [ey9, hkvs]; rfl
   have hat : W'[p]? = some (.dK kvs) := by rw [hkvs]; exact ll.lf.at_
   have gl : ∀ {o : Obj} {u : OD}, (W'.set p (.fK o kvs) ++ [u])[p]? = some (.fK o kvs) := fun {o u} => by
    rw [ay8 (by rw [gy9]; exact hpW)];exact zf1 hat
   have gd : ∀ {o : Obj} {u : OD} {i : Nat} {v : OD}, W'[i]? = some v -> i ≠ p -> (W'.set p (.fK o kvs) ++ [u])[i]? = some v := fun {o u i v} h hne => by
    rw [ay8 (by rw [gy9]; exact zc5 h)];exact get_set h (fy4 hne)
   have hsetA : ∀ (u v : OD), (W' ++ [u]).set p v = W'.set p v ++ [u] := fun u v => wy1 _ _ hpW
   have hlast : ∀ {o : Obj} {u : OD}, (W'.set p (.fK o kvs) ++ [u])[W'.length]? = some u := fun {o u} => by
    have := zc6 (W := W'.set p (.fK o kvs)) (a := u);rw [gy9] at this;exact this
   refine za4 (za97 (j := p) (mb := (W' ++ [OD.lst []]).length) (kvs := kvs) (by rw [hkvs]; exact ll1.lf.at_) ll1.le (zc5 ll1.lf.at_) (ay6 _) fun o => zv4 oy2 rfl (zf00 (bv 3 rfl ⟨p, o, ks.map fun e => (e.1, El.o e.2), rfl, by rw [hkm, hsetA]; exact gl, (W' ++ [OD.lst []]).length, fun j S2 W2 => ∃ (o6 : Option El), S2 = [some (.d (.list (b.map dP))), some (.d (rP R0)), some (.o W.length), some (.o p), some (.d (.int c0)), some (.o W'.length), o6, o7] /\ W2 = W'.set p (.fK o kvs) ++ [.lst (zb2 (((ks.take j).filter fun e => zg9 f' V e.1).map fun e => dP (hdV V e.1)))], ay6 _, zc5 ll1.lf.at_, by rw [gy9]; exact ay6 _, ⟨o6, rfl, by rw [hsetA]; rfl⟩, ?_, ?_, ?_⟩)))
   ·rintro j S2 W2 _ ⟨o6', rfl, rfl⟩;rw [hkm]; exact gl
   ·rintro j z S2 W2 hz2 ⟨o6', rfl, rfl⟩;rw [ey9, by3] at hz2;obtain ⟨e, hej, rfl⟩ := gy4.mp hz2;have he := cy5 hej;have hjl := (ay3.mp hej).1;show BG _ _ _ _ (.d (.str e.1)) _;refine zn3 (i := 6) ndLl rfl (Or.inl rfl) ?_;have hvk : zX4 kvs (.inr e.1) = some (.o e.2) := by rw [hkvs]; exact zD3 (g := El.o) ll.lf.nd he
    have hstep : ∀ q : Bool, q = zg9 f' V e.1 -> ((ks.take (j + 1)).filter fun e => zg9 f' V e.1).map (fun e => dP (hdV V e.1)) = ((ks.take j).filter fun e => zg9 f' V e.1).map (fun e => dP (hdV V e.1)) ++ (if q = true then [dP (hdV V e.1)] else []) := fun q hq => by
     rw [ey8, hej, qy6, fy3, hq]
     by_cases hc : zg9 f' V e.1 = true
     ·simp [hc]
     ·simp [hc]
    generalize hfl : ((ks.take j).filter fun e => zg9 f' V e.1).map (fun e => dP (hdV V e.1)) = fl at hstep ⊢
    have hfll : fl.length <= 8 := by
     rw [<- hfl, ay4];have := ny6 (fun e => zg9 f' V e.1) (ks.take j);rw [dy2] at this;omega
    have hob := gd (o := o) (u := .lst (zb2 fl)) (ll.lf.obj e he) (ll.lf.np e he);have hfo := gd (o := o) (u := .lst (zb2 fl)) ll.fo_ (fy4 ll.pf);refine zb0 (zl2 (BW.bt (zy0 (zd5 rfl (zd4 (by intro _ _; rfl) (bv 3 rfl (bv 6 rfl (zd04 hr.units gl hvk (zf9 (zj4 ⟨[], rfl, dy5 _, zS7 hr.units (d := .list ((V e.1).map dP)) (e := .list []) (.inr ⟨_, rfl, .inr ⟨_, rfl, hob⟩⟩) (.inl rfl) (ze12 fun d hd => ll.lf.ok e.1 d hd) (ze12 (ds := []) (by simp)) ⟨_, rfl, ?_⟩⟩))))))))));cases hve : V e.1 with
    | nil =>
     have hfr : zg9 f' V e.1 = false := by unfold zg9; rw [hve]; rfl
     refine zm5 (zm5 (zj5 ⟨_, rfl, ?_⟩));rw [hstep false hfr.symm];simp
    | cons d vs =>
     have hhd : hdV V e.1 = d := by unfold hdV; rw [hve]; rfl
     have hfr : zg9 f' V e.1 = zm4 f' d := by unfold zg9; rw [hhd, hve]; rfl
     rw [hve] at hob;have hdok : d.Ok := ll.lf.ok e.1 d (by rw [hve]; exact ay9);refine zo4 (zu7 (zj3 (za9 NC (hr.mono (by decide)) rfl D.can.at_ D.can.fn.kp D.can.bd (za1 (zg4 (bv 2 rfl (ze1 (zd4 (by intro _ _; rfl) (bv 3 rfl (bv 6 rfl (zd04 hr.units gl hvk (zi0 (zd8 (za7 ⟨1, rfl, za13 hob (zv1 (.inr ⟨_, rfl, hfo⟩) (.inl rfl) ?_ ⟨_, b ++ out ++ [d], rfl, .inr ?_, ?_, ?_, fun cc hcc => ⟨cc, rfl, ?_⟩⟩)⟩))))))))))))))
     ·rw [show zm7 ((d :: vs).map dP) none (some 1) = ((d :: vs).map dP).take 1 from zp0 _ 1];simp only [ay4, cy1, dy2, oy4];exact zb7 (by omega)
     ·rw [show zm7 ((d :: vs).map dP) none (some 1) = ((d :: vs).map dP).take 1 from zp0 _ 1];simp
     ·intro x hx;rcases ey0.mp hx with hx | hx
      ·rcases ey0.mp hx with hx | hx
       ·exact hbo x hx
       ·exact hoo x hx
      ·cases ey7.mp hx; exact hdok
     ·simp only [cy1, qy5]; omega
     ·have hcf : cc = zm4 f' d := by
       rw [zD7 hgo, <- hf'] at hcc;cases cc <;> cases hq : zm4 f' d <;> simp_all
      cases cc with
      | false =>
       refine zm5 (zj5 ⟨_, rfl, ?_⟩);rw [hstep false (by rw [hfr, <- hcf])];simp
      | true =>
       refine zo4 (zb0 (ze3 (zm8 gy0 iy1 iy2 (bv 5 rfl ⟨.inl ⟨rfl, _, hlast⟩, za1 (zd4 (by intro _ _; rfl) (zd4 (by intro _ _; rfl) (bv 3 rfl (bv 6 rfl (zd04 hr.units gl hvk (za7 (zr9 (e := .d (dP d)) hob (zb94 _ _) (zg6 hlast ?_ ?_))))))))⟩))))
       ·simp only [zb2, ay4];exact ly7 hfll (by8 (show 8 < 9 by decide) (zb7 (by decide)))
       ·refine ⟨_, rfl, ?_⟩;rw [hstep true (by rw [hfr, <- hcf]), hhd];rw [show W'.length = (W'.set p (.fK o kvs)).length by rw [gy9], zt4];simp [zb2]
   ·rintro S2 W2 ⟨o6', rfl, rfl⟩;rw [ay4, ay4, gy7];refine ⟨gl, ?_⟩;rw [wy1 _ _ (by rw [gy9]; exact hpW), zt6 hat]
    have hne : ks.filter (fun e => zg9 f' V e.1) ≠ [] := by
     obtain ⟨d, vs, h1, h2⟩ := zI9 hg hV hRne;obtain ⟨e, he, hex⟩ := ll.lf.at h1;refine List.ne_nil_of_mem (a := e) (gy5.mpr ⟨he, zh0.mpr ⟨vs, ?_, ?_⟩⟩)
     ·unfold hdV; rw [hex, h1]; rfl
     ·unfold hdV; rw [hex, h1]; exact h2
    have hfl8 := ny6 (fun e => zg9 f' V e.1) ks;refine za4 (zc4 (i := 7) ndLl rfl (Or.inl rfl) (zd4 (by intro _ _; rfl) (zc9 rfl T.sorted_ zt3 (za1 (bv 5 rfl (zW8 (L := ks.filter fun e => zg9 f' V e.1) (m := 4) (fun e => zD8 (hdV V e.1)) (fun e => dP (hdV V e.1)) (fun a _ => rfl) (.inr ⟨_, rfl, zc6⟩) (zb04 (·.1) ll.lf.hand ks ll.lf.nd) (by omega) (by decide) (fun _ _ => rfl) fun L' pm' pw => ?_))))));obtain ⟨a, L'', rfl, ha, hmin⟩ := zN4 (key := fun e : Str × Nat => zD8 (hdV V e.1)) pm' pw hne;refine za7 (zr9 (e := .d (dP (hdV V a.1))) zc6 (zb94 _ _) ?_);obtain ⟨ha1, ha2⟩ := gy5.mp ha;obtain ⟨vs, hva, hca⟩ := zh0.mp ha2;have ll2 := (ll.grow [.lst (zb2 ((ks.filter fun e => zg9 f' V e.1).map fun e => dP (hdV V e.1)))]).grow [.lst (zb2 ((a :: L'').map fun e => dP (hdV V e.1)))];generalize W' ++ [OD.lst (zb2 ((ks.filter fun e => zg9 f' V e.1).map fun e => dP (hdV V e.1)))] ++ [OD.lst (zb2 ((a :: L'').map fun e => dP (hdV V e.1)))] = W2 at ll2 ⊢;generalize hd : hdV V a.1 = d at hva hca hmin ⊢;have hhand : handOf d = a.1 := ll.lf.hand a.1 d (by rw [hva]; exact ay9);have hdok : d.Ok := ll.lf.ok a.1 d (by rw [hva]; exact ay9);have hob2 : W2[a.2]? = some (.lst (.d (dP d) :: zb2 (vs.map dP))) := by rw [ll2.lf.obj a ha1, hva]; rfl
    refine za4 (ze3 (zm8 gy0 PySem.F.slot_list_pop PySem.F.type_list_pop (zd4 (by intro _ _; rfl) (bv 3 rfl (za9 NH (hr.mono (by decide)) rfl D.hand.at_ D.hand.fn.kp D.hand.bd (za1 (bv 7 rfl ⟨d, rfl, zd80 (e := .o a.2) hr.units ll2.lf.at_ ?_ ⟨.inl ⟨rfl, _, hob2⟩, za1 (za7 (zK3 hob2 ?_))⟩⟩)))))))
    ·rw [hhand]; exact zD3 (g := El.o) ll2.lf.nd ha1
    have ll3 := ll2.pop ha1 hva;refine zb0 (ze3 (zm8 gy0 iy1 iy2 (bv 2 rfl ⟨.inl ⟨rfl, _, ll3.fo_⟩, za1 (bv 7 rfl (zg6 ll3.fo_ ?_ ?_))⟩)))
    ·simp only [zb2, ay4, cy1];exact ly7 (show _ <= 900 by omega) (by8 (show 900 < 901 by decide) (zb7 (by decide)))
    have ll4 := ll3.push d;obtain ⟨R', g1, g2, g3⟩ := zI8 hg hV (by rw [hhand]; exact hva) hca;have erun : zg1 (b ++ (out ++ [d])) = zd1 f' d := by rw [<- iy0, hf']; unfold zg1; rw [List.foldl_append]; rfl
    refine ⟨_, _, _, _, zr2 V a.1 vs, out ++ [d], R', rfl, ?_, ?_, ?_, ?_, ?_, ?_, ?_, fun o ho => ?_⟩
    ·rw [<- iy0]; exact ll4
    ·rw [erun]; exact g1
    ·intro x; rw [g2, hhand]
    ·rw [cy1]; simp only [qy5]; omega
    ·rw [cy1, hol]; rfl
    ·rw [<- iy0]; exact zx0 hgo (by rw [<- hf']; exact hca)
    ·intro x hx;rcases ey0.mp hx with hx | hx
     ·exact hoo x hx
     ·cases ey7.mp hx; exact hdok
    ·rw [erun] at ho;have := hL (d :: o) (.cons (vs := vs) (by rw [hhand]; exact hva) hca ?_ (by rw [hhand]; exact ho))
     ·rw [iy0]; exact this
     ·intro x e es hx hce hne';obtain ⟨c, hc, rfl⟩ := ll.lf.at hx;have hhd : hdV V c.1 = e := by unfold hdV; rw [hx]; rfl
      have := hmin c (gy5.mpr ⟨hc, zh0.mpr ⟨es, by rw [hhd]; exact hx, by rw [hhd]; exact hce⟩⟩) (by rw [hhd]; exact fun z => hne' (zD4 z));rw [hhd] at this;exact this
  ·rintro S' W' ⟨o4, o5, o6, o7, V, out, R, rfl, ll, hg, hV, hRl, hol, hgo, hoo, hL⟩;have hol' : out.length = R0.length := by rw [hol]; simp [zl3]
   have hR : R = [] := ty2.mp (by omega);subst hR;have hout := hL [] (.nil fun x => by rw [<- hV]; rfl);rw [ny5] at hout;have hfo := ll.fo_;obtain ⟨U', rfl⟩ := ll.app;refine zb0 (zh4 (zf4 rfl T.tuple_ zk5 (za1 (ze1 (bv 2 rfl (zd8 (zc9 rfl T.len_ zw8 (za1 (bv 0 rfl (zq5 (.inl rfl) ⟨_, rfl, zi0 (za13 hfo (zq6 (.inl rfl) ⟨_, W, U', rfl, rfl, rfl, hcl, ?_⟩))⟩))))))))));rw [ay4, zt1, fy3, List.drop_left' (by rw [ay4])];exact hk out hout
end
structure PkW (W : Wl) (q : Nat) (Wk : Wl) : Prop where
 form : ∃ n V, Wk = W ++ wl n :: V /\ 0 <= n
 at_ : ze8 Wk q
 lt : W.length < q
theorem PkW.pack {W Wk : Wl} {q : Nat} (h : PkW W q Wk) : ze8 Wk W.length := by
 obtain ⟨n, V, rfl, h0⟩ := h.form;exact ⟨n, by simp, h0⟩
theorem PkW.p {W Wk W' : Wl} {q : Nat} (h : PkW W q Wk) (pw : zf8 Wk W.length W') : PkW W q W' := by
 obtain ⟨m, hm, hm0⟩ := h.at_;refine ⟨?_, ⟨m, by rw [pw.get (by have := h.lt; omega)]; exact hm, hm0⟩, h.lt⟩;obtain ⟨n, V, rfl, h0⟩ := h.form;obtain ⟨n', rfl, h0'⟩ := pw;exact ⟨n', V, by simp, h0'⟩
theorem PkW.q {W Wk W' : Wl} {q : Nat} (h : PkW W q Wk) (pw : zf8 Wk q W') : PkW W q W' := by
 refine ⟨?_, pw.at h.at_.lt, h.lt⟩;have hlt := h.lt;obtain ⟨n, V, rfl, h0⟩ := h.form;obtain ⟨n', rfl, h0'⟩ := pw;refine ⟨n, V.set (q - W.length - 1) (wl n'), ?_, h0⟩;rw [List.set_append_right _ _ (by omega)];obtain ⟨j, hj⟩ : ∃ j, q - W.length = j + 1 := ⟨q - W.length - 1, by omega⟩
 rw [hj];rfl
def tbQ : List Str := ["q", "qq", "r"]
theorem ze14 : ∀ tb ∈ tblH, (tb ++ tbQ).Nodup := by decide +kernel
theorem ze15 : tbQ.all isNm = true := by decide +kernel
theorem zo0.more {hs : List Str} (h : zo0 hs) (c : Nat) : zb67 (hs ++ tbQ.take c) := by
 have hn := h.names;have h5 := h.le;obtain ⟨tb, ht, m, hm, rfl⟩ := h;refine ⟨fun x hx => ?_, (ze14 tb ht).sublist ((ry9 _ _).append (ry9 _ _)), ?_, ?_⟩
 ·rcases ey0.mp hx with hx | hx
  ·exact hn.nm x hx
  ·exact List.all_eq_true.mp ze15 x (my2 hx)
 ·have := hn.two;rw [cy1]; omega
 ·rw [cy1];have : (tbQ.take c).length <= 3 := by rw [dy2]; exact Nat.min_le_right _ _
  omega
theorem Lst.row {hs : List Str} {f : Wd} {ds out : List za6} (h : Lst f (fun x => viewOf x ds) out) (hr : zk8 hs ds) : zk8 hs out /\ out.length = ds.length := by
 have hm : ∀ d, d ∈ out -> d ∈ ds := fun d hd => by
  have h1 : d ∈ viewOf (handOf d) out := gy5.mpr ⟨hd, by simp⟩;rw [h.goes.2] at h1;exact zD5 h1
 refine ⟨⟨fun d hd => hr.ok d (hm d hd), fun d hd => hr.x d (hm d hd), fun d hd => hr.y d (hm d hd)⟩, ?_⟩
 have : ∀ (n : Nat) (a b : List za6), a.length = n -> (∀ x, viewOf x a = viewOf x b) -> a.length = b.length := by
  intro n
  induction n with
  | zero =>
   intro a b ha hv;have : a = [] := ty2.mp ha;subst this;rw [zb81 (R := b) fun x => (hv x).symm]
  | succ n ih =>
   intro a b ha hv;cases a with
   | nil => simp at ha
   | cons d a =>
    obtain ⟨B, C, rfl, hB⟩ := zD1 (R := b) (d := d) (vs := viewOf (handOf d) a) (by rw [<- hv, zi3, if_pos rfl]);have := za87 hB fun x => (hv x).symm;have := ih a (B ++ C) (by simpa using ha) fun x => (this x).symm;simp at this ⊢;omega
 exact this _ out ds rfl h.goes.2
section
variable {P : cy8} {w : World} {K : ay5} {mg : Str -> Option Value} {base : Heap} {kA : Addr}
def rLaw : RB := fun as W k => ∃ ns : List Int, as = [.s ns] /\ ns.length <= 63 /\ (∀ m ∈ ns, bits m <= 2 ^ 20) /\ ∀ V, k (.d (.bool true)) (W ++ V)
def zb08 (K : ay5) : Sp := spB K rLaw
theorem zb09 {H : Hp} {a : Addr} {ns : List Int} (hl : ns.length <= 63) (hb : ∀ m ∈ ns, hy0 m <= 2 ^ 20) (hS : SqL K H a (ns.map V.int)) : zb08 K [.ref a] H (fun v _ => v = .bl true) fun _ _ _ => False :=
 ⟨H, [], [], [.s ns], fun e _ => e = .d (.bool true), ⟨.refl _, rfl, List.nodup_nil, fun a h => by simp at h, fun k a o h => by simp at h⟩, .cons ⟨a, rfl, hS⟩ .nil, ⟨ns, rfl, hl, hb, fun _ => rfl⟩, fun F' A' W' H' e v _ _ z h => by subst h; exact Rq.zz9 z⟩
abbrev nLa : List Str := ["_law_script", "_law_pack_here", "_law_hands_here", "_law_k", "_law_digits", "_law_row_here", "_law_other", "_law_due", "_law_found"]
theorem scLa : zc1 nLa ["_law_script"] (za0 sLaw) := ⟨rfl, rfl, rfl, by decide +kernel, rfl, by decide +kernel, by decide +kernel⟩
theorem ndLa : nLa.Nodup := by decide +kernel
structure zf06 (K : ay5) (mg : Str -> Option Value) (fN fD fC fO fB fH fS fV fL : Addr) (dN dD dC dO dB dH dS dV dL : fy7) : Prop where
 b : zd05 K mg fN fD fC fO fB fH dN dD dC dO dB dH
 s : Def K mg "hands_of" zg0 fS dS ["row"]
 v : Def K mg "view" zx8 fV dV nVi
 l : Def K mg "least_behind" zh1 fL dL ["begun", "views"]
structure zf07 (K : ay5) (mg : Str -> Option Value) (hM hP hH hR hS hL hG : Addr) (cM cP cH cR cS cL cG : fy7) : Prop where
 mixed : Def K mg "_law_mixed" zs3 hM cM ["_law_cell"]
 pack : Def K mg "_law_pack" zM1 hP cP pPa
 hands : Def K mg "_law_hands" zw6 hH cH ["_law_pack_here"]
 row : Def K mg "_law_row" sRow hR cR pRo
 shuf : Def K mg "_law_shuffled" zM3 hS cS pSf
 least : Def K mg "_law_least" zk4 hL cL pLl
 leastR : Def K mg "least_row" zf7 hG cG ["row"]
set_option maxHeartbeats 1000000 in
theorem ze16 {f fN fD fC fO fB fH fS fV fL gH gV gA gC iR iS iT iD hM hP hH hR hS hL hG : Addr} {fd dN dD dC dO dB dH dS dV dL eH eV eA eC jR jS jT jD cM cP cH cR cS cL cG : fy7} (F : Fun K "law" "law" sLaw f fd) (T : TxtN K mg kA) (D : zf06 K mg fN fD fC fO fB fH fS fV fL dN dD dC dO dB dH dS dV dL) (E' : ze13 K mg gH gV gA gC eH eV eA eC) (DP : ze01 K mg iR iS iT iD jR jS jT jD) (DZ : zf07 K mg hM hP hH hR hS hL hG cM cP cH cR cS cL cG) : zj9 P w K mg base CX0 6 f fd ["_law_script"] (zb08 K) := by
 have NP := @zc81 P w K mg base _ _ _ _ DZ.pack.fn DZ.mixed;have NH := @zb68 P w K mg base _ _ _ _ DZ.hands.fn T.t DP.take;have N := @zr0 P w K mg base _ _ DP.take.fn T.t;have NR := ze02 (P := P) (w := w) (base := base) DZ.row.fn T.t DP;have NS := zc98 (P := P) (w := w) (base := base) DZ.shuf.fn T.t DP.take E'.hand E'.can;have NL := zb07 (P := P) (w := w) (base := base) DZ.least.fn T.t E';have NG := zb06 (P := P) (w := w) (base := base) DZ.leastR.fn T D.b D.s D.v D.l;have NC := @za81 P w K mg base _ _ E'.can.fn T.t;refine zs5 F scLa (fun as W k hR => by obtain ⟨ns, e, _⟩ := hR; subst e; rfl) fun cdv A outer s H E hr F0 A0 as W k hcl hR => ?_;obtain ⟨ns, e, hns, hbt, hk⟩ := hR;subst e;refine za4 (zc4 (i := 1) ndLa rfl (Or.inl rfl) (za9 NP (hr.mono (by decide)) rfl DZ.pack.at_ DZ.pack.fn.kp DZ.pack.bd (za2 (bv 0 rfl (za1 (za7 ⟨ns, 0, rfl, hbt, hns, fun n0 hn0 => ?_⟩))))));refine za4 (zc4 (i := 2) ndLa rfl (Or.inl rfl) (za9 NH (hr.mono (by decide)) rfl DZ.hands.at_ DZ.hands.fn.kp DZ.hands.bd (za1 (bv 1 rfl ⟨W.length, rfl, ze8.last hn0, fun hs W1 hho pw1 => ?_⟩))));obtain ⟨n1, rfl, hn1⟩ := pw1.last;refine za4 (zv4 oy2 rfl (zo9 rfl T.t.range_ (za7 ⟨10, rfl, by decide, by decide, W.length, fun i S' W' => ∃ (n : Int) (V : Wl) (o3 o4 o5 o6 o7 o8 : Option El), 0 <= n /\ W' = W ++ wl n :: V /\ S' = [some (.s ns), some (.o W.length), some (.d (.list (hs.map .str))), o3, o4, o5, o6, o7, o8], ay6 _, dy5 _, by simp, ⟨n1, [], none, none, none, none, none, none, hn1, rfl, rfl⟩, fun _ _ _ _ _ => trivial, ?_, ?_⟩)))
 ·rintro i z S' W' hz ⟨n, V, o3, o4, o5, o6, o7, o8, hn, rfl, rfl⟩
  have hzi : ∃ c : Int, z = .int c := by
   have := cy5 hz;obtain ⟨j, _, rfl⟩ := cy4.mp this;exact ⟨_, rfl⟩
  obtain ⟨c, rfl⟩ := hzi;refine zn3 (i := 3) ndLa rfl (Or.inl rfl) ?_;refine za4 (zc4 (i := 4) ndLa rfl (Or.inl rfl) (za9 NP (hr.mono (by decide)) rfl DZ.pack.at_ DZ.pack.fn.kp DZ.pack.bd (za2 (bv 0 rfl (za1 (zg4 (za7 (zg4 (za7 (bv 3 rfl (za15 (.inl ⟨by decide, by decide⟩) (zv0 ⟨ns, _, rfl, hbt, hns, fun m hm => ?_⟩))))))))))));obtain ⟨q, hq⟩ : ∃ q, q = (W ++ wl n :: V).length := ⟨_, rfl⟩
  have k1 : PkW W q (W ++ wl n :: V ++ [wl m]) := ⟨⟨n, V ++ [wl m], by simp, hn⟩, by rw [hq]; exact ze8.last hm, by rw [hq]; simp⟩
  rw [<- hq]
  obtain ⟨c3, hc3⟩ : ∃ c3 : Nat, (3 : Int) * (c % 2) = c3 := by
   rcases Int.emod_two_eq c with h | h <;> rw [h]
   ·exact ⟨0, rfl⟩
   ·exact ⟨3, rfl⟩
  have hh := hho.more c3;have hh8 := hh.le;refine za4 (zc4 (i := 5) ndLa rfl (Or.inl rfl) (za9 NR (hr.mono (by decide)) rfl DZ.row.at_ DZ.row.fn.kp DZ.row.bd (za2 (bv 4 rfl (za2 (zg4 (bv 2 rfl (ze1 (zf9 (za2 (zc2 (za2 (zc2 (za1 (zc2 ⟨tbQ.map .str, rfl, (by show 3 <= by2; decide), zi0 (zd8 (zg4 (za7 (zg4 (bv 3 rfl (za7 (zc05 (by decide) (za15 (.inl ⟨by decide, by decide⟩) ⟨_, rfl, zy1 (zv1 (.inl rfl) (.inl rfl) ?_ ?_)⟩))))))))⟩)))))))))))))))
  ·rw [hc3, zp0];simp only [ay4, dy2];have := hho.le;exact zb7 (by omega)
  rw [hc3, zp0, <- vy7, <- fy3];generalize hs ++ tbQ.take c3 = hs' at hh hh8 ⊢;refine za2 (za9 N (hr.mono (by decide)) rfl DP.take.at_ DP.take.fn.kp DP.take.bd (za2 (bv 1 rfl (za1 (za7 ⟨W.length, 17, rfl, k1.pack, by decide, by decide, fun r W2 r0 r1 pw2 => ?_⟩)))));obtain ⟨y, rfl⟩ : ∃ n : Nat, r = n := ⟨r.toNat, by omega⟩
  have k2 := k1.p pw2;refine za1 (zu6 ⟨q, y, hs', false, rfl, k2.at_, hh, by omega, fun ds W3 pw3 hrow hgo hlen => ?_⟩);have k3 := k2.q pw3;refine za4 (zc4 (i := 6) ndLa rfl (Or.inl rfl) (za9 NS (hr.mono (by decide)) rfl DZ.shuf.at_ DZ.shuf.fn.kp DZ.shuf.bd (za2 (bv 4 rfl (za2 (bv 5 rfl (za1 (za7 ⟨q, 30, hs', ds, rfl, k3.at_, hrow, hgo, by omega, by decide, fun es W5 Sm pw5 => ?_⟩))))))));have k5 := k3.q pw5;have hel := Sm.len;refine za4 (zc4 (i := 7) ndLa rfl (Or.inl rfl) (za9 NL (hr.mono (by decide)) rfl DZ.least.at_ DZ.least.fn.kp DZ.least.bd (za2 (zf9 (zj4 ⟨[], rfl, dy5 _, za1 (bv 5 rfl ⟨hs', [], ds, rfl, hrow, hh8, by simp; omega, by simp, fun i d h => by simp at h, (zp9 ds).mp hgo, fun du hdu => ?_⟩)⟩)))));have hdu : Lst (fun _ _ => []) (fun x => viewOf x ds) du := hdu;obtain ⟨drow, dlen⟩ := hdu.row hrow;have dgo : Goes du := (zp9 du).mpr hdu.goes.1;refine za4 (zc4 (i := 8) ndLa rfl (Or.inl rfl) (za9 NG (hr.mono (by decide)) rfl DZ.leastR.at_ DZ.leastR.fn.kp DZ.leastR.bd (za1 (bv 5 rfl ⟨hs', ds, rfl, hrow, hh8, by omega, hgo, fun o1 ho1 => ?_⟩))));obtain rfl := ho1.uniq hdu;have same : (!py4 (rP o1) (rP o1)) = false := by rw [ze63]; simp
  refine za4 (zl2 (BW.bt (zA0 (zo6 (zj3 (zl1 rfl T.t.isi za66 rfl T.t.tuple_ zk5 (by simp) (bv 8 rfl ⟨_, .inl rfl, _, rfl, zm5 (zA0 (zd5 rfl (bv 8 rfl (bv 7 rfl (zS7 hr.units (.inl rfl) (.inl rfl) (zT3 drow.ok) (zT3 drow.ok) ⟨_, rfl, ?_⟩)))))⟩)))))));rw [same];refine zm5 (zA0 (zd5 rfl (za9 NG (hr.mono (by decide)) rfl DZ.leastR.at_ DZ.leastR.fn.kp DZ.leastR.bd (za1 (bv 6 rfl ⟨hs', es, rfl, Sm.row, hh8, by omega, Sm.go, fun o2 ho2 => ?_⟩)))));have ev : (fun x => viewOf x es) = fun x => viewOf x ds := funext Sm.view;rw [ev] at ho2;obtain rfl := ho2.uniq hdu;refine bv 7 rfl (zS7 hr.units (.inl rfl) (.inl rfl) (zT3 drow.ok) (zT3 drow.ok) ⟨_, rfl, ?_⟩);rw [same];refine zm5 (zu8 (zd5 rfl (za9 NG (hr.mono (by decide)) rfl DZ.leastR.at_ DZ.leastR.fn.kp DZ.leastR.bd (za1 (bv 7 rfl ⟨hs', o2, rfl, drow, hh8, by omega, dgo, fun o3' ho3 => ?_⟩)))));have ev2 : (fun x => viewOf x o2) = fun x => viewOf x ds := funext hdu.goes.2;rw [ev2] at ho3;obtain rfl := ho3.uniq hdu;refine bv 7 rfl (zS7 hr.units (.inl rfl) (.inl rfl) (zT3 drow.ok) (zT3 drow.ok) ⟨_, rfl, ?_⟩);rw [same];refine zm5 (zj5 (zb0 (zl2 (zo6 (zj3 (za9 NC (hr.mono (by decide)) rfl E'.can.at_ E'.can.fn.kp E'.can.bd (za1 (bv 8 rfl ⟨_, rfl, drow.ok, by omega, fun g hg => ⟨_, rfl, ?_⟩⟩))))))));obtain rfl : g = true := hg.mpr dgo;refine zm5 (zj5 ?_);obtain ⟨n6, V6, e6, h6⟩ := k5.form;exact ⟨n6, V6, _, _, _, _, _, _, h6, e6, rfl⟩
 ·rintro S' W' ⟨n, V, o3, o4, o5, o6, o7, o8, hn, rfl, rfl⟩;exact zb0 (ze7 (zu6 (hk _)))
end
theorem us1 {α : Type} {us : List α} (h : us.length = 1) : ∃ a, us = [a] := List.length_eq_one_iff.mp h
theorem us2 {α : Type} {us : List α} (h : us.length = 2) : ∃ a b, us = [a, b] := by
 cases us with
 | nil => simp at h
 | cons a us => obtain ⟨b, rfl⟩ := us1 (us := us) (by simpa using h); exact ⟨a, b, rfl⟩
theorem us3 {α : Type} {us : List α} (h : us.length = 3) : ∃ a b c, us = [a, b, c] := by
 cases us with
 | nil => simp at h
 | cons a us => obtain ⟨b, c, rfl⟩ := us2 (us := us) (by simpa using h); exact ⟨a, b, c, rfl⟩
theorem us4 {α : Type} {us : List α} (h : us.length = 4) : ∃ a b c d, us = [a, b, c, d] := by
 cases us with
 | nil => simp at h
 | cons a us => obtain ⟨b, c, d, rfl⟩ := us3 (us := us) (by simpa using h); exact ⟨a, b, c, d, rfl⟩
theorem all_mk {l : PySem.W.OpenLaw} {w : World} {K : ay5} {h : Heap} {mg : Str -> Option Value} {fa : Addr} {kdA : Addr} {odJ : Option Addr} {slJ : Array (Option Value)} {tl tn t1 t2 : Tok} {nK : Nat} (X : K.In h) (G : h.Ns cy2 mg) (hfa : mg "law" = some (.ref fa))
  {fN fD fO fC fF fB fS fV fG fL fX1 fP fR fH fX2 fX3 fX4 fQ fX5 fX6 fX7 fX8 fX9 fY1 fZ : Addr} {odN anN odD anD odO anO odC anC odF anF odB anB odS anS odV anV odG anG odL anL odX1 anX1 odP anP odR anR odH anH odX2 anX2 odX3 anX3 odX4 anX4 odQ anQ odX5 anX5 odX6 anX6 odX7 anX7 odX8 anX8 odX9 anX9 odY1 anY1 odZ anZ : Option Addr} {slN slD slO slC slF slB slS slV slG slL slX1 slP slR slH slX2 slX3 slX4 slQ slX5 slX6 slX7 slX8 slX9 slY1 slZ : Array (Option Value)} {ocN kVN dcN pmN cdN ctN ocD kVD dcD pmD cdD ctD ocO kVO dcO pmO cdO ctO ocC kVC dcC pmC cdC ctC ocF kVF dcF pmF cdF ctF ocB kVB dcB pmB cdB ctB ocS kVS dcS pmS cdS ctS ocV kVV dcV pmV cdV ctV ocG kVG dcG pmG cdG ctG ocL kVL dcL pmL cdL ctL ocX1 kVX1 dcX1 pmX1 cdX1 ctX1 ocP kVP dcP pmP cdP ctP ocR kVR dcR pmR cdR ctR ocH kVH dcH pmH cdH ctH ocX2 kVX2 dcX2 pmX2 cdX2 ctX2 ocX3 kVX3 dcX3 pmX3 cdX3 ctX3 ocX4 kVX4 dcX4 pmX4 cdX4 ctX4 ocQ kVQ dcQ pmQ cdQ ctQ ocX5 kVX5 dcX5 pmX5 cdX5 ctX5 ocX6 kVX6 dcX6 pmX6 cdX6 ctX6 ocX7 kVX7 dcX7 pmX7 cdX7 ctX7 ocX8 kVX8 dcX8 pmX8 cdX8 ctX8 ocX9 kVX9 dcX9 pmX9 cdX9 ctX9 ocY1 kVY1 dcY1 pmY1 cdY1 ctY1 ocZ kVZ dcZ pmZ cdZ ctZ : Value}
  (aN : cy6 K cy2 "is_name" = some (some (.ref fN))) (lN : K.lookup fN = some ⟨ocN, odN, .func (ey2 "is_name" "is_name" (zb9 zw4) (za8 zw4) (za0 zw4) .none kVN dcN pmN anN cdN ctN), slN⟩) (cN : dy7 K cdN "is_name" = true) (kN : dy6 K (.ref fN) = true)
  (aD : cy6 K cy2 "is_deed" = some (some (.ref fD))) (lD : K.lookup fD = some ⟨ocD, odD, .func (ey2 "is_deed" "is_deed" (zb9 zH9) (za8 zH9) (za0 zH9) .none kVD dcD pmD anD cdD ctD), slD⟩) (cD : dy7 K cdD "is_deed" = true) (kD : dy6 K (.ref fD) = true)
  (aO : cy6 K cy2 "hand_of" = some (some (.ref fO))) (lO : K.lookup fO = some ⟨ocO, odO, .func (ey2 "hand_of" "hand_of" (zb9 zl9) (za8 zl9) (za0 zl9) .none kVO dcO pmO anO cdO ctO), slO⟩) (cO : dy7 K cdO "hand_of" = true) (kO : dy6 K (.ref fO) = true)
  (aC : cy6 K cy2 "can_be_done" = some (some (.ref fC))) (lC : K.lookup fC = some ⟨ocC, odC, .func (ey2 "can_be_done" "can_be_done" (zb9 sCan) (za8 sCan) (za0 sCan) .none kVC dcC pmC anC cdC ctC), slC⟩) (cC : dy7 K cdC "can_be_done" = true) (kC : dy6 K (.ref fC) = true)
  (aF : cy6 K cy2 "do_deed" = some (some (.ref fF))) (lF : K.lookup fF = some ⟨ocF, odF, .func (ey2 "do_deed" "do_deed" (zb9 sDo) (za8 sDo) (za0 sDo) .none kVF dcF pmF anF cdF ctF), slF⟩) (cF : dy7 K cdF "do_deed" = true) (kF : dy6 K (.ref fF) = true)
  (aB : cy6 K cy2 "lines_behind" = some (some (.ref fB))) (lB : K.lookup fB = some ⟨ocB, odB, .func (ey2 "lines_behind" "lines_behind" (zb9 zn9) (za8 zn9) (za0 zn9) .none kVB dcB pmB anB cdB ctB), slB⟩) (cB : dy7 K cdB "lines_behind" = true) (kB : dy6 K (.ref fB) = true)
  (aS : cy6 K cy2 "hands_of" = some (some (.ref fS))) (lS : K.lookup fS = some ⟨ocS, odS, .func (ey2 "hands_of" "hands_of" (zb9 zg0) (za8 zg0) (za0 zg0) .none kVS dcS pmS anS cdS ctS), slS⟩) (cS : dy7 K cdS "hands_of" = true) (kS : dy6 K (.ref fS) = true)
  (aV : cy6 K cy2 "view" = some (some (.ref fV))) (lV : K.lookup fV = some ⟨ocV, odV, .func (ey2 "view" "view" (zb9 zx8) (za8 zx8) (za0 zx8) .none kVV dcV pmV anV cdV ctV), slV⟩) (cV : dy7 K cdV "view" = true) (kV : dy6 K (.ref fV) = true)
  (aG : cy6 K cy2 "least_row" = some (some (.ref fG))) (lG : K.lookup fG = some ⟨ocG, odG, .func (ey2 "least_row" "least_row" (zb9 zf7) (za8 zf7) (za0 zf7) .none kVG dcG pmG anG cdG ctG), slG⟩) (cG : dy7 K cdG "least_row" = true) (kG : dy6 K (.ref fG) = true)
  (aL : cy6 K cy2 "least_behind" = some (some (.ref fL))) (lL : K.lookup fL = some ⟨ocL, odL, .func (ey2 "least_behind" "least_behind" (zb9 zh1) (za8 zh1) (za0 zh1) .none kVL dcL pmL anL cdL ctL), slL⟩) (cL : dy7 K cdL "least_behind" = true) (kL : dy6 K (.ref fL) = true)
  (aX1 : cy6 K cy2 "_law_mixed" = some (some (.ref fX1))) (lX1 : K.lookup fX1 = some ⟨ocX1, odX1, .func (ey2 "_law_mixed" "_law_mixed" (zb9 zs3) (za8 zs3) (za0 zs3) .none kVX1 dcX1 pmX1 anX1 cdX1 ctX1), slX1⟩) (cX1 : dy7 K cdX1 "_law_mixed" = true) (kX1 : dy6 K (.ref fX1) = true)
  (aP : cy6 K cy2 "_law_pack" = some (some (.ref fP))) (lP : K.lookup fP = some ⟨ocP, odP, .func (ey2 "_law_pack" "_law_pack" (zb9 zM1) (za8 zM1) (za0 zM1) .none kVP dcP pmP anP cdP ctP), slP⟩) (cP : dy7 K cdP "_law_pack" = true) (kP : dy6 K (.ref fP) = true)
  (aR : cy6 K cy2 "_law_take" = some (some (.ref fR))) (lR : K.lookup fR = some ⟨ocR, odR, .func (ey2 "_law_take" "_law_take" (zb9 zw5) (za8 zw5) (za0 zw5) .none kVR dcR pmR anR cdR ctR), slR⟩) (cR : dy7 K cdR "_law_take" = true) (kR : dy6 K (.ref fR) = true)
  (aH : cy6 K cy2 "_law_hands" = some (some (.ref fH))) (lH : K.lookup fH = some ⟨ocH, odH, .func (ey2 "_law_hands" "_law_hands" (zb9 zw6) (za8 zw6) (za0 zw6) .none kVH dcH pmH anH cdH ctH), slH⟩) (cH : dy7 K cdH "_law_hands" = true) (kH : dy6 K (.ref fH) = true)
  (aX2 : cy6 K cy2 "_law_sending" = some (some (.ref fX2))) (lX2 : K.lookup fX2 = some ⟨ocX2, odX2, .func (ey2 "_law_sending" "_law_sending" (zb9 zh6) (za8 zh6) (za0 zh6) .none kVX2 dcX2 pmX2 anX2 cdX2 ctX2), slX2⟩) (cX2 : dy7 K cdX2 "_law_sending" = true) (kX2 : dy6 K (.ref fX2) = true)
  (aX3 : cy6 K cy2 "_law_taking" = some (some (.ref fX3))) (lX3 : K.lookup fX3 = some ⟨ocX3, odX3, .func (ey2 "_law_taking" "_law_taking" (zb9 zk3) (za8 zk3) (za0 zk3) .none kVX3 dcX3 pmX3 anX3 cdX3 ctX3), slX3⟩) (cX3 : dy7 K cdX3 "_law_taking" = true) (kX3 : dy6 K (.ref fX3) = true)
  (aX4 : cy6 K cy2 "_law_done" = some (some (.ref fX4))) (lX4 : K.lookup fX4 = some ⟨ocX4, odX4, .func (ey2 "_law_done" "_law_done" (zb9 zM2) (za8 zM2) (za0 zM2) .none kVX4 dcX4 pmX4 anX4 cdX4 ctX4), slX4⟩) (cX4 : dy7 K cdX4 "_law_done" = true) (kX4 : dy6 K (.ref fX4) = true)
  (aQ : cy6 K cy2 "_law_row" = some (some (.ref fQ))) (lQ : K.lookup fQ = some ⟨ocQ, odQ, .func (ey2 "_law_row" "_law_row" (zb9 sRow) (za8 sRow) (za0 sRow) .none kVQ dcQ pmQ anQ cdQ ctQ), slQ⟩) (cQ : dy7 K cdQ "_law_row" = true) (kQ : dy6 K (.ref fQ) = true)
  (aX5 : cy6 K cy2 "_law_hand" = some (some (.ref fX5))) (lX5 : K.lookup fX5 = some ⟨ocX5, odX5, .func (ey2 "_law_hand" "_law_hand" (zb9 zp5) (za8 zp5) (za0 zp5) .none kVX5 dcX5 pmX5 anX5 cdX5 ctX5), slX5⟩) (cX5 : dy7 K cdX5 "_law_hand" = true) (kX5 : dy6 K (.ref fX5) = true)
  (aX6 : cy6 K cy2 "_law_view" = some (some (.ref fX6))) (lX6 : K.lookup fX6 = some ⟨ocX6, odX6, .func (ey2 "_law_view" "_law_view" (zb9 zp6) (za8 zp6) (za0 zp6) .none kVX6 dcX6 pmX6 anX6 cdX6 ctX6), slX6⟩) (cX6 : dy7 K cdX6 "_law_view" = true) (kX6 : dy6 K (.ref fX6) = true)
  (aX7 : cy6 K cy2 "_law_all_hands" = some (some (.ref fX7))) (lX7 : K.lookup fX7 = some ⟨ocX7, odX7, .func (ey2 "_law_all_hands" "_law_all_hands" (zb9 zw7) (za8 zw7) (za0 zw7) .none kVX7 dcX7 pmX7 anX7 cdX7 ctX7), slX7⟩) (cX7 : dy7 K cdX7 "_law_all_hands" = true) (kX7 : dy6 K (.ref fX7) = true)
  (aX8 : cy6 K cy2 "_law_can" = some (some (.ref fX8))) (lX8 : K.lookup fX8 = some ⟨ocX8, odX8, .func (ey2 "_law_can" "_law_can" (zb9 zC6) (za8 zC6) (za0 zC6) .none kVX8 dcX8 pmX8 anX8 cdX8 ctX8), slX8⟩) (cX8 : dy7 K cdX8 "_law_can" = true) (kX8 : dy6 K (.ref fX8) = true)
  (aX9 : cy6 K cy2 "_law_shuffled" = some (some (.ref fX9))) (lX9 : K.lookup fX9 = some ⟨ocX9, odX9, .func (ey2 "_law_shuffled" "_law_shuffled" (zb9 zM3) (za8 zM3) (za0 zM3) .none kVX9 dcX9 pmX9 anX9 cdX9 ctX9), slX9⟩) (cX9 : dy7 K cdX9 "_law_shuffled" = true) (kX9 : dy6 K (.ref fX9) = true)
  (aY1 : cy6 K cy2 "_law_least" = some (some (.ref fY1))) (lY1 : K.lookup fY1 = some ⟨ocY1, odY1, .func (ey2 "_law_least" "_law_least" (zb9 zk4) (za8 zk4) (za0 zk4) .none kVY1 dcY1 pmY1 anY1 cdY1 ctY1), slY1⟩) (cY1 : dy7 K cdY1 "_law_least" = true) (kY1 : dy6 K (.ref fY1) = true)
  (aZ : cy6 K cy2 "law" = some (some (.ref fZ))) (lZ : K.lookup fZ = some ⟨ocZ, odZ, .func (ey2 "law" "law" (zb9 sLaw) (za8 sLaw) (za0 sLaw) .none kVZ dcZ pmZ anZ cdZ ctZ), slZ⟩) (cZ : dy7 K cdZ "law" = true) (kZ : dy6 K (.ref fZ) = true)
  (z0 : cy6 K cy2 "isinstance" = some none)
  (z1 : cy6 K cy2 "int" = some none)
  (z2 : cy6 K cy2 "tuple" = some none)
  (z3 : cy6 K cy2 "len" = some none)
  (z4 : cy6 K cy2 "all" = some none)
  (z5 : cy6 K cy2 "abs" = some none)
  (z6 : cy6 K cy2 "range" = some none)
  (z7 : cy6 K cy2 "divmod" = some none)
  (z8 : cy6 K cy2 "sum" = some none)
  (z9 : cy6 K cy2 "sorted" = some none)
  (z10 : cy6 K cy2 "str" = some none)
  (z11 : cy6 K cy2 "enumerate" = some none)
  (z12 : cy6 K cy2 "max" = some none)
  (z13 : cy6 K cy2 "set" = some none)
  (z14 : cy6 K cy2 "bool" = some none)
  (z15 : cy6 K cy2 "dict" = some none)
  (z16 : cy6 K cy2 "list" = some none)
  (z17 : cy6 K cy2 "any" = some none)
  (z18 : cy6 K cy2 "min" = some none)
  (aLet : cy6 K cy2 "LETTERS" = some (some (.str "abcdefghijklmnopqrstuvwxyz" tl)))
  (aLon : cy6 K cy2 "LONGEST_NAME" = some (some (.int 8 tn)))
  (aKin : cy6 K cy2 "KINDS" = some (some (.ref kdA)))
  (lKin : K.lookup kdA = some ⟨.type "tuple", odJ, .seq #[.str "send" t1, .str "take" t2] nK, slJ⟩)
  : ∃ fd : fy7, (∀ (s : Shared) (v : Value), BindsTo s fd ⟨[v], []⟩ [("_law_script", v)]) /\ ∀ base : Heap, K.In base -> base.Ns cy2 mg -> zj9 l.prog w K mg base CX0 6 fa fd ["_law_script"] (zb08 K) := by
 have e := hfa.symm.trans (ey4 X G aZ);cases e;have T : TxtN K mg kdA := ⟨⟨ey3 X G z0, ey3 X G z1, ey3 X G z2, ey3 X G z3, ey3 X G z4, ey3 X G z5, ey3 X G z6, ey3 X G z7, ey3 X G z8, ey3 X G z9, ey3 X G z10, ey3 X G z11, ey3 X G z12, ey3 X G z13, ey3 X G z14, ey3 X G z15, ey3 X G z16, ey3 X G z17, ey3 X G z18⟩, ⟨tl, ey4 X G aLet⟩, ⟨tn, ey4 X G aLon⟩, ey4 X G aKin, fun H => .inr ⟨_, _, _, lKin, rfl, rfl, (by show 2 <= by2; decide), .cons ⟨_, rfl⟩ (.cons ⟨_, rfl⟩ .nil)⟩⟩
 have FN := zd3 (st := zw4) lN cN kN;have FD := zd3 (st := zH9) lD cD kD;have FO := zd3 (st := zl9) lO cO kO;have FC := zd3 (st := sCan) lC cC kC;have FF := zd3 (st := sDo) lF cF kF;have FB := zd3 (st := zn9) lB cB kB;have FS := zd3 (st := zg0) lS cS kS;have FV := zd3 (st := zx8) lV cV kV;have FG := zd3 (st := zf7) lG cG kG;have FL := zd3 (st := zh1) lL cL kL;have FX1 := zd3 (st := zs3) lX1 cX1 kX1;have FP := zd3 (st := zM1) lP cP kP;have FR := zd3 (st := zw5) lR cR kR;have FH := zd3 (st := zw6) lH cH kH;have FX2 := zd3 (st := zh6) lX2 cX2 kX2;have FX3 := zd3 (st := zk3) lX3 cX3 kX3;have FX4 := zd3 (st := zM2) lX4 cX4 kX4;have FQ := zd3 (st := sRow) lQ cQ kQ;have FX5 := zd3 (st := zp5) lX5 cX5 kX5;have FX6 := zd3 (st := zp6) lX6 cX6 kX6;have FX7 := zd3 (st := zw7) lX7 cX7 kX7;have FX8 := zd3 (st := zC6) lX8 cX8 kX8;have FX9 := zd3 (st := zM3) lX9 cX9 kX9;have FY1 := zd3 (st := zk4) lY1 cY1 kY1;have FZ := zd3 (st := sLaw) lZ cZ kZ;have bN := FN.binds (ps := ["thing"]) fun _ _ _ _ _ _ us hl => by obtain ⟨a0, rfl⟩ := us1 hl; rfl
 have bD := FD.binds (ps := ["thing"]) fun _ _ _ _ _ _ us hl => by obtain ⟨a0, rfl⟩ := us1 hl; rfl
 have bO := FO.binds (ps := ["deed"]) fun _ _ _ _ _ _ us hl => by obtain ⟨a0, rfl⟩ := us1 hl; rfl
 have bC := FC.binds (ps := ["lines", "deed"]) fun _ _ _ _ _ _ us hl => by obtain ⟨a0, a1, rfl⟩ := us2 hl; rfl
 have bF := FF.binds (ps := ["lines", "deed"]) fun _ _ _ _ _ _ us hl => by obtain ⟨a0, a1, rfl⟩ := us2 hl; rfl
 have bB := FB.binds (ps := ["row"]) fun _ _ _ _ _ _ us hl => by obtain ⟨a0, rfl⟩ := us1 hl; rfl
 have bS := FS.binds (ps := ["row"]) fun _ _ _ _ _ _ us hl => by obtain ⟨a0, rfl⟩ := us1 hl; rfl
 have bV := FV.binds (ps := ["row", "hand"]) fun _ _ _ _ _ _ us hl => by obtain ⟨a0, a1, rfl⟩ := us2 hl; rfl
 have bG := FG.binds (ps := ["row"]) fun _ _ _ _ _ _ us hl => by obtain ⟨a0, rfl⟩ := us1 hl; rfl
 have bL := FL.binds (ps := ["begun", "views"]) fun _ _ _ _ _ _ us hl => by obtain ⟨a0, a1, rfl⟩ := us2 hl; rfl
 have bX1 := FX1.binds (ps := ["_law_cell"]) fun _ _ _ _ _ _ us hl => by obtain ⟨a0, rfl⟩ := us1 hl; rfl
 have bP := FP.binds (ps := ["_law_script", "_law_k"]) fun _ _ _ _ _ _ us hl => by obtain ⟨a0, a1, rfl⟩ := us2 hl; rfl
 have bR := FR.binds (ps := ["_law_pack_here", "_law_size"]) fun _ _ _ _ _ _ us hl => by obtain ⟨a0, a1, rfl⟩ := us2 hl; rfl
 have bH := FH.binds (ps := ["_law_pack_here"]) fun _ _ _ _ _ _ us hl => by obtain ⟨a0, rfl⟩ := us1 hl; rfl
 have bX2 := FX2.binds (ps := ["_law_pack_here", "_law_hands_here"]) fun _ _ _ _ _ _ us hl => by obtain ⟨a0, a1, rfl⟩ := us2 hl; rfl
 have bX3 := FX3.binds (ps := ["_law_pack_here", "_law_under"]) fun _ _ _ _ _ _ us hl => by obtain ⟨a0, a1, rfl⟩ := us2 hl; rfl
 have bX4 := FX4.binds (ps := ["_law_under", "_law_deed"]) fun _ _ _ _ _ _ us hl => by obtain ⟨a0, a1, rfl⟩ := us2 hl; rfl
 have bQ := FQ.binds (ps := ["_law_pack_here", "_law_hands_here", "_law_letters", "_law_story"]) fun _ _ _ _ _ _ us hl => by obtain ⟨a0, a1, a2, a3, rfl⟩ := us4 hl; rfl
 have bX5 := FX5.binds (ps := ["_law_deed"]) fun _ _ _ _ _ _ us hl => by obtain ⟨a0, rfl⟩ := us1 hl; rfl
 have bX6 := FX6.binds (ps := ["_law_row_here", "_law_hand_here"]) fun _ _ _ _ _ _ us hl => by obtain ⟨a0, a1, rfl⟩ := us2 hl; rfl
 have bX7 := FX7.binds (ps := ["_law_row_here"]) fun _ _ _ _ _ _ us hl => by obtain ⟨a0, rfl⟩ := us1 hl; rfl
 have bX8 := FX8.binds (ps := ["_law_row_here"]) fun _ _ _ _ _ _ us hl => by obtain ⟨a0, rfl⟩ := us1 hl; rfl
 have bX9 := FX9.binds (ps := ["_law_pack_here", "_law_row_here", "_law_turns"]) fun _ _ _ _ _ _ us hl => by obtain ⟨a0, a1, a2, rfl⟩ := us3 hl; rfl
 have bY1 := FY1.binds (ps := ["_law_ahead", "_law_row_here"]) fun _ _ _ _ _ _ us hl => by obtain ⟨a0, a1, rfl⟩ := us2 hl; rfl
 exact ⟨ey2 "law" "law" (zb9 sLaw) (za8 sLaw) (za0 sLaw) .none kVZ dcZ pmZ anZ cdZ ctZ, fun s v => .of_eq rfl, fun base _ _ => ze16 FZ T ⟨⟨⟨FN, bN, ey4 X G aN⟩, ⟨FD, bD, ey4 X G aD⟩, ⟨FC, bC, ey4 X G aC⟩, ⟨FF, bF, ey4 X G aF⟩, ⟨FB, bB, ey4 X G aB⟩, ⟨FO, bO, ey4 X G aO⟩⟩, ⟨FS, bS, ey4 X G aS⟩, ⟨FV, bV, ey4 X G aV⟩, ⟨FL, bL, ey4 X G aL⟩⟩ ⟨⟨FX5, bX5, ey4 X G aX5⟩, ⟨FX6, bX6, ey4 X G aX6⟩, ⟨FX7, bX7, ey4 X G aX7⟩, ⟨FX8, bX8, ey4 X G aX8⟩⟩ ⟨⟨FR, bR, ey4 X G aR⟩, ⟨FX2, bX2, ey4 X G aX2⟩, ⟨FX3, bX3, ey4 X G aX3⟩, ⟨FX4, bX4, ey4 X G aX4⟩⟩ ⟨⟨FX1, bX1, ey4 X G aX1⟩, ⟨FP, bP, ey4 X G aP⟩, ⟨FH, bH, ey4 X G aH⟩, ⟨FQ, bQ, ey4 X G aQ⟩, ⟨FX9, bX9, ey4 X G aX9⟩, ⟨FY1, bY1, ey4 X G aY1⟩, ⟨FG, bG, ey4 X G aG⟩⟩⟩
theorem walk {l : PySem.W.OpenLaw} {q : cy8} {loose : List Str} {XP : (Str -> Option Value) -> Heap -> Prop} {YP : World -> Heap -> Prop} {d : DefRec} {K : Params -> ay5} (hn : l.most = some 63) (hdf : d.params.defaults = [])
  (hY : ∀ (w : World) (h : Heap), YP w h -> (K w.params).In h)
  (F : ∀ (w : World) (mg : Str -> Option Value) (fa : Addr) (h : Heap), (K w.params).In h -> h.Ns cy2 mg -> mg d.name = some (.ref fa) ->
   ∃ fd : fy7, (∀ (s : Shared) (u : Value), BindsTo s fd ⟨[u], []⟩ [("_law_script", u)]) /\ ∀ base : Heap, (K w.params).In base -> base.Ns cy2 mg -> zj9 l.prog w (K w.params) mg base CX0 6 fa fd ["_law_script"] (zb08 (K w.params))) :
  PySem.W.WalkO q loose XP YP l.row.toRowW d [] (fun f vs => PySem.call f vs) :=
 L2.zb34 (n := 63) (k := 6) (x := "_law_script") (CX := fun _ => CX0) (sp := fun w => zb08 (K w.params)) hn (by decide) hdf ⟨rfl, by decide, by decide⟩ hY F (fun _ _ a ns hl hb _ hS => zb09 hl hb hS) fun _ _ _ _ _ z => z
end K1
open PySem PySem.W PyProof.Rows
set_option maxRecDepth 100000 in
set_option maxHeartbeats 0 in
theorem PySem.Challenge.cw_talehands_k14_least_rows_holds : PySem.Challenge.rw_talehands_k14_least_rows.Holds := by
 w_on; o_law; k_head; (case hw => w_witness2)
 k_fill
 refine K1.walk (l := PySem.Challenge.rw_talehands_k14_least_rows) rfl rfl (fun w h Y => PySem.W.kIn_of Y) ?F
 case F =>
  intro w mg fa h KX G hmg;refine' K1.all_mk KX G hmg ?aN ?lN ?cN ?kN ?aD ?lD ?cD ?kD ?aO ?lO ?cO ?kO ?aC ?lC ?cC ?kC ?aF ?lF ?cF ?kF ?aB ?lB ?cB ?kB ?aS ?lS ?cS ?kS ?aV ?lV ?cV ?kV ?aG ?lG ?cG ?kG ?aL ?lL ?cL ?kL ?aX1 ?lX1 ?cX1 ?kX1 ?aP ?lP ?cP ?kP ?aR ?lR ?cR ?kR ?aH ?lH ?cH ?kH ?aX2 ?lX2 ?cX2 ?kX2 ?aX3 ?lX3 ?cX3 ?kX3 ?aX4 ?lX4 ?cX4 ?kX4 ?aQ ?lQ ?cQ ?kQ ?aX5 ?lX5 ?cX5 ?kX5 ?aX6 ?lX6 ?cX6 ?kX6 ?aX7 ?lX7 ?cX7 ?kX7 ?aX8 ?lX8 ?cX8 ?kX8 ?aX9 ?lX9 ?cX9 ?kX9 ?aY1 ?lY1 ?cY1 ?kY1 ?aZ ?lZ ?cZ ?kZ ?z0 ?z1 ?z2 ?z3 ?z4 ?z5 ?z6 ?z7 ?z8 ?z9 ?z10 ?z11 ?z12 ?z13 ?z14 ?z15 ?z16 ?z17 ?z18 ?aLet ?aLon ?aKin ?lKin
  (case aN => k_is)
  (case lN => k_is)
  (case cN => k_is)
  (case kN => k_is)
  (case aD => k_is)
  (case lD => k_is)
  (case cD => k_is)
  (case kD => k_is)
  (case aO => k_is)
  (case lO => k_is)
  (case cO => k_is)
  (case kO => k_is)
  (case aC => k_is)
  (case lC => k_is)
  (case cC => k_is)
  (case kC => k_is)
  (case aF => k_is)
  (case lF => k_is)
  (case cF => k_is)
  (case kF => k_is)
  (case aB => k_is)
  (case lB => k_is)
  (case cB => k_is)
  (case kB => k_is)
  (case aS => k_is)
  (case lS => k_is)
  (case cS => k_is)
  (case kS => k_is)
  (case aV => k_is)
  (case lV => k_is)
  (case cV => k_is)
  (case kV => k_is)
  (case aG => k_is)
  (case lG => k_is)
  (case cG => k_is)
  (case kG => k_is)
  (case aL => k_is)
  (case lL => k_is)
  (case cL => k_is)
  (case kL => k_is)
  (case aX1 => k_is)
  (case lX1 => k_is)
  (case cX1 => k_is)
  (case kX1 => k_is)
  (case aP => k_is)
  (case lP => k_is)
  (case cP => k_is)
  (case kP => k_is)
  (case aR => k_is)
  (case lR => k_is)
  (case cR => k_is)
  (case kR => k_is)
  (case aH => k_is)
  (case lH => k_is)
  (case cH => k_is)
  (case kH => k_is)
  (case aX2 => k_is)
  (case lX2 => k_is)
  (case cX2 => k_is)
  (case kX2 => k_is)
  (case aX3 => k_is)
  (case lX3 => k_is)
  (case cX3 => k_is)
  (case kX3 => k_is)
  (case aX4 => k_is)
  (case lX4 => k_is)
  (case cX4 => k_is)
  (case kX4 => k_is)
  (case aQ => k_is)
  (case lQ => k_is)
  (case cQ => k_is)
  (case kQ => k_is)
  (case aX5 => k_is)
  (case lX5 => k_is)
  (case cX5 => k_is)
  (case kX5 => k_is)
  (case aX6 => k_is)
  (case lX6 => k_is)
  (case cX6 => k_is)
  (case kX6 => k_is)
  (case aX7 => k_is)
  (case lX7 => k_is)
  (case cX7 => k_is)
  (case kX7 => k_is)
  (case aX8 => k_is)
  (case lX8 => k_is)
  (case cX8 => k_is)
  (case kX8 => k_is)
  (case aX9 => k_is)
  (case lX9 => k_is)
  (case cX9 => k_is)
  (case kX9 => k_is)
  (case aY1 => k_is)
  (case lY1 => k_is)
  (case cY1 => k_is)
  (case kY1 => k_is)
  (case aZ => k_is)
  (case lZ => k_is)
  (case cZ => k_is)
  (case kZ => k_is)
  (case z0 => k_is)
  (case z1 => k_is)
  (case z2 => k_is)
  (case z3 => k_is)
  (case z4 => k_is)
  (case z5 => k_is)
  (case z6 => k_is)
  (case z7 => k_is)
  (case z8 => k_is)
  (case z9 => k_is)
  (case z10 => k_is)
  (case z11 => k_is)
  (case z12 => k_is)
  (case z13 => k_is)
  (case z14 => k_is)
  (case z15 => k_is)
  (case z16 => k_is)
  (case z17 => k_is)
  (case z18 => k_is)
  (case aLet => k_is)
  (case aLon => k_is)
  (case aKin => k_is)
  (case lKin => k_is)
